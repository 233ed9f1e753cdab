import PyProof.Rows.All
import Wide.All
import OpenK.AllK
import Wide.FinOn
import PyProof.EqAt
import PyProof.EqKinds
import PyProof.TupleCall
import KE.BitLaws
import KE.OsGo
import Open.SpecLaws
import PyWqatck
import KE.KSortTupG
import PyProof.SetRoads
import PyProof.ForAny
import PyProof.CollectWalk
import PySem.Challenge.RW_envelopewords_s04_chain
set_option Elab.async false
set_option linter.all false
set_option maxRecDepth 100000
/-! THE HAND LAYER, for ints, bools, texts, own classes, lists, tuples, dicts, comprehensions, walks over dicts, enumerate, zip, reversed, texts, calls, loops. Paste it whole ahead of your own text; what your proof does not reach may be deleted. -/
namespace L2
open PySem PySem.Spec PyProof.Rows

/-- a key: an int or a str -/
abbrev Key := Sum Int Str
def keyIs : Key → Value → Bool
  | .inl k, v => Value.isInt k v
  | .inr x, v => Value.isStrOf x v
def keyH (w : World) : Key → Int
  | .inl k => hashInt k
  | .inr x => hashStr w x
theorem keyIs_shape : ∀ {k : Key} {v : Value}, keyIs k v = true → (∃ i t, k = Sum.inl i ∧ v = Value.int i t) ∨ (∃ x t, k = Sum.inr x ∧ v = Value.str x t)
  | .inl i, v, h => by
    obtain ⟨t, e⟩ := Value.isInt_shape (k := i) (v := v) h
    exact .inl ⟨i, t, rfl, e⟩
  | .inr x, v, h => by
    obtain ⟨t, e⟩ := Value.isStrOf_shape (x := x) (v := v) h
    exact .inr ⟨x, t, rfl, e⟩
theorem keyIs_int (i : Int) (t : Tok) : keyIs (.inl i) (.int i t) = true := by simp [keyIs, Value.isInt]
theorem keyIs_str (x : Str) (t : Tok) : keyIs (.inr x) (.str x t) = true := by simp [keyIs, Value.isStrOf]
theorem key_ll (a b : Int) : decide ((Sum.inl a : Key) = Sum.inl b) = (a == b) := by
  by_cases e : a = b
  · subst e; simp
  · have h : ¬ (Sum.inl a : Key) = Sum.inl b := fun q => e (Sum.inl.inj q)
    rw [decide_eq_false h]
    exact (beq_eq_false_iff_ne.mpr e).symm
theorem key_rr (a b : Str) : decide ((Sum.inr a : Key) = Sum.inr b) = decide (a = b) := by
  by_cases e : a = b
  · subst e; simp
  · have h : ¬ (Sum.inr a : Key) = Sum.inr b := fun q => e (Sum.inr.inj q)
    rw [decide_eq_false h, decide_eq_false e]
theorem key_lr (a : Int) (b : Str) : decide ((Sum.inl a : Key) = Sum.inr b) = false := decide_eq_false (fun q => nomatch q)
theorem key_rl (a : Str) (b : Int) : decide ((Sum.inr a : Key) = Sum.inl b) = false := decide_eq_false (fun q => nomatch q)

def mixKind (prog : Program) (w : World) : PySem.KeyKind prog w Key where
  is := keyIs
  hash := keyH w
  inj := fun v a b ha hb => by
    rcases keyIs_shape ha with ⟨i, t, rfl, rfl⟩ | ⟨x, t, rfl, rfl⟩
    · rcases keyIs_shape hb with ⟨j, u, rfl, e⟩ | ⟨y, u, rfl, e⟩
      · injection e with e1 _; rw [e1]
      · exact nomatch e
    · rcases keyIs_shape hb with ⟨j, u, rfl, e⟩ | ⟨y, u, rfl, e⟩
      · exact nomatch e
      · injection e with e1 _; rw [e1]
  byValue := fun k v h => by
    rcases keyIs_shape h with ⟨i, t, rfl, rfl⟩ | ⟨x, t, rfl, rfl⟩ <;> rfl
  pyHash := fun hv h => by
    rcases keyIs_shape hv with ⟨i, t, rfl, rfl⟩ | ⟨x, t, rfl, rfl⟩
    · exact wpAny_pyHash_int h
    · exact wpAny_pyHash_str h
  eqBool := fun hu hv h => by
    rcases keyIs_shape hu with ⟨i, t, rfl, rfl⟩ | ⟨x, t, rfl, rfl⟩
    · rcases keyIs_shape hv with ⟨j, u, rfl, rfl⟩ | ⟨y, u, rfl, rfl⟩
      · rw [key_ll] at h; exact wpAny_eqBool_int h
      · rw [key_lr] at h; exact SeqAt.EqAt.int_str i t y u _ _ _ _ h
    · rcases keyIs_shape hv with ⟨j, u, rfl, rfl⟩ | ⟨y, u, rfl, rfl⟩
      · rw [key_rl] at h; exact SeqAt.EqAt.str_int x t j u _ _ _ _ h
      · rw [key_rr] at h; exact wpAny_eqBool_str h
  «strs» := fun k x t v h => by
    rcases keyIs_shape h with ⟨i, u, rfl, e⟩ | ⟨y, u, rfl, e⟩
    · exact nomatch e
    · injection e with e1 _
      subst e1
      cases v <;> rfl

theorem mixKind_int (prog : Program) (w : World) (i : Int) (t : Tok) : (mixKind prog w).is (.inl i) (.int i t) = true := keyIs_int i t
theorem mixKind_str (prog : Program) (w : World) (x : Str) (t : Tok) : (mixKind prog w).is (.inr x) (.str x t) = true := keyIs_str x t
end L2

namespace L2
open PySem PySem.Spec PyProof.Rows

/-- a value, without the heap -/
inductive V where
  | non | bl (b : Bool) | int (i : Int) | str (x : Str) | byt (b : Array UInt8) | flt (b : UInt64) | ref (a : Addr) | ty (n : String)
  deriving DecidableEq

def RelV : V → Value → Prop
  | .non, u => u = Value.none
  | .bl b, u => u = Value.bool b
  | .int i, u => ∃ t, u = Value.int i t
  | .str x, u => ∃ t, u = Value.str x t
  | .byt b, u => ∃ t, u = Value.bytes b t
  | .flt b, u => ∃ t, u = Value.float b t
  | .ref a, u => u = Value.ref a
  | .ty n, u => u = Value.type n

abbrev Vals : List V → List Value → Prop := Paired RelV
theorem Vals.length {xs : List V} {us : List Value} (r : Vals xs us) : xs.length = us.length := Paired.length r
theorem Vals.get : ∀ {xs : List V} {us : List Value} {i : Nat} {x : V}, Vals xs us → xs[i]? = some x → ∃ u, us[i]? = some u ∧ RelV x u
  | _, _, _, _, .nil, e => by simp at e
  | _, _, 0, _, .cons r _, e => by simp at e; subst e; exact ⟨_, rfl, r⟩
  | _, _, i + 1, x, .cons _ t, e => by
    obtain ⟨u, h1, h2⟩ := Vals.get (i := i) (x := x) t (by simpa using e)
    exact ⟨u, by simpa using h1, h2⟩
theorem Vals.append : ∀ {xs ys : List V} {us ws : List Value}, Vals xs us → Vals ys ws → Vals (xs ++ ys) (us ++ ws)
  | _, _, _, _, .nil, s => s
  | _, _, _, _, .cons r t, s => .cons r (Vals.append t s)
theorem Vals.take : ∀ {xs : List V} {us : List Value} (n : Nat), Vals xs us → Vals (xs.take n) (us.take n)
  | _, _, 0, _ => .nil
  | _, _, _ + 1, .nil => .nil
  | _, _, n + 1, .cons r t => .cons r (Vals.take n t)
theorem Vals.drop : ∀ {xs : List V} {us : List Value} (n : Nat), Vals xs us → Vals (xs.drop n) (us.drop n)
  | _, _, 0, r => r
  | _, _, _ + 1, .nil => .nil
  | _, _, n + 1, .cons _ t => Vals.drop n t

def RelO : Option V → Option Value → Prop
  | some v, some u => RelV v u
  | none, none => True
  | _, _ => False
def KV {κ : Type} : List (κ × V) → List (κ × Value) → Prop := Paired fun (p : κ × V) (q : κ × Value) => p.1 = q.1 ∧ RelV p.2 q.2

/-- a key of a dict (00_mix): an int or a text -/
def kV : Key → V
  | .inl i => .int i
  | .inr x => .str x

/-- what stands at a tracked address -/
inductive HO where
  /-- a list -/
  | lst (xs : List V)
  /-- a tuple (never changes) -/
  | tup (xs : List V)
  /-- a dict whose keys are ints and texts; one whose keys are tuples of ints and texts (the empty one is both) -/
  | dK (kvs : List (Key × V)) | dT (kvs : List (List Key × V))
  /-- a set of ints: its members, its size -/
  | set (S : Int → Bool) (n : Nat)
  /-- an instance of the class at C, its dict at dx, its attributes -/
  | ins (C dx : Addr) (fs : List (Str × V))
  /-- the dict of the instance at x -/
  | own (x : Addr)
  /-- the dict of an exception -/
  | xd (fs : List (Str × V))
  /-- a bound method, f of x -/
  | met (f x : Addr)
  /-- a range object lo, lo + 1, .. below hi -/
  | rng (lo hi : Int)
  /-- a thing that is known to the object (the script; a dict while a loop walks it): read, never written while it is so -/
  | frz (o : Obj) (u : HO)
  /-- a code object's table -/
  | tbl (ps : Array Value)
  /-- any other thing, by what is true of its one object (a def of one's own: SetO a S n := HO.ext fun h => ..) -/
  | ext (φ : Heap → Prop)

abbrev Hp := Addr → Option HO
def upd (H : Hp) (a : Addr) (o : HO) : Hp := fun b => if b = a then some o else H b
theorem upd_same {H : Hp} {a : Addr} {o : HO} : upd H a o a = some o := by unfold upd; rw [if_pos rfl]
theorem upd_ne {H : Hp} {a b : Addr} {o : HO} (h : b ≠ a) : upd H a o b = H b := by unfold upd; rw [if_neg h]
/-- two objects of different content stand apart -/
theorem ne_of {H : Hp} {a b : Addr} {o u : HO} (h : H a = some o) (h' : H b = some u) (d : o ≠ u) : a ≠ b := by
  intro e; subst e; rw [h] at h'; exact d (Option.some.inj h')
theorem ne_of_none {H : Hp} {a b : Addr} {o : HO} (h : H a = some o) (h' : H b = none) : a ≠ b := by
  intro e; subst e; rw [h] at h'; cases h'

section
variable (P : Program) (w : World)
def ObjOk (H : Hp) (h : Heap) (a : Addr) : HO → Prop
  | .lst xs => xs.length ≤ sizeLine ∧ ∃ (its : List Value) (n : Nat), Vals xs its ∧ h.get? a = some { cls := .type "list", data := .seq its.toArray n }
  | .tup xs => xs.length ≤ sizeLine ∧ ∃ its : List Value, Vals xs its ∧ IsTup h a its.toArray
  | .dK kvs => kvs.length ≤ sizeLine ∧ (a == sysModules) = false ∧ ∃ vs, KV kvs vs ∧ h.DictOf (mixKind P w) a vs
  | .dT kvs => kvs.length ≤ sizeLine ∧ (a == sysModules) = false ∧ ∃ xs : List (List Key × Addr × Value),
      Paired (fun (p : List Key × V) (q : List Key × Addr × Value) => p.1 = q.1 ∧ H q.2.1 = some (.tup (p.1.map kV)) ∧ RelV p.2 q.2.2) kvs xs ∧
      ∃ o es ep, h.get? a = some o ∧ o.ExactDict ∧ o.data = .dict es ep ∧ es.toList = xs.map (entryOfKey (tupleKind (mixKind P w))) ∧ (xs.map (·.1)).Nodup
  | .set S n => h.SetOf (intKind P w) a S n
  | .ins C dx fs => H dx = some (.own a) ∧ fs.length ≤ 1000 ∧ dx ≠ a ∧ h.get? a = some (PySem.W.instObj C dx) ∧
      ∃ mA, h.Ns1 dx mA ∧ (∀ f, RelO (fs.lookup f) (mA f)) ∧ PySem.Within mA (fs.map (·.1))
  | .own _ => ∃ o, h.get? a = some o
  | .xd fs => ∃ mA, h.Ns1 a mA ∧ ∀ f, RelO (fs.lookup f) (mA f)
  | .rng lo hi => ∃ t u v, h.get? a = some { cls := .type "range", data := .fields #[.int lo t, .int hi u, .int 1 v] }
  | .frz o u => h.get? a = some o ∧ ObjOk H h a u
  | .tbl ps => h.get? a = some { cls := .none, data := .fields ps }
  | .met f x => h.get? a = some (PySem.W.methodObj (.ref f) (.ref x))
  | .ext φ => φ h ∧ (∃ o, h.get? a = some o) ∧ ∀ h1 h2 : Heap, φ h1 → (∀ o, h1.get? a = some o → h2.get? a = some o) → φ h2
/-- the abstract heap is held -/
def HOk (H : Hp) (h : Heap) : Prop := ∀ a o, H a = some o → ObjOk P w H h a o
end

section
variable {P : Program} {w : World} {H H' : Hp} {h h' : Heap} {a : Addr} {o : HO}
theorem ObjOk.lt (x : ObjOk P w H h a o) : a < h.objs.size := by
  cases o with
  | lst xs => obtain ⟨_, _, _, _, e⟩ := x; exact Heap.lt_size e
  | tup xs => obtain ⟨_, _, _, p⟩ := x; exact p.lt
  | dK kvs => obtain ⟨_, _, _, _, o, _, _, e, _⟩ := x; exact Heap.lt_size e
  | dT kvs => obtain ⟨_, _, _, _, o, _, _, e, _⟩ := x; exact Heap.lt_size e
  | set S n => obtain ⟨o, _, _, _, e, _⟩ := x; exact Heap.lt_size e
  | ins C dx fs => obtain ⟨_, _, _, e, _⟩ := x; exact Heap.lt_size e
  | own y => obtain ⟨_, e⟩ := x; exact Heap.lt_size e
  | xd fs => obtain ⟨_, ⟨_, _, _, e, _⟩, _⟩ := x; exact Heap.lt_size e
  | rng lo hi => obtain ⟨_, _, _, e⟩ := x; exact Heap.lt_size e
  | frz ob u => obtain ⟨e, _⟩ := x; exact Heap.lt_size e
  | tbl ps => exact Heap.lt_size (show h.get? a = some _ from x)
  | met f y => exact Heap.lt_size (show h.get? a = some _ from x)
  | ext φ => obtain ⟨_, ⟨_, e⟩, _⟩ := x; exact Heap.lt_size e
theorem Paired.mapP {α β : Type} {F G : α → β → Prop} : ∀ {l₁ : List α} {l₂ : List β}, Paired F l₁ l₂ → (∀ a b, F a b → G a b) → Paired G l₁ l₂
  | _, _, .nil, _ => .nil
  | _, _, .cons r t, f => .cons (f _ _ r) (Paired.mapP t f)
/-- what an object's description leans on: its own object, its own dict, the tuples -/
theorem ObjOk.stay (x : ObjOk P w H h a o) (k : ∀ b u, (b = a ∨ H b = some (.own a)) → h.get? b = some u → h'.get? b = some u)
    (ho : ∀ b, H b = some (.own a) → H' b = some (.own a)) (ht : ∀ b xs, H b = some (.tup xs) → H' b = some (.tup xs)) : ObjOk P w H' h' a o := by
  induction o with
  | lst xs => obtain ⟨z, its, n, r, e⟩ := x; exact ⟨z, its, n, r, k _ _ (.inl rfl) e⟩
  | tup xs => obtain ⟨z, its, r, ob, e, c⟩ := x; exact ⟨z, its, r, ob, k _ _ (.inl rfl) e, c⟩
  | dK kvs => obtain ⟨z, y, vs, r, ob, es, ep, e, c⟩ := x; exact ⟨z, y, vs, r, ob, es, ep, k _ _ (.inl rfl) e, c⟩
  | dT kvs =>
    obtain ⟨z, y, xs, r, ob, es, ep, e, c⟩ := x
    exact ⟨z, y, xs, Paired.mapP r fun p q z => ⟨z.1, ht _ _ z.2.1, z.2.2⟩, ob, es, ep, k _ _ (.inl rfl) e, c⟩
  | set S n => obtain ⟨ob, es, ep, t, e, c⟩ := x; exact ⟨ob, es, ep, t, k _ _ (.inl rfl) e, c⟩
  | ins C dx fs =>
    obtain ⟨d, z, ne, e, mA, ⟨od, es, ep, e2, c⟩, r⟩ := x
    exact ⟨ho _ d, z, ne, k _ _ (.inl rfl) e, mA, ⟨od, es, ep, k _ _ (.inr d) e2, c⟩, r⟩
  | own y => obtain ⟨ob, e⟩ := x; exact ⟨ob, k _ _ (.inl rfl) e⟩
  | xd fs => obtain ⟨mA, ⟨od, es, ep, e, c⟩, r⟩ := x; exact ⟨mA, ⟨od, es, ep, k _ _ (.inl rfl) e, c⟩, r⟩
  | rng lo hi => obtain ⟨t, u, v, e⟩ := x; exact ⟨t, u, v, k _ _ (.inl rfl) e⟩
  | frz ob u ih => obtain ⟨e, q⟩ := x; exact ⟨k _ _ (.inl rfl) e, ih q⟩
  | tbl ps =>
    have e : h.get? a = some { cls := .none, data := .fields ps } := x
    show h'.get? a = some { cls := .none, data := .fields ps }
    exact k a _ (.inl rfl) e
  | met f y =>
    have e : h.get? a = some (PySem.W.methodObj (.ref f) (.ref y)) := x
    show h'.get? a = some (PySem.W.methodObj (.ref f) (.ref y))
    exact k a _ (.inl rfl) e
  | ext φ => obtain ⟨p, ⟨o, e⟩, st⟩ := x; exact ⟨st _ _ p fun o q => k _ _ (.inl rfl) q, ⟨o, k _ _ (.inl rfl) e⟩, st⟩
theorem HOk.lt (x : HOk P w H h) (e : H a = some o) : a < h.objs.size := (x a o e).lt
theorem HOk.fresh (x : HOk P w H h) (e : h.objs.size ≤ a) : H a = none := by
  cases q : H a with
  | none => rfl
  | some u => exact absurd (Nat.lt_of_lt_of_le (x.lt q) e) (Nat.lt_irrefl _)
/-- every object of the heap is kept -/
theorem HOk.kept (x : HOk P w H h) (k : ∀ b u, h.get? b = some u → h'.get? b = some u) : HOk P w H h' := fun a o e =>
  (x a o e).stay (fun b u _ q => k b u q) (fun _ q => q) fun _ _ q => q
/-- a new object is laid and tracked -/
theorem HOk.laid (x : HOk P w H h) (k : ∀ b u, h.get? b = some u → h'.get? b = some u) (hp : h.objs.size ≤ a) (new : ObjOk P w (upd H a o) h' a o) : HOk P w (upd H a o) h' := fun b u e => by
  have hn := x.fresh hp
  by_cases hb : b = a
  · subst hb; rw [upd_same] at e; cases e; exact new
  · rw [upd_ne hb] at e
    exact (x b u e).stay (fun c v _ q => k c v q) (fun c q => by rw [upd_ne (ne_of_none q hn)]; exact q) fun c xs q => by rw [upd_ne (ne_of_none q hn)]; exact q
end

/-- what may be read as u: it is u, or a known u -/
def Rd (H : Hp) (a : Addr) (u : HO) : Prop := H a = some u ∨ ∃ o, H a = some (.frz o u)
theorem Rd.ok {P : Program} {w : World} {H : Hp} {h : Heap} {a : Addr} {u : HO} (r : Rd H a u) (x : HOk P w H h) : ObjOk P w H h a u := by
  rcases r with r | ⟨o, r⟩
  · exact x a u r
  · obtain ⟨_, q⟩ := x a _ r
    exact q
/-- what may be written -/
def Mut : Option HO → Prop
  | some (.lst _) => True
  | some (.dK _) => True
  | some (.dT _) => True
  | some (.set _ _) => True
  | some (.ins _ _ _) => True
  | some (.ext _) => True
  | _ => False
section
variable {P : Program} {w : World} {H : Hp} {h h' : Heap} {x e : Addr} {o' : HO}
/-- the object at e is changed: x itself, or the dict of the instance x -/
theorem HOk.write (ok : HOk P w H h) (mu : Mut (H x)) (he : e = x ∨ H e = some (.own x)) (k : ∀ b u, b ≠ e → h.get? b = some u → h'.get? b = some u) (heo : ∃ u, h'.get? e = some u)
    (new : ObjOk P w (upd H x o') h' x o') : HOk P w (upd H x o') h' := fun b u q => by
  have nown : ∀ c y, H c = some (.own y) → c ≠ x := fun c y r z => by subst z; rw [r] at mu; exact mu
  have ntup : ∀ c xs, H c = some (.tup xs) → c ≠ x := fun c xs r z => by subst z; rw [r] at mu; exact mu
  by_cases hb : b = x
  · subst hb; rw [upd_same] at q; cases q; exact new
  · rw [upd_ne hb] at q
    by_cases hbe : b = e
    · have q' : H b = some (.own x) := by
        rcases he with z | z
        · exact absurd (hbe.trans z) hb
        · rw [hbe]; exact z
      rw [q] at q'; cases q'
      obtain ⟨v, hv⟩ := heo
      exact ⟨v, by rw [hbe]; exact hv⟩
    · refine (ok b u q).stay (fun c v hc r => k c v ?_ r) (fun c r => by rw [upd_ne (nown c b r)]; exact r) fun c xs r => by rw [upd_ne (ntup c xs r)]; exact r
      rcases hc with rfl | hc
      · exact hbe
      · rintro rfl
        rcases he with z | z
        · exact nown c b hc z
        · rw [hc] at z; cases z; exact hb rfl
end

/-! ### kept unless tracked; of the frames at fs (the callers') the slots may change (an exception that passes writes there); of the records at ex (iterators) nothing is said -/
structure Un (fs ex : List Addr) (H H' : Hp) (h h' : Heap) : Prop where
  keep : ∀ b o, h.get? b = some o → H b = none → b ∉ fs → b ∉ ex → h'.get? b = some o
  slot : ∀ b o, h.get? b = some o → H b = none → b ∈ fs → b ∉ ex → ∃ sl, h'.get? b = some { o with slots := sl }
  free : ∀ b o, h.get? b = some o → H b = none → b ∉ ex → H' b = none
  there : ∀ b o, h.get? b = some o → b ∉ ex → ∃ o', h'.get? b = some o'
  tups : ∀ b xs, H b = some (.tup xs) → H' b = some (.tup xs)
  frzs : ∀ b o u, H b = some (.frz o u) → H' b = some (.frz o u)
  tbls : ∀ b ps, H b = some (.tbl ps) → ∃ more, H' b = some (.tbl (ps ++ more))
section
variable {fs fs' ex ex' : List Addr} {H H1 H2 : Hp} {h h1 h2 h' : Heap} {a x e : Addr} {o : HO}
theorem Un.any (u : Un fs ex H H1 h h1) {b : Addr} {ob : Obj} (q : h.get? b = some ob) (n : H b = none) (hx : b ∉ ex) : ∃ sl, h1.get? b = some { ob with slots := sl } := by
  by_cases hb : b ∈ fs
  · exact u.slot b ob q n hb hx
  · exact ⟨ob.slots, u.keep b ob q n hb hx⟩
theorem Un.kept (k : ∀ b u, h.get? b = some u → h'.get? b = some u) : Un fs ex H H h h' :=
  ⟨fun b ob q _ _ _ => k b ob q, fun b ob q _ _ _ => ⟨ob.slots, k b ob q⟩, fun _ _ _ n _ => n, fun b ob q _ => ⟨ob, k b ob q⟩, fun _ _ q => q, fun _ _ _ q => q, fun _ ps q => ⟨#[], by rw [q]; simp⟩⟩
theorem Un.refl : Un fs ex H H h h := Un.kept fun _ _ q => q
theorem Un.laid (k : ∀ b u, h.get? b = some u → h'.get? b = some u) (hp : h.objs.size ≤ a) (hn : H a = none) : Un fs ex H (upd H a o) h h' where
  keep := fun b u q _ _ _ => k b u q
  slot := fun b u q _ _ _ => ⟨u.slots, k b u q⟩
  free := fun b u q n _ => by rw [upd_ne (Nat.ne_of_lt (Nat.lt_of_lt_of_le (Heap.lt_size q) hp))]; exact n
  there := fun b u q _ => ⟨u, k b u q⟩
  tups := fun b xs q => by rw [upd_ne (ne_of_none q hn)]; exact q
  frzs := fun b u xs q => by rw [upd_ne (ne_of_none q hn)]; exact q
  tbls := fun b ps q => ⟨#[], by rw [upd_ne (ne_of_none q hn), q]; simp⟩
theorem Un.write (mu : Mut (H x)) (he : e = x ∨ H e = some (.own x)) (k : ∀ b u, b ≠ e → h.get? b = some u → h'.get? b = some u) (heo : ∃ u, h'.get? e = some u) : Un fs ex H (upd H x o) h h' := by
  have hx : ∀ b, H b = none → b ≠ x := fun b n z => by subst z; rw [n] at mu; exact mu
  have hb : ∀ b, H b = none → b ≠ e := fun b n z => by
    subst z
    rcases he with r | r
    · exact hx b n r
    · rw [n] at r; cases r
  have hm : ∀ b u, H b = some u → ¬ Mut (some u) → b ≠ x := fun b u q nm z => by subst z; rw [q] at mu; exact nm mu
  refine ⟨fun b u q n _ _ => k b u (hb b n) q, fun b u q n _ _ => ⟨u.slots, k b u (hb b n) q⟩, fun b u q n _ => by rw [upd_ne (hx b n)]; exact n, fun b u q _ => ?_,
    fun b xs q => by rw [upd_ne (hm b _ q fun z => z)]; exact q, fun b u xs q => by rw [upd_ne (hm b _ q fun z => z)]; exact q, fun b ps q => ⟨#[], by rw [upd_ne (hm b _ q fun z => z), q]; simp⟩⟩
  by_cases hbe : b = e
  · subst hbe; exact heo
  · exact ⟨u, k b u hbe q⟩
end

/-! ### the heap without what is tracked -/
def trk (h : Heap) (H : Hp) : List Addr := (List.range h.objs.size).filter fun a => (H a).isSome
def hidT (h : Heap) (H : Hp) : Heap := PySem.W.hideAll h (trk h H)
theorem hidT_size (h : Heap) (H : Hp) : (hidT h H).objs.size = h.objs.size := PySem.W.hideAll_size _ _
theorem hidT_get {h : Heap} {H : Hp} {b : Addr} {o : Obj} (e : h.get? b = some o) (n : H b = none) : (hidT h H).get? b = some o :=
  PySem.W.hideAll_get _ e fun hm => by
    have q : (H b).isSome = true := (List.mem_filter.mp hm).2
    rw [n] at q; simp at q
theorem of_hidT {h : Heap} {H : Hp} {b : Addr} {o : Obj} (e : (hidT h H).get? b = some o) : h.get? b = some o ∧ H b = none := by
  have e' : h.get? b = some o := PySem.W.of_hideAll (trk h H) e
  refine ⟨e', ?_⟩
  cases q : H b with
  | none => rfl
  | some x =>
    have hm : b ∈ trk h H := List.mem_filter.mpr ⟨List.mem_range.mpr (Heap.lt_size e'), by simp [q]⟩
    have z : (hidT h H).get? b = none := PySem.W.hideAll_none (trk h H) hm
    rw [z] at e; cases e

/-! ### OpenK's ledger, filled with every new object but one -/
def allNews (g h : Heap) (L : Addr) : List (Addr × Obj) := (List.range h.objs.size).filterMap fun a => if a = L ∨ (g.get? a).isSome = true then none else (h.get? a).map fun o => (a, o)
def rest (g h : Heap) (L d : Addr) : List (Addr × Obj) := (allNews g h L).filter fun p => decide (p.1 ≠ d)
end L2

namespace L2
open PySem PySem.Spec PyProof.Rows

/-- the module's facts, over the base: the heap at the law's entry without what is tracked there -/
structure Mod (K : PySem.W.Frag) (mg : Str → Option Value) (base : Heap) : Prop where
  kin : K.In base
  glob : base.Ns mainGlobals mg
  blt : ∃ mb, base.Ns builtinsNs mb ∧ ∀ x : Str, x ≠ "__name__" → mb x = bootBuiltins x
  nolimit : base.NoLimit

/-- the context: a def's body (or a comprehension's block) running. base: fixed through the whole law; s₀, H₀: the entry; outer: the frames whose slots others may change (a def's callers); stack: all frames that run;
   ex: iterators that were made ahead of the entry and are walked here (a comprehension's); fn: the names whose cells were made at the entry (a def: all; a comprehension's block: its own); calm: not within an except suite; pn: pins that every state bears; xe: what is wanted of an exception that leaves the code -/
structure Cx where
  prog : Program
  w : World
  K : PySem.W.Frag
  mg : Str → Option Value
  base : Heap
  A : Around
  N : List Str
  s_0 : Shared
  H_0 : Hp
  env : Env
  outer : List Env
  stack : List Env
  ex : List Addr
  fn : Str → Bool
  calm : Bool
  pn : List (Addr × Obj)
  xe : Value → Shared → Prop
/-- the callers' frames -/
def frs (l : List Env) : List Addr := l.filterMap (·.frame)
abbrev Cx.fs (X : Cx) : List Addr := frs X.outer

def Vis (sc : Scope) (x : Str) : Prop := sc.names.lookup x = some .local ∨ sc.names.lookup x = some .cell ∨ sc.names.lookup x = some .free
def Loc (sc : Scope) (x : Str) : Prop := sc.names.lookup x = some .local ∨ sc.names.lookup x = some .cell
def Look (env : Env) (h : Heap) (m : Str → Option Value) (x : Str) (u : Value) : Prop :=
  (env.kindOf x = some .local ∧ m x = some u) ∨ ((env.kindOf x = some .cell ∨ env.kindOf x = some .free) ∧ ∃ c, env.cells.lookup x = some c ∧ h.IsCell c (some u))

structure Cx.Ok (X : Cx) : Prop where
  mod : Mod X.K X.mg X.base
  kind : X.env.scope.kind = .function
  glob : X.env.globals = mainGlobals
  blt : X.env.builtins = builtinsNs
  above : X.s_0.heap.objs.size ≤ X.env.locals
  inj : ∀ x y c, X.env.cells.lookup x = some c → X.env.cells.lookup y = some c → x = y
  has : ∀ x, (X.env.kindOf x = some .cell ∨ X.env.kindOf x = some .free) → ∃ c, X.env.cells.lookup x = some c
  cab : ∀ x c, X.fn x = true → X.env.cells.lookup x = some c → X.s_0.heap.objs.size ≤ c
  hd : X.calm = true → X.A.handled = none
  frames : X.A.frames = some X.stack
  stk : X.stack = X.outer ∨ (X.stack = X.env :: X.outer ∧ X.env.frame = some X.env.locals)
  exf : ∀ b ∈ X.ex, b ≠ X.env.locals ∧ ∀ x c, X.env.cells.lookup x = some c → c ≠ b
  bs : ∀ b o, X.base.get? b = some o → X.s_0.heap.get? b = some o ∧ X.H_0 b = none
  bsz : X.base.objs.size ≤ X.s_0.heap.objs.size
  noex : ∀ b o, X.base.get? b = some o → b ∉ X.ex
  exfs : ∀ b ∈ X.ex, b ∉ X.fs
  funs : X.s_0.heap.FunFrames X.base X.outer
  frf : ∀ b ∈ X.fs, X.H_0 b = none

structure Inv (X : Cx) (pins : List (Addr × Obj)) (σ : List (Option V)) (H : Hp) (s : Shared) : Prop where
  ok : X.Ok
  os : s.os = X.s_0.os
  bare : AllBare s.gens
  base : Un X.fs X.ex X.H_0 H X.s_0.heap s.heap
  loc : ∃ m, s.heap.Ns X.env.locals m ∧ ∀ (i : Nat) (x : Str) (v : V), X.N[i]? = some x → σ[i]? = some (some v) → Vis X.env.scope x → ∃ u, RelV v u ∧ Look X.env s.heap m x u
  cell : ∀ x c, X.env.cells.lookup x = some c → ∃ v, s.heap.IsCell c v
  free : H X.env.locals = none
  freeC : ∀ x c, X.env.cells.lookup x = some c → H c = none
  pin : ∀ p ∈ X.pn ++ pins, s.heap.get? p.1 = some p.2 ∧ H p.1 = none ∧ p.1 ≠ X.env.locals ∧ p.1 ∉ X.fs ∧ ∀ v, p.2.data ≠ .cell v
  hok : HOk X.prog X.w H s.heap
  len : σ.length = X.N.length

section
variable {X : Cx} {pins : List (Addr × Obj)} {σ : List (Option V)} {H H' : Hp} {s : Shared} {h' : Heap}

theorem Cx.Ok.nofr (ok : X.Ok) {b : Addr} {o : Obj} (e : X.base.get? b = some o) : b ∉ X.fs := fun hb => by
  have := (ok.funs.mem hb).1
  rw [e] at this; cases this
theorem Inv.bs (I : Inv X pins σ H s) : ∀ b o, X.base.get? b = some o → s.heap.get? b = some o ∧ H b = none := fun b o e =>
  ⟨I.base.keep b o (I.ok.bs b o e).1 (I.ok.bs b o e).2 (I.ok.nofr e) (I.ok.noex b o e), I.base.free b o (I.ok.bs b o e).1 (I.ok.bs b o e).2 (I.ok.noex b o e)⟩
theorem Inv.bk (I : Inv X pins σ H s) : ∀ b o, X.base.get? b = some o → s.heap.get? b = some o := fun b o e => (I.bs b o e).1
theorem Inv.mod (I : Inv X pins σ H s) : Mod X.K X.mg X.base := I.ok.mod
theorem Inv.kIn (I : Inv X pins σ H s) : X.K.In s.heap := I.ok.mod.kin.keeps I.bk
/-- the frame over the base: for OpenK's rules (K.In X.base is I.mod.kin) -/
theorem Inv.fr (I : Inv X pins σ H s) : ∃ m, Fr X.base X.env.locals s.heap m :=
  let ⟨m, hn, _⟩ := I.loc
  ⟨m, hn, I.bk, Nat.le_trans I.ok.bsz I.ok.above⟩
theorem Inv.lt (I : Inv X pins σ H s) : X.env.locals < s.heap.objs.size := let ⟨_, hn, _⟩ := I.loc; hn.lt
theorem Inv.sz (I : Inv X pins σ H s) : X.s_0.heap.objs.size ≤ s.heap.objs.size := Nat.le_trans I.ok.above (Nat.le_of_lt I.lt)
theorem Inv.nofs (I : Inv X pins σ H s) {a : Addr} (h : s.heap.objs.size ≤ a) : a ∉ X.fs := fun hb => by
  obtain ⟨_, o, ho, _⟩ := I.ok.funs.mem hb
  exact absurd (Nat.lt_of_lt_of_le (Heap.lt_size ho) (Nat.le_trans I.sz h)) (Nat.lt_irrefl _)
theorem Inv.cne (I : Inv X pins σ H s) : ∀ x c, X.env.cells.lookup x = some c → c ≠ X.env.locals := fun x c e z => by
  obtain ⟨v, o, ho, hd⟩ := I.cell x c e
  obtain ⟨m, ⟨o', es, ep, ho', hd', _⟩, _⟩ := I.loc
  rw [z, ho'] at ho; cases ho; rw [hd'] at hd; cases hd
theorem Inv.funs (I : Inv X pins σ H s) : s.heap.FunFrames X.base X.outer := by
  have all : ∀ (l : List Env), (∀ b ∈ frs l, b ∈ X.fs) → X.s_0.heap.FunFrames X.base l → s.heap.FunFrames X.base l := by
    intro l
    induction l with
    | nil => intro _ _; trivial
    | cons env r ih =>
      intro hs hl
      obtain ⟨hk, ⟨L, o, hf, hn, ho, hd⟩, hr⟩ := hl
      have hL : L ∈ X.fs := hs L (by unfold frs; rw [List.filterMap_cons, hf]; exact List.mem_cons_self)
      obtain ⟨sl, e⟩ := I.base.slot L o ho (I.ok.frf L hL) hL fun z => I.ok.exfs L z hL
      exact ⟨hk, ⟨L, _, hf, hn, e, hd⟩, ih (fun b hb => hs b (by unfold frs; rw [List.filterMap_cons, hf]; exact List.mem_cons_of_mem _ hb)) hr⟩
  exact all X.outer (fun _ hb => hb) I.ok.funs

/-- the frames that run, for a call -/
theorem Inv.stack (I : Inv X pins σ H s) : s.heap.FunFrames X.base X.stack := by
  rcases I.ok.stk with e | ⟨e, hf⟩
  · rw [e]; exact I.funs
  · rw [e]
    obtain ⟨m, hn, _⟩ := I.loc
    refine .cons (by rw [I.ok.kind]; decide) hf hn ?_ I.funs
    exact Heap.get?_none_of_le (Nat.le_trans I.ok.bsz I.ok.above)
theorem Inv.stkSub (I : Inv X pins σ H s) : ∀ b ∈ frs X.stack, b ∈ X.env.locals :: X.fs := fun b hb => by
  rcases I.ok.stk with e | ⟨e, hf⟩
  · rw [e] at hb; exact List.mem_cons_of_mem _ hb
  · rw [e] at hb
    unfold frs at hb
    rw [List.filterMap_cons, hf] at hb
    exact hb
theorem Inv.stkFree (I : Inv X pins σ H s) : ∀ b ∈ frs X.stack, H b = none := fun b hb => by
  rcases List.mem_cons.mp (I.stkSub b hb) with e | hb
  · rw [e]; exact I.free
  · obtain ⟨_, o, ho, _⟩ := I.ok.funs.mem hb
    exact I.base.free b o ho (I.ok.frf b hb) fun z => I.ok.exfs b z hb

/-- THE STEP: the untracked objects but the frame and the records at ch are kept (the callers' frames up to slots), the frame's map is kept, the new abstract heap is held -/
theorem Inv.step {g' : Array GenState} {t' : Nat} {d' : Drawn} {ch : List Addr} (I : Inv X pins σ H s)
    (hch : ∀ b ∈ ch, (b ∈ X.ex ∨ X.s_0.heap.objs.size ≤ b) ∧ b ≠ X.env.locals ∧ (∀ x c, X.env.cells.lookup x = some c → c ≠ b) ∧ ∀ p ∈ X.pn ++ pins, p.1 ≠ b)
    (keep : ∀ b o, b ≠ X.env.locals → b ∉ X.fs → b ∉ ch → s.heap.get? b = some o → H b = none → h'.get? b = some o)
    (slot : ∀ b o, b ≠ X.env.locals → b ∈ X.fs → b ∉ ch → s.heap.get? b = some o → H b = none → ∃ sl, h'.get? b = some { o with slots := sl }) (free : ∀ b o, b ∉ ch → s.heap.get? b = some o → H b = none → H' b = none)
    (there : ∀ b o, b ∉ ch → s.heap.get? b = some o → ∃ o', h'.get? b = some o')
    (tups : ∀ b xs, H b = some (.tup xs) → H' b = some (.tup xs)) (frzs : ∀ b o u, H b = some (.frz o u) → H' b = some (.frz o u)) (tbls : ∀ b ps, H b = some (.tbl ps) → ∃ more, H' b = some (.tbl (ps ++ more)))
    (ns : ∀ m, s.heap.Ns X.env.locals m → h'.Ns X.env.locals m) (hok : HOk X.prog X.w H' h') (hg : AllBare g') :
    Inv X pins σ H' { s with heap := h', gens := g', drawn := d', toks := t' } := by
  have neL : ∀ b o, X.s_0.heap.get? b = some o → b ≠ X.env.locals := fun b o e => Nat.ne_of_lt (Nat.lt_of_lt_of_le (Heap.lt_size e) I.ok.above)
  have neC : ∀ b o, X.s_0.heap.get? b = some o → b ∉ X.ex → b ∉ ch := fun b o e hx hb => by
    rcases (hch b hb).1 with z | z
    · exact hx z
    · exact absurd (Nat.lt_of_lt_of_le (Heap.lt_size e) z) (Nat.lt_irrefl _)
  have cellK : ∀ x c, X.env.cells.lookup x = some c → ∀ v, s.heap.IsCell c v → h'.IsCell c v := fun x c e v ⟨o, ho, hd⟩ => by
    have nch : c ∉ ch := fun z => (hch c z).2.2.1 x c e rfl
    by_cases hc : c ∈ X.fs
    · obtain ⟨sl, q⟩ := slot c o (I.cne x c e) hc nch ho (I.freeC x c e)
      exact ⟨_, q, hd⟩
    · exact ⟨o, keep c o (I.cne x c e) hc nch ho (I.freeC x c e), hd⟩
  refine ⟨I.ok, I.os, hg, ⟨fun b o e n hb hx => ?_, fun b o e n hb hx => ?_, fun b o e n hx => ?_, fun b o e hx => ?_, fun b xs e => tups b xs (I.base.tups b xs e), fun b o xs e => frzs b o xs (I.base.frzs b o xs e), fun b ps e => ?_⟩, ?_, fun x c e => ?_, ?_, fun x c e => ?_, fun p hp => ?_, hok, I.len⟩
  · exact keep b o (neL b o e) hb (neC b o e hx) (I.base.keep b o e n hb hx) (I.base.free b o e n hx)
  · obtain ⟨sl, e1⟩ := I.base.slot b o e n hb hx
    obtain ⟨sl', e2⟩ := slot b _ (neL b o e) hb (neC b o e hx) e1 (I.base.free b o e n hx)
    exact ⟨sl', e2⟩
  · obtain ⟨o', e1⟩ := I.base.there b o e hx
    exact free b o' (neC b o e hx) e1 (I.base.free b o e n hx)
  · obtain ⟨o', e1⟩ := I.base.there b o e hx
    exact there b o' (neC b o e hx) e1
  · obtain ⟨m1, e1⟩ := I.base.tbls b ps e
    obtain ⟨m2, e2⟩ := tbls b _ e1
    exact ⟨m1 ++ m2, by rw [e2, Array.append_assoc]⟩
  · obtain ⟨m, hn, hl⟩ := I.loc
    refine ⟨m, ns m hn, fun i x v e1 e2 e3 => ?_⟩
    obtain ⟨u, r, l⟩ := hl i x v e1 e2 e3
    refine ⟨u, r, ?_⟩
    rcases l with l | ⟨k, c, e, z⟩
    · exact .inl l
    · exact .inr ⟨k, c, e, cellK x c e _ z⟩
  · obtain ⟨v, z⟩ := I.cell x c e
    exact ⟨v, cellK x c e v z⟩
  · obtain ⟨m, ⟨o, _, _, ho, _⟩, _⟩ := I.loc
    exact free _ o (fun z => (hch _ z).2.1 rfl) ho I.free
  · obtain ⟨v, o, ho, hd⟩ := I.cell x c e
    exact free c o (fun z => (hch c z).2.2.1 x c e rfl) ho (I.freeC x c e)
  · obtain ⟨e, n, ne, nf, d⟩ := I.pin p hp
    have nch : p.1 ∉ ch := fun z => (hch p.1 z).2.2.2 p hp rfl
    exact ⟨keep p.1 p.2 ne nf nch e n, free p.1 p.2 nch e n, ne, nf, d⟩
/-- .. where the frame's own object is kept too -/
theorem Inv.un {t' : Nat} (I : Inv X pins σ H s) (u : Un X.fs [] H H' s.heap h') (hok : HOk X.prog X.w H' h') : Inv X pins σ H' { s with heap := h', toks := t' } := by
  obtain ⟨m, ⟨o, es, ep, ho, r⟩, _⟩ := id I.loc
  obtain ⟨sl, hL⟩ := u.any ho I.free (by simp)
  exact I.step (g' := s.gens) (d' := s.drawn) (ch := []) (fun _ z => nomatch z) (fun b o _ hb _ e n => u.keep b o e n hb (by simp)) (fun b o _ hb _ e n => u.slot b o e n hb (by simp)) (fun b o _ e n => u.free b o e n (by simp)) (fun b o _ e => u.there b o e (by simp)) u.tups u.frzs u.tbls (fun m' hm => by
    obtain ⟨o', es', ep', ho', r'⟩ := hm
    rw [ho] at ho'; cases ho'
    exact ⟨_, es', ep', hL, r'⟩) hok I.bare
/-- behind a call (or a comprehension's block): the slots of this frame may have changed too, the records at ch may have turned -/
theorem Inv.call {g' : Array GenState} {t' : Nat} {d' : Drawn} {ch : List Addr} (I : Inv X pins σ H s) (u : Un (frs X.stack) ch H H' s.heap h') (hok : HOk X.prog X.w H' h') (hg : AllBare g')
    (hch : ∀ b ∈ ch, (b ∈ X.ex ∨ X.s_0.heap.objs.size ≤ b) ∧ b ≠ X.env.locals ∧ (∀ x c, X.env.cells.lookup x = some c → c ≠ b) ∧ ∀ p ∈ X.pn ++ pins, p.1 ≠ b) :
    Inv X pins σ H' { s with heap := h', gens := g', drawn := d', toks := t' } := by
  obtain ⟨m, ⟨o, es, ep, ho, r⟩, _⟩ := id I.loc
  obtain ⟨sl, hL⟩ := u.any ho I.free fun z => (hch _ z).2.1 rfl
  exact I.step (ch := ch) hch (fun b o hL hb hc e n => u.keep b o e n (fun z => (List.mem_cons.mp (I.stkSub b z)).elim hL hb) hc) (fun b o _ _ hc e n => u.any e n hc) (fun b o hc e n => u.free b o e n hc) (fun b o hc e => u.there b o e hc) u.tups u.frzs u.tbls (fun m' hm => by
    obtain ⟨o', es', ep', ho', r'⟩ := hm
    rw [ho] at ho'; cases ho'
    exact ⟨_, es', ep', hL, r'⟩) hok hg
/-- an untracked record of ours (an iterator) has turned -/
theorem Inv.turned {t' : Nat} {it : Addr} (I : Inv X pins σ H s) (k : ∀ b o, b ≠ it → s.heap.get? b = some o → h'.get? b = some o) (hn : H it = none) (hL : it ≠ X.env.locals)
    (h1 : it ∈ X.ex ∨ X.s_0.heap.objs.size ≤ it) (h2 : ∀ x c, X.env.cells.lookup x = some c → c ≠ it) (h3 : ∀ p ∈ X.pn ++ pins, p.1 ≠ it) : Inv X pins σ H { s with heap := h', toks := t' } := by
  have nit : ∀ b u, H b = some u → b ≠ it := fun b u e z => by rw [z, hn] at e; cases e
  refine I.step (g' := s.gens) (d' := s.drawn) (ch := [it]) (fun b hb => ?_) (fun b o _ _ hc e _ => k b o (fun z => hc (by simp [z])) e) (fun b o _ _ hc e _ => ⟨o.slots, k b o (fun z => hc (by simp [z])) e⟩) (fun _ _ _ _ n => n)
    (fun b o hc e => ⟨o, k b o (fun z => hc (by simp [z])) e⟩) (fun _ _ e => e) (fun _ _ _ e => e) (fun b ps e => ⟨#[], by rw [e]; simp⟩) (fun m hm => ?_) (fun b u e => ?_) I.bare
  · have e : b = it := by simpa using hb
    subst e
    exact ⟨h1, hL, h2, h3⟩
  · obtain ⟨o, es, ep, ho, r⟩ := hm
    exact ⟨o, es, ep, k _ o (Ne.symm hL) ho, r⟩
  · refine (I.hok b u e).stay (fun c v hc q => k c v ?_ q) (fun _ q => q) fun _ _ q => q
    rcases hc with z | z
    · rw [z]; exact nit b u e
    · exact nit c _ z
theorem Inv.tok (I : Inv X pins σ H s) (t : Nat) : Inv X pins σ H { s with toks := t } := I.un (h' := s.heap) (t' := t) Un.refl I.hok
/-- all objects kept -/
theorem Inv.kept {t' : Nat} (I : Inv X pins σ H s) (k : ∀ b u, s.heap.get? b = some u → h'.get? b = some u) : Inv X pins σ H { s with heap := h', toks := t' } := I.un (Un.kept k) (I.hok.kept k)
/-- a new object laid and tracked -/
theorem Inv.laid {a : Addr} {o : HO} {t' : Nat} (I : Inv X pins σ H s) (k : ∀ b u, s.heap.get? b = some u → h'.get? b = some u) (hp : s.heap.objs.size ≤ a) (new : ObjOk X.prog X.w (upd H a o) h' a o) :
    Inv X pins σ (upd H a o) { s with heap := h', toks := t' } := I.un (Un.laid k hp (I.hok.fresh hp)) (I.hok.laid k hp new)
/-- an object written -/
theorem Inv.write {x e : Addr} {o : HO} {t' : Nat} (I : Inv X pins σ H s) (mu : Mut (H x)) (he : e = x ∨ H e = some (.own x)) (k : ∀ b u, b ≠ e → s.heap.get? b = some u → h'.get? b = some u) (heo : ∃ u, h'.get? e = some u)
    (new : ObjOk X.prog X.w (upd H x o) h' x o) : Inv X pins σ (upd H x o) { s with heap := h', toks := t' } := I.un (Un.write mu he k heo) (I.hok.write mu he k heo new)
/-- forgetting slots, pins -/
theorem Inv.weak {σ' : List (Option V)} (I : Inv X pins σ H s) (hl : σ'.length = σ.length) (w : ∀ (i : Nat) v, σ'[i]? = some (some v) → σ[i]? = some (some v)) : Inv X pins σ' H s :=
  ⟨I.ok, I.os, I.bare, I.base, let ⟨m, hn, hl'⟩ := I.loc; ⟨m, hn, fun i x v e1 e2 e3 => hl' i x v e1 (w i v e2) e3⟩, I.cell, I.free, I.freeC, I.pin, I.hok, hl.trans I.len⟩
theorem Inv.pins_of {pins' : List (Addr × Obj)} (I : Inv X pins σ H s) (h : ∀ p ∈ pins', s.heap.get? p.1 = some p.2 ∧ H p.1 = none ∧ p.1 ≠ X.env.locals ∧ p.1 ∉ X.fs ∧ ∀ v, p.2.data ≠ .cell v) : Inv X pins' σ H s :=
  ⟨I.ok, I.os, I.bare, I.base, I.loc, I.cell, I.free, I.freeC, fun p hp => (List.mem_append.mp hp).elim (fun z => I.pin p (List.mem_append_left _ z)) (h p), I.hok, I.len⟩

theorem nodup_ix {N : List Str} (hN : N.Nodup) {i j : Nat} {x : Str} (a : N[i]? = some x) (b : N[j]? = some x) : i = j := by
  obtain ⟨h1, e1⟩ := List.getElem?_eq_some_iff.mp a
  obtain ⟨h2, e2⟩ := List.getElem?_eq_some_iff.mp b
  exact (List.getElem_inj hN).mp (e1.trans e2.symm)

/-- a name is stored; what changed -/
theorem store_ok2 {M : Model} {A : Around} {E : Value → Shared → Prop} {i : Nat} {x : Str} {v : V} {u : Value} {Q : Unit → Shared → Prop} (I : Inv X pins σ H s) (hN : X.N.Nodup) (hi : X.N[i]? = some x) (hx : Loc X.env.scope x) (r : RelV v u)
    (h : ∀ s', Inv X pins (σ.set i (some v)) H s' → (∃ a, Heap.SameBut a s.heap s'.heap ∧ (a = X.env.locals ∨ X.env.cells.lookup x = some a)) → Q () s') (hf : X.fn x = true ∨ X.env.scope.names.lookup x = some .local := by first | exact .inl rfl | exact .inr rfl | assumption) : wpAny M A (storeName X.env x u) Q E s := by
  obtain ⟨m, hn, hl⟩ := id I.loc
  have hcls : (X.env.scope.kind == .class || (X.env.scope.kind == .module && X.env.locals != X.env.globals)) = false := by rw [I.ok.kind]; rfl
  have hiσ : i < σ.length := by rw [I.len]; exact (List.getElem?_eq_some_iff.mp hi).1
  have cne := I.cne
  have tracked : ∀ {a : Addr} {h' : Heap}, (∃ o, s.heap.get? a = some o ∧ H a = none) → Heap.SameBut a s.heap h' → HOk X.prog X.w H h' := fun {a h'} ha hs b ob e => by
    obtain ⟨_, _, hfree⟩ := ha
    refine (I.hok b ob e).stay (fun c w' hc q => (hs.2 c ?_).trans q) (fun _ q => q) fun _ _ q => q
    rintro rfl
    rcases hc with rfl | hc
    · rw [hfree] at e; cases e
    · rw [hfree] at hc; cases hc
  rcases hx with hk | hk
  · refine wpAny_storeName_local hk hn (fun h' hn' hs => ?_) hcls
    obtain ⟨oL, _, _, hoL, _⟩ := id hn
    refine h _ ⟨I.ok, I.os, I.bare, ⟨fun b o e n hb hx => ?_, fun b o e n hb hx => ?_, I.base.free, fun b o e hx => ?_, I.base.tups, I.base.frzs, I.base.tbls⟩, ⟨_, hn', fun j y v' e1 e2 e3 => ?_⟩, fun y c e => ?_, I.free, I.freeC, fun p hp => ?_, tracked ⟨oL, hoL, I.free⟩ hs, by simpa using I.len⟩ ⟨_, hs, .inl rfl⟩
    · exact (hs.2 b (Nat.ne_of_lt (Nat.lt_of_lt_of_le (Heap.lt_size e) I.ok.above))).trans (I.base.keep b o e n hb hx)
    · obtain ⟨sl, e1⟩ := I.base.slot b o e n hb hx
      exact ⟨sl, (hs.2 b (Nat.ne_of_lt (Nat.lt_of_lt_of_le (Heap.lt_size e) I.ok.above))).trans e1⟩
    · obtain ⟨o', e1⟩ := I.base.there b o e hx
      exact ⟨o', (hs.2 b (Nat.ne_of_lt (Nat.lt_of_lt_of_le (Heap.lt_size e) I.ok.above))).trans e1⟩
    · by_cases hj : j = i
      · subst hj
        rw [hi] at e1; cases e1
        rw [List.getElem?_set_self hiσ] at e2
        cases e2
        exact ⟨u, r, .inl ⟨hk, by simp⟩⟩
      · rw [List.getElem?_set_ne (Ne.symm hj)] at e2
        obtain ⟨u', r', q⟩ := hl j y v' e1 e2 e3
        refine ⟨u', r', ?_⟩
        rcases q with ⟨k, e⟩ | ⟨k, c, e, z⟩
        · refine .inl ⟨k, ?_⟩
          have : y ≠ x := fun e => hj (nodup_ix hN e1 (e ▸ hi))
          simp [this, e]
        · exact .inr ⟨k, c, e, z.sameBut hs (cne y c e)⟩
    · obtain ⟨w', z⟩ := I.cell y c e
      exact ⟨w', z.sameBut hs (cne y c e)⟩
    · obtain ⟨e, n, ne, nf, d⟩ := I.pin p hp
      exact ⟨(hs.2 p.1 ne).trans e, n, ne, nf, d⟩
  · have hfn : X.fn x = true := by
      rcases hf with z | z
      · exact z
      · rw [z] at hk; cases hk
    obtain ⟨c, hc⟩ := I.ok.has x (.inl hk)
    obtain ⟨w', z⟩ := I.cell x c hc
    refine wpAny_storeName_cell I.ok.kind hk hc z (fun h' hc' hs => ?_)
    obtain ⟨oc, hoc, hocd⟩ := id z
    refine h { s with heap := h' } ⟨I.ok, I.os, I.bare, ⟨fun b o e n hb hx => ?_, fun b o e n hb hx => ?_, I.base.free, fun b o e hx => ?_, I.base.tups, I.base.frzs, I.base.tbls⟩, ⟨m, hn.sameBut hs (Ne.symm (cne x c hc)), fun j y v' e1 e2 e3 => ?_⟩, fun y c' e => ?_, I.free, I.freeC, fun p hp => ?_, tracked ⟨oc, hoc, I.freeC x c hc⟩ hs, by simpa using I.len⟩ ⟨c, hs, .inr hc⟩
    · exact (hs.2 b (Nat.ne_of_lt (Nat.lt_of_lt_of_le (Heap.lt_size e) (I.ok.cab x c hfn hc)))).trans (I.base.keep b o e n hb hx)
    · obtain ⟨sl, e1⟩ := I.base.slot b o e n hb hx
      exact ⟨sl, (hs.2 b (Nat.ne_of_lt (Nat.lt_of_lt_of_le (Heap.lt_size e) (I.ok.cab x c hfn hc)))).trans e1⟩
    · obtain ⟨o', e1⟩ := I.base.there b o e hx
      exact ⟨o', (hs.2 b (Nat.ne_of_lt (Nat.lt_of_lt_of_le (Heap.lt_size e) (I.ok.cab x c hfn hc)))).trans e1⟩
    · by_cases hj : j = i
      · subst hj
        rw [hi] at e1; cases e1
        rw [List.getElem?_set_self hiσ] at e2
        cases e2
        exact ⟨u, r, .inr ⟨.inl hk, c, hc, hc'⟩⟩
      · rw [List.getElem?_set_ne (Ne.symm hj)] at e2
        obtain ⟨u', r', q⟩ := hl j y v' e1 e2 e3
        refine ⟨u', r', ?_⟩
        rcases q with q | ⟨k, c', e, z'⟩
        · exact .inl q
        · refine .inr ⟨k, c', e, z'.sameBut hs ?_⟩
          rintro rfl
          exact hj (nodup_ix hN e1 (I.ok.inj _ _ _ e hc ▸ hi))
    · by_cases hcc : c' = c
      · subst hcc; exact ⟨_, hc'⟩
      · obtain ⟨w2, z2⟩ := I.cell y c' e
        exact ⟨w2, z2.sameBut hs hcc⟩
    · obtain ⟨e, n, ne, nf, d⟩ := I.pin p hp
      refine ⟨(hs.2 p.1 ?_).trans e, n, ne, nf, d⟩
      intro q
      rw [q, hoc] at e
      have q' : oc = p.2 := Option.some.inj e
      exact d w' (by rw [← q']; exact hocd)
theorem store_ok {M : Model} {A : Around} {E : Value → Shared → Prop} {i : Nat} {x : Str} {v : V} {u : Value} {Q : Unit → Shared → Prop} (I : Inv X pins σ H s) (hN : X.N.Nodup) (hi : X.N[i]? = some x) (hx : Loc X.env.scope x) (r : RelV v u)
    (h : ∀ s', Inv X pins (σ.set i (some v)) H s' → Q () s') (hf : X.fn x = true ∨ X.env.scope.names.lookup x = some .local := by first | exact .inl rfl | exact .inr rfl | assumption) : wpAny M A (storeName X.env x u) Q E s :=
  store_ok2 I hN hi hx r (fun s' I' _ => h s' I') hf
/-- behind a call or a block, the state as it is -/
theorem Inv.call' {s' : Shared} {ch : List Addr} (I : Inv X pins σ H s) (ho : s'.os = s.os) (u : Un (frs X.stack) ch H H' s.heap s'.heap) (hok : HOk X.prog X.w H' s'.heap) (hg : AllBare s'.gens)
    (hch : ∀ b ∈ ch, (b ∈ X.ex ∨ X.s_0.heap.objs.size ≤ b) ∧ b ≠ X.env.locals ∧ (∀ x c, X.env.cells.lookup x = some c → c ≠ b) ∧ ∀ p ∈ X.pn ++ pins, p.1 ≠ b) : Inv X pins σ H' s' := by
  obtain ⟨h', g', d', t', o'⟩ := s'
  have e : o' = s.os := ho
  subst e
  exact I.call (g' := g') (t' := t') (d' := d') u hok hg hch
end

/-! ### the judgements -/
/-- an exception: its class, its own dict's address (where it has one), the abstract heap behind it -/
abbrev XK := Value → Option Addr → Hp → Prop
abbrev St := List (Option V)
abbrev VK := V → Hp → Prop
/-- an expression's reading; a test's; an argument list's -/
abbrev TE := St → Hp → VK → Prop
abbrev TT := St → Hp → (Bool → Hp → Prop) → Prop
abbrev TA := St → Hp → (List V → Hp → Prop) → Prop
/-- what is wanted behind a statement -/
structure Ends where
  nx : St → Hp → Prop
  rt : VK
  bk : St → Hp → Prop := fun _ _ => False
  ct : St → Hp → Prop := fun _ _ => False
abbrev TS := Ends → St → Hp → Prop

def EP (X : Cx) (pins : List (Addr × Obj)) (σ : St) (Q : VK) (u : Value) (s' : Shared) : Prop := ∃ v H', Inv X pins σ H' s' ∧ RelV v u ∧ Q v H'
def TP (X : Cx) (pins : List (Addr × Obj)) (σ : St) (Q : Bool → Hp → Prop) (b : Bool) (s' : Shared) : Prop := ∃ H', Inv X pins σ H' s' ∧ Q b H'
def AP (X : Cx) (pins : List (Addr × Obj)) (σ : St) (Q : List V → Hp → Prop) (us : List Value) (s' : Shared) : Prop := ∃ vs H', Inv X pins σ H' s' ∧ Vals vs us ∧ Q vs H'
def SP (X : Cx) (pins : List (Addr × Obj)) (D : Ends) (f : Flow) (s' : Shared) : Prop :=
  match f with
  | .next => ∃ σ' H', Inv X pins σ' H' s' ∧ D.nx σ' H'
  | .brk => ∃ σ' H', Inv X pins σ' H' s' ∧ D.bk σ' H'
  | .cont => ∃ σ' H', Inv X pins σ' H' s' ∧ D.ct σ' H'
  | .ret u => ∃ v σ' H', Inv X pins σ' H' s' ∧ RelV v u ∧ D.rt v H'

def PE (X : Cx) (e : Expr) (t : TE) : Prop :=
  ∀ (pins : List (Addr × Obj)) (s : Shared) (σ : St) (H : Hp) (Q : VK), Inv X pins σ H s → t σ H Q → wpAny (model X.prog X.w) X.A (eval e X.env) (EP X pins σ Q) X.xe s
def PT (X : Cx) (e : Expr) (t : TT) : Prop :=
  ∀ (pins : List (Addr × Obj)) (s : Shared) (σ : St) (H : Hp) (Q : Bool → Hp → Prop), Inv X pins σ H s → t σ H Q → wpAny (model X.prog X.w) X.A (isTrue e X.env (eval e X.env)) (TP X pins σ Q) X.xe s
/-- a test whatever its 'whole' is (and, or) -/
def PW (X : Cx) (e : Expr) (t : TT) : Prop :=
  ∀ (whole : Sem Value) (pins : List (Addr × Obj)) (s : Shared) (σ : St) (H : Hp) (Q : Bool → Hp → Prop), Inv X pins σ H s → t σ H Q → wpAny (model X.prog X.w) X.A (isTrue e X.env whole) (TP X pins σ Q) X.xe s
theorem PW.pt {X : Cx} {e : Expr} {t : TT} (h : PW X e t) : PT X e t := h _
/-- an argument list (no star), from the left -/
def PA (X : Cx) (es : List Expr) (t : TA) : Prop :=
  ∀ (pos : Pos) (pins : List (Addr × Obj)) (s : Shared) (σ : St) (H : Hp) (Q : List V → Hp → Prop), Inv X pins σ H s → t σ H Q → wpAny (model X.prog X.w) X.A (spliced (backTo pos (starEach es X.env))) (AP X pins σ Q) X.xe s
def PS (X : Cx) (st : Stmt) (t : TS) : Prop :=
  ∀ (pins : List (Addr × Obj)) (s : Shared) (σ : St) (H : Hp) (D : Ends), Inv X pins σ H s → t D σ H → wpAny (model X.prog X.w) X.A (exec st X.env) (SP X pins D) X.xe s
def PSs (X : Cx) (st : List Stmt) (t : TS) : Prop :=
  ∀ (pins : List (Addr × Obj)) (s : Shared) (σ : St) (H : Hp) (D : Ends), Inv X pins σ H s → t D σ H → wpAny (model X.prog X.w) X.A (execs st X.env) (SP X pins D) X.xe s
/-- weaken the end -/
theorem thn {α : Type} {t : Sem α} {Q Q' : α → Shared → Prop} {M : Model} {A : Around} {E : Value → Shared → Prop} {s : Shared} (h : wpAny M A t Q E s) (hQ : ∀ a s, Q a s → Q' a s) : wpAny M A t Q' E s := wpAny_mono h hQ fun _ _ x => x
end L2

namespace L2
open PySem PySem.Spec PyProof.Rows
section
variable {X : Cx}

/-- two expressions in a row -/
theorem bin {a b : Expr} {ta tb : TE} (ha : PE X a ta) (hb : PE X b tb) {pins : List (Addr × Obj)} {s : Shared} {σ : St} {H : Hp} {R : V → V → Hp → Prop} (I : Inv X pins σ H s) (h : ta σ H fun x H1 => tb σ H1 fun y H2 => R x y H2)
    {α : Type} {Q : α → Shared → Prop} {f : Value → Value → Sem α}
    (hf : ∀ v u s2 x y H2, Inv X pins σ H2 s2 → RelV x v → RelV y u → R x y H2 → wpAny (model X.prog X.w) X.A (f v u) Q X.xe s2) :
    wpAny (model X.prog X.w) X.A (eval a X.env) (fun v s₁ => wpAny (model X.prog X.w) X.A (eval b X.env) (fun u s₂ => wpAny (model X.prog X.w) X.A (f v u) Q X.xe s₂) X.xe s₁) X.xe s := by
  refine thn (ha pins s σ H _ I h) fun v s1 ⟨x, H1, I1, r1, q1⟩ => ?_
  refine thn (hb pins s1 σ H1 _ I1 q1) fun u s2 ⟨y, H2, I2, r2, q2⟩ => ?_
  exact hf v u s2 x y H2 I2 r1 r2 q2

/-! ### names and constants -/
def tVar (i : Nat) : TE := fun σ H Q => ∃ v, σ[i]? = some (some v) ∧ Q v H
def tC (v : V) : TE := fun _ H Q => Q v H
theorem pe_var {i : Nat} {x : Str} {pos : Pos} (hN : X.N[i]? = some x) (hv : Vis X.env.scope x) (hd : (x == ("__debug__" : Str)) = false := by decide) (hcd : (x == ("__classdict__" : Str)) = false := by decide) : PE X (.Name x pos) (tVar i) := by
  intro pins s σ H Q I h
  obtain ⟨v, e, h⟩ := h
  obtain ⟨m, hn, hl⟩ := I.loc
  obtain ⟨u, r, l⟩ := hl i x v hN e hv
  have fin : EP X pins σ Q u s := ⟨v, H, I, r, h⟩
  rcases l with ⟨hk, hm⟩ | ⟨hk, c, hc, hcell⟩
  · exact wpAny_Name (wpAny_loadName_local I.ok.kind hk hn hm fin) hd
  · rcases hk with hk | hk
    · exact wpAny_Name (wpAny_loadName_cell I.ok.kind hk hc hcell fin) hd
    · exact wpAny_Name (wpAny_loadName_free I.ok.kind hk hc hcell fin hcd) hd
theorem pe_int {i j pos} : PE X (.Constant (.int i) j pos) (tC (.int i)) := fun _ _ _ H _ I h => wpAny_Constant_int ⟨.int i, H, I.tok _, ⟨_, rfl⟩, h⟩

/-- a global name of the def -/
def Gl (X : Cx) (x : Str) : Prop := X.env.kindOf x = some .globalImplicit
theorem ld_glob {E : Value → Shared → Prop} {pins : List (Addr × Obj)} {s : Shared} {σ : St} {H : Hp} {x : Str} {u : Value} {pos : Pos} {Q : Value → Shared → Prop} (I : Inv X pins σ H s) (hg : Gl X x) (hm : X.mg x = some u) (h : Q u s)
    (hd : (x == ("__debug__" : Str)) = false := by decide) : wpAny (model X.prog X.w) X.A (eval (.Name x pos) X.env) Q E s :=
  Calls.Name_function_global I.ok.kind hg (Calls.loadGlobal_global (by rw [I.ok.glob]; exact I.mod.glob.keeps I.bk) hm h) hd
theorem ld_blt {E : Value → Shared → Prop} {pins : List (Addr × Obj)} {s : Shared} {σ : St} {H : Hp} {x : Str} {u : Value} {pos : Pos} {Q : Value → Shared → Prop} (I : Inv X pins σ H s) (hg : Gl X x) (hm : X.mg x = none) (hv : bootBuiltins x = some u) (h : Q u s)
    (hn : x ≠ "__name__" := by decide) (hd : (x == ("__debug__" : Str)) = false := by decide) : wpAny (model X.prog X.w) X.A (eval (.Name x pos) X.env) Q E s := by
  obtain ⟨mb, h1, h2⟩ := I.mod.blt
  exact Calls.Name_function_global I.ok.kind hg (Calls.loadGlobal_builtin (by rw [I.ok.glob]; exact I.mod.glob.keeps I.bk) hm (by rw [I.ok.blt]; exact h1.keeps I.bk) ((h2 x hn).trans hv) h) hd
/-- a module's constant, a class, a function, as a value -/
theorem pe_glob {x : Str} {v : V} {u : Value} {pos : Pos} (hg : Gl X x) (hm : X.mg x = some u) (r : RelV v u) (hd : (x == ("__debug__" : Str)) = false := by decide) : PE X (.Name x pos) (tC v) :=
  fun _ _ _ H _ I h => ld_glob I hg hm ⟨v, H, I, r, h⟩ hd

/-! ### arithmetic -/
/-- two ints -/
def t2I (ta tb : TE) (k : Int → Int → Hp → Prop) : St → Hp → Prop := fun σ H => ta σ H fun x H1 => tb σ H1 fun y H2 => ∃ i j, x = .int i ∧ y = .int j ∧ k i j H2
def tAdd (ta tb : TE) : TE := fun σ H Q => t2I ta tb (fun i j H2 => Q (.int (i + j)) H2) σ H
def tSub (ta tb : TE) : TE := fun σ H Q => t2I ta tb (fun i j H2 => Q (.int (i - j)) H2) σ H
/-- the left factor below 2^64 -/
def tMul (ta tb : TE) : TE := fun σ H Q => t2I ta tb (fun i j H2 => (-(2 ^ 64) < i ∧ i < 2 ^ 64) ∧ Q (.int (i * j)) H2) σ H
variable {a b : Expr} {ta tb : TE} {pos : Pos}

/-! ### comparisons -/
def PC (X : Cx) (op : CmpOp) (a b : Expr) (t : TE) : Prop :=
  ∀ (pins : List (Addr × Obj)) (s : Shared) (σ : St) (H : Hp) (Q : VK), Inv X pins σ H s → t σ H Q →
    wpAny (model X.prog X.w) X.A (eval a X.env) (fun v s₁ => wpAny (model X.prog X.w) X.A (eval b X.env) (fun u s₂ => wpAny (model X.prog X.w) X.A (compareOp op v u) (EP X pins σ Q) X.xe s₂) X.xe s₁) X.xe s
def tCmp (p : Int → Int → Bool) (ta tb : TE) : TE := fun σ H Q => t2I ta tb (fun i j H2 => Q (.bl (p i j)) H2) σ H
abbrev tLt : TE → TE → TE := tCmp fun i j => decide (i < j)
abbrev tLe : TE → TE → TE := tCmp fun i j => decide (i ≤ j)
abbrev tGt : TE → TE → TE := tCmp fun i j => decide (j < i)
abbrev tGe : TE → TE → TE := tCmp fun i j => decide (j ≤ i)
abbrev tEqI : TE → TE → TE := tCmp fun i j => decide (i = j)
abbrev tNeI : TE → TE → TE := tCmp fun i j => !decide (i = j)
/-- is None -/
def tIsN (ta : TE) : TE := fun σ H Q => ta σ H fun x H1 => Q (.bl (decide (x = .non))) H1
def tNotN (ta : TE) : TE := fun σ H Q => ta σ H fun x H1 => Q (.bl (!decide (x = .non))) H1
/-- a comparison as a value, as a test -/
def tB (t : TE) : TT := fun σ H Q => t σ H fun x H1 => ∃ c, x = .bl c ∧ Q c H1
theorem pt_cmp {op : CmpOp} {t : TE} (h : PC X op a b t) (h1 : behindInMarks op b = false := by first | exact nobehind _ (by decide) (by decide) | rfl) : PT X (.Compare a [op] [b] pos) (tB t) := by
  intro pins s σ H Q I hw
  refine wpAny_isTrue_Compare1 (thn (h pins s σ H _ I hw) fun v s1 h1 => thn h1 fun u s2 h2 => thn h2 fun c s3 ⟨x, H1, I1, r1, q1⟩ => ?_) h1
  obtain ⟨d, rfl, q⟩ := q1
  cases r1
  exact wpAny_truthy_bool ⟨H1, I1, q⟩
/-- an expression whose value is a bool, as a test -/
theorem pt_val {e : Expr} {t : TE} (h : PE X e t) (he : ∀ whole, isTrue e X.env whole = (do let v ← whole; standAt e.pos; holding [v] (truthy v)) := by intro _; rfl) : PT X e (tB t) := by
  intro pins s σ H Q I hw
  refine isTrue_plain (thn (h pins s σ H _ I hw) fun v s1 ⟨x, H1, I1, r1, q1⟩ => ?_) (he _)
  obtain ⟨d, rfl, q⟩ := q1
  cases r1
  exact wpAny_truthy_bool ⟨H1, I1, q⟩

/-! ### and, or, not -/
variable {tA tB' : TT} {rest : List Expr}
def tAnd (t u : TT) : TT := fun σ H Q => t σ H fun c H1 => if c = true then u σ H1 Q else Q false H1
def tOr (t u : TT) : TT := fun σ H Q => t σ H fun c H1 => if c = true then Q true H1 else u σ H1 Q
def tNot (t : TT) : TT := fun σ H Q => t σ H fun c H1 => Q (!c) H1
theorem pw_and1 (ha : PT X a tA) : PW X (.BoolOp .And [a] pos) tA := by
  intro wh pins s σ H Q I h
  refine isTrue_and (thn (ha pins s σ H Q I h) fun c s1 e => ?_)
  cases c with
  | true => exact isTrue_and_nil e
  | false => exact e
theorem pw_or1 (ha : PT X a tA) : PW X (.BoolOp .Or [a] pos) tA := by
  intro wh pins s σ H Q I h
  refine isTrue_or (thn (ha pins s σ H Q I h) fun c s1 e => ?_)
  cases c with
  | false => exact isTrue_or_nil e
  | true => exact e
theorem pw_and (ha : PT X a tA) (hb : PW X (.BoolOp .And (b :: rest) pos) tB') : PW X (.BoolOp .And (a :: b :: rest) pos) (tAnd tA tB') := by
  intro wh pins s σ H Q I h
  refine isTrue_and (thn (ha pins s σ H _ I h) fun c s1 ⟨H1, I1, q1⟩ => ?_)
  cases c with
  | true => exact hb wh pins s1 σ H1 Q I1 q1
  | false => exact ⟨H1, I1, q1⟩
theorem pw_or (ha : PT X a tA) (hb : PW X (.BoolOp .Or (b :: rest) pos) tB') : PW X (.BoolOp .Or (a :: b :: rest) pos) (tOr tA tB') := by
  intro wh pins s σ H Q I h
  refine isTrue_or (thn (ha pins s σ H _ I h) fun c s1 ⟨H1, I1, q1⟩ => ?_)
  cases c with
  | true => exact ⟨H1, I1, q1⟩
  | false => exact hb wh pins s1 σ H1 Q I1 q1
theorem pt_not (ha : PT X a tA) : PT X (.UnaryOp .Not a pos) (tNot tA) := by
  intro pins s σ H Q I h
  exact isTrue_not (ha pins s σ H (fun c H1 => Q (!c) H1) I h)
/-- .. as values (bools) -/
def tAndV (ta tb : TE) : TE := fun σ H Q => ta σ H fun x H1 => ∃ c, x = .bl c ∧ if c = true then tb σ H1 Q else Q (.bl false) H1
def tOrV (ta tb : TE) : TE := fun σ H Q => ta σ H fun x H1 => ∃ c, x = .bl c ∧ if c = true then Q (.bl true) H1 else tb σ H1 Q
def tNotV (ta : TE) : TE := fun σ H Q => ta σ H fun x H1 => ∃ c, x = .bl c ∧ Q (.bl (!c)) H1
theorem pe_one {op} {t : TE} (h : PE X a t) : PE X (.BoolOp op [a] pos) t := fun pins s σ H Q I hw => BoolOp_one (h pins s σ H Q I hw)
theorem pe_and (ha : PE X a ta) (hb : PE X (.BoolOp .And (b :: rest) pos) tb) : PE X (.BoolOp .And (a :: b :: rest) pos) (tAndV ta tb) := by
  intro pins s σ H Q I h
  refine BoolOp_and (thn (ha pins s σ H _ I h) fun v s1 ⟨x, H1, I1, r1, q1⟩ => ?_)
  obtain ⟨c, rfl, q1⟩ := q1
  cases r1
  refine wpAny_truthy_bool ?_
  cases c with
  | true => exact hb pins s1 σ H1 Q I1 q1
  | false => exact ⟨.bl false, H1, I1, rfl, q1⟩
theorem pe_or (ha : PE X a ta) (hb : PE X (.BoolOp .Or (b :: rest) pos) tb) : PE X (.BoolOp .Or (a :: b :: rest) pos) (tOrV ta tb) := by
  intro pins s σ H Q I h
  refine BoolOp_or (thn (ha pins s σ H _ I h) fun v s1 ⟨x, H1, I1, r1, q1⟩ => ?_)
  obtain ⟨c, rfl, q1⟩ := q1
  cases r1
  refine wpAny_truthy_bool ?_
  cases c with
  | false => exact hb pins s1 σ H1 Q I1 q1
  | true => exact ⟨.bl true, H1, I1, rfl, q1⟩
/-- a if t else b -/
def tIf (t : TT) (ta tb : TE) : TE := fun σ H Q => t σ H fun c H1 => if c = true then ta σ H1 Q else tb σ H1 Q
end
end L2

namespace L2
open PySem PySem.Spec PyProof.Rows

/-! ### a list, a tuple that is read: tracked, frozen, or an object of the module -/
def SqL (K : PySem.W.Frag) (H : Hp) (a : Addr) (xs : List V) : Prop :=
  Rd H a (.lst xs) ∨
    ∃ (o : Obj) (its : Array Value) (n : Nat), K.lookup a = some o ∧ o.cls = .type "list" ∧ o.dict = none ∧ o.data = .seq its n ∧ its.size ≤ sizeLine ∧ Vals xs its.toList
def SqT (K : PySem.W.Frag) (H : Hp) (a : Addr) (xs : List V) : Prop :=
  Rd H a (.tup xs) ∨
    ∃ (o : Obj) (its : Array Value) (n : Nat), K.lookup a = some o ∧ o.cls = .type "tuple" ∧ o.data = .seq its n ∧ its.size ≤ sizeLine ∧ Vals xs its.toList
def absV : Value → Option V
  | .none => some .non
  | .bool b => some (.bl b)
  | .int i _ => some (.int i)
  | .str x _ => some (.str x)
  | .bytes b _ => some (.byt b)
  | .float b _ => some (.flt b)
  | .ref a => some (.ref a)
  | .type n => some (.ty n)
  | _ => none
theorem RelV.abs {x : V} {u : Value} (r : RelV x u) : absV u = some x := by
  cases x with
  | non => cases r; rfl
  | bl _ => cases r; rfl
  | int _ => obtain ⟨t, rfl⟩ := r; rfl
  | str _ => obtain ⟨t, rfl⟩ := r; rfl
  | byt _ => obtain ⟨t, rfl⟩ := r; rfl
  | flt _ => obtain ⟨t, rfl⟩ := r; rfl
  | ref _ => cases r; rfl
  | ty _ => cases r; rfl
theorem RelV.inj {x y : V} {u : Value} (r : RelV x u) (q : RelV y u) : x = y := Option.some.inj (r.abs.symm.trans q.abs)
theorem Vals.inj : ∀ {xs ys : List V} {us : List Value}, Vals xs us → Vals ys us → xs = ys
  | _, _, _, .nil, .nil => rfl
  | _, _, _, .cons r t, .cons r' t' => by rw [r.inj r', Vals.inj t t']
section
variable {X : Cx} {pins : List (Addr × Obj)} {σ : St} {H : Hp} {s : Shared} {a : Addr} {xs ys : List V}
theorem SqL.of {K : PySem.W.Frag} (h : H a = some (.lst xs)) : SqL K H a xs := .inl (.inl h)
theorem SqT.of {K : PySem.W.Frag} (h : H a = some (.tup xs)) : SqT K H a xs := .inl (.inl h)
theorem Inv.list (I : Inv X pins σ H s) (h : SqL X.K H a xs) : ∃ its : List Value, Vals xs its ∧ PlainL s.heap a its.toArray ∧ xs.length ≤ sizeLine := by
  rcases h with h | ⟨o, its, n, hk, hc, hd, hs, hz, r⟩
  · obtain ⟨z, its, n, r, e⟩ := h.ok I.hok
    exact ⟨its, r, ⟨_, n, e, rfl, rfl, rfl⟩, z⟩
  · refine ⟨its.toList, r, ⟨o, n, I.kIn a o hk, hc, hd, by simpa using hs⟩, ?_⟩
    have e := r.length
    simp only [Array.length_toList] at e
    omega
theorem Inv.tuple (I : Inv X pins σ H s) (h : SqT X.K H a xs) : ∃ its : List Value, Vals xs its ∧ IsTup s.heap a its.toArray ∧ xs.length ≤ sizeLine := by
  rcases h with h | ⟨o, its, n, hk, hc, hs, hz, r⟩
  · obtain ⟨z, its, r, p⟩ := h.ok I.hok
    exact ⟨its, r, p, z⟩
  · refine ⟨its.toList, r, ⟨o, I.kIn a o hk, hc, n, by simpa using hs⟩, ?_⟩
    have e := r.length
    simp only [Array.length_toList] at e
    omega
theorem Inv.list_inj (I : Inv X pins σ H s) (h : SqL X.K H a xs) (h' : SqL X.K H a ys) : xs = ys := by
  obtain ⟨its, r, ⟨o, n, e, _, _, d⟩, _⟩ := I.list h
  obtain ⟨its', r', ⟨o', n', e', _, _, d'⟩, _⟩ := I.list h'
  rw [e] at e'; cases e'
  rw [d] at d'
  injection d' with d1 _
  have : its = its' := by simpa using congrArg Array.toList d1
  subst this
  exact r.inj r'
end

/-! ### another wish about exceptions -/
abbrev Cx.wish (X : Cx) (E : Value → Shared → Prop) : Cx := { X with xe := E }
/-- no exception leaves -/
abbrev Cx.nox (X : Cx) : Cx := X.wish fun _ _ => False
theorem Cx.Ok.wish {X : Cx} (ok : X.Ok) (E : Value → Shared → Prop) : (X.wish E).Ok :=
  ⟨ok.mod, ok.kind, ok.glob, ok.blt, ok.above, ok.inj, ok.has, ok.cab, ok.hd, ok.frames, ok.stk, ok.exf, ok.bs, ok.bsz, ok.noex, ok.exfs, ok.funs, ok.frf⟩
theorem Cx.Ok.unwish {X : Cx} {E : Value → Shared → Prop} (ok : (X.wish E).Ok) : X.Ok :=
  ⟨ok.mod, ok.kind, ok.glob, ok.blt, ok.above, ok.inj, ok.has, ok.cab, ok.hd, ok.frames, ok.stk, ok.exf, ok.bs, ok.bsz, ok.noex, ok.exfs, ok.funs, ok.frf⟩
section
variable {X : Cx} {pins : List (Addr × Obj)} {σ : St} {H : Hp} {s : Shared} {E : Value → Shared → Prop}
theorem Inv.wish (I : Inv X pins σ H s) (E : Value → Shared → Prop) : Inv (X.wish E) pins σ H s := ⟨I.ok.wish E, I.os, I.bare, I.base, I.loc, I.cell, I.free, I.freeC, I.pin, I.hok, I.len⟩
theorem Inv.unwish (I : Inv (X.wish E) pins σ H s) : Inv X pins σ H s := ⟨I.ok.unwish, I.os, I.bare, I.base, I.loc, I.cell, I.free, I.freeC, I.pin, I.hok, I.len⟩
theorem SP.unwish {D : Ends} {f : Flow} {s' : Shared} (h : SP (X.wish E) pins D f s') : SP X pins D f s' := by
  cases f with
  | next => obtain ⟨σ', H', I, q⟩ := h; exact ⟨σ', H', I.unwish, q⟩
  | brk => obtain ⟨σ', H', I, q⟩ := h; exact ⟨σ', H', I.unwish, q⟩
  | cont => obtain ⟨σ', H', I, q⟩ := h; exact ⟨σ', H', I.unwish, q⟩
  | ret u => obtain ⟨v, σ', H', I, r, q⟩ := h; exact ⟨v, σ', H', I.unwish, r, q⟩
theorem PSs.nox {st : List Stmt} {t : TS} (h : PSs X.nox st t) : PSs X st t := fun pins s σ H D I hw =>
  wpAny_mono (h pins s σ H D (I.wish _) hw) (fun _ _ q => q.unwish) fun _ _ z => False.elim z
end

/-! ### blocks and small statements -/
section
variable {X : Cx} {st : Stmt} {rest : List Stmt} {t u : TS} {e : Expr} {te : TE} {pos : Pos}
def tNext : TS := fun D σ H => D.nx σ H
def tSeq (t u : TS) : TS := fun D σ H => t { D with nx := u D } σ H
theorem pss_nil : PSs X [] tNext := fun _ _ σ H _ I h => wpAny_execs_nil ⟨σ, H, I, h⟩
theorem pss_cons (h1 : PS X st t) (h2 : PSs X rest u) : PSs X (st :: rest) (tSeq t u) := by
  intro pins s σ H D I h
  refine wpAny_execs_cons (thn (h1 pins s σ H { D with nx := u D } I h) fun f s1 q => ?_)
  cases f with
  | next =>
    obtain ⟨σ', H', I', q⟩ := q
    exact h2 pins s1 σ' H' D I' q
  | ret v => exact q
  | brk => exact q
  | cont => exact q
theorem pss_one (h1 : PS X st t) : PSs X [st] t := by
  intro pins s σ H D I h
  refine wpAny_execs_cons (thn (h1 pins s σ H D I h) fun f s1 q => ?_)
  cases f with
  | next => exact wpAny_execs_nil q
  | ret v => exact q
  | brk => exact q
  | cont => exact q
def tBreak : TS := fun D σ H => D.bk σ H
def tCont : TS := fun D σ H => D.ct σ H
/-- in a def's body nothing is shown -/
theorem Inv.quiet {pins : List (Addr × Obj)} {σ : St} {H : Hp} {s : Shared} (I : Inv X pins σ H s) : interactive X.env = false := by simp [interactive, I.ok.kind]
/-- an expression whose value is dropped -/
def tDrop (te : TE) : TS := fun D σ H => te σ H fun _ H1 => D.nx σ H1
theorem ps_expr (he : PE X e te) (hs : swapsWith e none pos.line X.env = pure false := by rfl) : PS X (.Expr e pos) (tDrop te) := by
  intro pins s σ H D I h
  exact wpAny_Expr_any (thn (he pins s σ H _ I h) fun v s1 ⟨x, H1, I1, r1, q1⟩ => ⟨σ, H1, I1, q1⟩) I.quiet hs
def tRet (te : TE) : TS := fun D σ H => te σ H D.rt
theorem ps_ret (he : PE X e te) : PS X (.Return (some e) pos) (tRet te) := by
  intro pins s σ H D I h
  exact wpAny_Return_some (thn (he pins s σ H _ I h) fun v s1 ⟨x, H1, I1, r1, q1⟩ => ⟨x, σ, H1, I1, r1, q1⟩)
def tRetN : TS := fun D _ H => D.rt .non H
def tIfS (c : TT) (t u : TS) : TS := fun D σ H => c σ H fun b H1 => if b = true then t D σ H1 else u D σ H1
theorem ps_if {c : Expr} {a b : List Stmt} {tc : TT} (hc : PT X c tc) (ha : PSs X a t) (hb : PSs X b u) : PS X (.If c a b pos) (tIfS tc t u) := by
  intro pins s σ H D I h
  refine wpAny_If (thn (hc pins s σ H _ I h) fun d s1 ⟨H1, I1, q1⟩ => ?_)
  cases d with
  | true => exact ha pins s1 σ H1 D I1 q1
  | false => exact hb pins s1 σ H1 D I1 q1
/-- code that the proof never comes to -/
def tNever : TS := fun _ _ _ => False
end

/-! ### targets -/
abbrev TG := V → St → Hp → (St → Hp → Prop) → Prop
abbrev TGs := List V → St → Hp → (St → Hp → Prop) → Prop
def PG (X : Cx) (target : Expr) (t : TG) : Prop :=
  ∀ (pins : List (Addr × Obj)) (s : Shared) (σ : St) (H : Hp) (v : V) (u : Value) (Q : St → Hp → Prop), Inv X pins σ H s → RelV v u → t v σ H Q →
    wpAny (model X.prog X.w) X.A (assign target X.env u) (fun _ s' => ∃ σ' H', Inv X pins σ' H' s' ∧ Q σ' H') X.xe s
/-- several targets, one after another -/
def PGs (X : Cx) (ts : List Expr) (t : TGs) : Prop :=
  ∀ (pins : List (Addr × Obj)) (s : Shared) (σ : St) (H : Hp) (vs : List V) (us : List Value) (Q : St → Hp → Prop), Inv X pins σ H s → Vals vs us → t vs σ H Q →
    wpAny (model X.prog X.w) X.A (assignInOrder ((assignEach ts X.env).map (·.2)) us) (fun _ s' => ∃ σ' H', Inv X pins σ' H' s' ∧ Q σ' H') X.xe s
/-- o[i] = v, by values -/
abbrev TSet := V → V → V → Hp → (Hp → Prop) → Prop
def PSet (X : Cx) (t : TSet) : Prop :=
  ∀ (pins : List (Addr × Obj)) (s : Shared) (σ : St) (H : Hp) (o i v : V) (ov iv u : Value) (Q : Hp → Prop), Inv X pins σ H s → RelV o ov → RelV i iv → RelV v u → t o i v H Q →
    wpAny (model X.prog X.w) X.A (setItem ov iv u) (fun _ s' => ∃ H', Inv X pins σ H' s' ∧ Q H') X.xe s
/-- a op= b, by values -/
abbrev TIp := V → V → Hp → VK → Prop
def PIp (X : Cx) (op : Operator) (t : TIp) : Prop :=
  ∀ (pins : List (Addr × Obj)) (s : Shared) (σ : St) (H : Hp) (x y : V) (v u : Value) (Q : VK), Inv X pins σ H s → RelV x v → RelV y u → t x y H Q →
    wpAny (model X.prog X.w) X.A (inplaceOp op v u) (EP X pins σ Q) X.xe s
section
variable {X : Cx} {pos : Pos}
def gName (i : Nat) : TG := fun v σ H Q => Q (σ.set i (some v)) H
theorem pg_name {i : Nat} {x : Str} (hN : X.N.Nodup) (hi : X.N[i]? = some x) (hx : Loc X.env.scope x) (hf : X.fn x = true ∨ X.env.scope.names.lookup x = some .local := by first | exact .inl rfl | exact .inr rfl | assumption) : PG X (.Name x pos) (gName i) := by
  intro pins s σ H v u Q I r h
  exact wpAny_assign_Name (store_ok I hN hi hx r (fun s' I' => ⟨_, H, I', h⟩) hf)
def gNil : TGs := fun vs σ H Q => vs = [] ∧ Q σ H
def gCons (t : TG) (u : TGs) : TGs := fun vs σ H Q => ∃ v r, vs = v :: r ∧ t v σ H fun σ' H' => u r σ' H' Q
theorem pgs_nil : PGs X [] gNil := by
  intro pins s σ H vs us Q I r h
  obtain ⟨e, h⟩ := h
  subst e
  cases r
  exact assignInOrder_nil ⟨σ, H, I, h⟩
theorem pgs_cons {e : Expr} {es : List Expr} {t : TG} {u : TGs} (h1 : PG X e t) (h2 : PGs X es u)
    (hs : (assignEach (e :: es) X.env).map (·.2) = assign e X.env :: (assignEach es X.env).map (·.2) := by rfl) : PGs X (e :: es) (gCons t u) := by
  intro pins s σ H vs us Q I r h
  obtain ⟨v, vr, e1, h⟩ := h
  subst e1
  cases r with
  | cons r rr =>
    rw [hs]
    refine assignInOrder_cons (thn (h1 pins s σ H _ _ _ I r h) fun _ s1 ⟨σ1, H1, I1, q1⟩ => ?_)
    exact h2 pins s1 σ1 H1 _ _ Q I1 rr q1
/-- (a, b, ..) = a tuple of that length -/
def gTup (K : PySem.W.Frag) (n : Nat) (t : TGs) : TG := fun v σ H Q => ∃ a xs, v = .ref a ∧ SqT K H a xs ∧ xs.length = n ∧ t xs σ H Q
theorem pg_tup {es : List Expr} {k : Nat} {t : TGs} {n : Nat} (hc : X.calm = true) (h : PGs X es t)
    (hn : (assignEach es X.env).length = n := by rfl) (hst : (assignEach es X.env).findIdx? (·.1) = none := by rfl) : PG X (.Tuple es k pos) (gTup X.K n t) := by
  intro pins s σ H v u Q I r hw
  obtain ⟨a, xs, e1, hq, hl, hw⟩ := hw
  subst e1
  cases r
  obtain ⟨its, rv, ht, hz⟩ := I.tuple hq
  refine assign_Tuple_tuple (I.ok.hd hc) ht (by simp [hn, ← hl, rv.length]) hst fun h' hx => ?_
  have I1 : Inv X pins σ H { s with heap := h' } := I.kept (t' := s.toks) fun b o e => hx b o (Nat.ne_of_lt (Heap.lt_size e)) e
  exact h pins _ σ H xs _ Q I1 (by simpa using rv) hw
/-- o[i] = .. -/
def gSub (to ti : TE) (t : TSet) : TG := fun v σ H Q => to σ H fun o H1 => ti σ H1 fun i H2 => t o i v H2 fun H3 => Q σ H3
/-- target = value -/
def tAsg (te : TE) (g : TG) : TS := fun D σ H => te σ H fun x H1 => g x σ H1 D.nx
/-- name = value -/
theorem ps_set {i : Nat} {x : Str} {e : Expr} {te : TE} {pos' : Pos} (hN : X.N.Nodup) (hi : X.N[i]? = some x) (hx : Loc X.env.scope x) (he : PE X e te) (hs : swapsWith e (some (.Name x pos')) pos.line X.env = pure false := by rfl) (hf : X.fn x = true ∨ X.env.scope.names.lookup x = some .local := by first | exact .inl rfl | exact .inr rfl | assumption) :
    PS X (.Assign [.Name x pos'] e pos) (tAsg te (gName i)) := by
  intro pins s σ H D I h
  refine wpAny_Assign_Name (thn (he pins s σ H _ I h) fun v s1 ⟨y, H1, I1, r1, q1⟩ => ?_) hs
  exact store_ok I1 hN hi hx r1 (fun s2 I2 => ⟨_, H1, I2, q1⟩) hf
/-- a, b = x, y with plain local names: stored from the right; the pair itself is not tracked (the opening rows as in PyProof/Rows/TupAssign.lean:23) -/
def tPar (i j : Nat) (ta : TA) : TS := fun D σ H => ta σ H fun vs H1 => ∃ v w, vs = [v, w] ∧ D.nx ((σ.set i (some v)).set j (some w)) H1
/-- name op= e -/
def tAug (i : Nat) (te : TE) (ti : TIp) : TS := fun D σ H => ∃ x, σ[i]? = some (some x) ∧ te σ H fun y H1 => ti x y H1 fun z H2 => D.nx (σ.set i (some z)) H2
theorem ps_aug {i : Nat} {x : Str} {e : Expr} {te : TE} {op : Operator} {ti : TIp} {pos' : Pos} (hN : X.N.Nodup) (hi : X.N[i]? = some x) (hx : Loc X.env.scope x) (he : PE X e te) (ho : PIp X op ti) (hf : X.fn x = true ∨ X.env.scope.names.lookup x = some .local := by first | exact .inl rfl | exact .inr rfl | assumption) :
    PS X (.AugAssign (.Name x pos') op e pos) (tAug i te ti) := by
  intro pins s σ H D I h
  obtain ⟨v, e1, h⟩ := h
  obtain ⟨m, hn, hl⟩ := I.loc
  have vis : Vis X.env.scope x := by rcases hx with k | k; exact .inl k; exact .inr (.inl k)
  obtain ⟨u, r, l⟩ := hl i x v hi e1 vis
  refine wpAny_AugAssign_Name ?_
  have go : wpAny (model X.prog X.w) X.A (eval e X.env) (fun w s₂ => wpAny (model X.prog X.w) X.A (inplaceOp op u w) (fun r s₃ => wpAny (model X.prog X.w) X.A (storeName X.env x r) (fun _ => SP X pins D .next) X.xe s₃) X.xe s₂) X.xe s := by
    refine thn (he pins s σ H _ I h) fun w s1 ⟨y, H1, I1, r1, q1⟩ => ?_
    refine thn (ho pins s1 σ H1 v y u w _ I1 r r1 q1) fun z s2 ⟨zv, H2, I2, r2, q2⟩ => ?_
    exact store_ok I2 hN hi hx r2 (fun s3 I3 => ⟨_, H2, I3, q2⟩) hf
  rcases l with ⟨hk, hm⟩ | ⟨hk, c, hc, hcell⟩
  · exact wpAny_loadName_local I.ok.kind hk hn hm go
  · rcases hk with hk | hk
    · exact wpAny_loadName_cell I.ok.kind hk hc hcell go
    · rcases hx with k | k
      · have : X.env.scope.names.lookup x = some .free := hk
        rw [k] at this; cases this
      · have : X.env.scope.names.lookup x = some .free := hk
        rw [k] at this; cases this
/-- o[i] op= e -/
def tAugS (to ti te : TE) (tget : V → V → Hp → VK → Prop) (tip : TIp) (tset : TSet) : TS := fun D σ H => to σ H fun o H1 => ti σ H1 fun i H2 => tget o i H2 fun x H3 => te σ H3 fun y H4 => tip x y H4 fun z H5 => tset o i z H5 fun H6 => D.nx σ H6
/-- o[i], by values -/
def PGet (X : Cx) (t : V → V → Hp → VK → Prop) : Prop :=
  ∀ (pins : List (Addr × Obj)) (s : Shared) (σ : St) (H : Hp) (o i : V) (ov iv : Value) (Q : VK), Inv X pins σ H s → RelV o ov → RelV i iv → t o i H Q →
    wpAny (model X.prog X.w) X.A (getItem ov iv) (EP X pins σ Q) X.xe s
/-- ints -/
def ipI (f : Int → Int → Int) : TIp := fun x y H Q => ∃ i j, x = .int i ∧ y = .int j ∧ Q (.int (f i j)) H
theorem ip_add : PIp X .Add (ipI fun i j => i + j) := by
  intro pins s σ H x y v u Q I r1 r2 h
  obtain ⟨i, j, e1, e2, q⟩ := h
  subst e1; subst e2
  obtain ⟨t, rfl⟩ := r1
  obtain ⟨t', rfl⟩ := r2
  exact iadd_int ⟨.int _, H, I.tok _, ⟨_, rfl⟩, q⟩
theorem ip_sub : PIp X .Sub (ipI fun i j => i - j) := by
  intro pins s σ H x y v u Q I r1 r2 h
  obtain ⟨i, j, e1, e2, q⟩ := h
  subst e1; subst e2
  obtain ⟨t, rfl⟩ := r1
  obtain ⟨t', rfl⟩ := r2
  exact isub_int ⟨.int _, H, I.tok _, ⟨_, rfl⟩, q⟩
end

/-! ### while -/
section
variable {X : Cx} {pos : Pos}
/-- the invariant W with its measure -/
def tWhile (c : TT) (tb : TS) : TS := fun D σ H => ∃ W : Nat → St → Hp → Prop, (∃ m, W m σ H) ∧ ∀ m σ H, W m σ H →
  c σ H fun b H1 => if b = true then ∃ N : St → Hp → Prop, (∀ σ' H', N σ' H' → ∃ m', m' < m ∧ W m' σ' H') ∧ tb { D with nx := N, ct := N, bk := D.nx } σ H1 else D.nx σ H1
theorem ps_while {c : Expr} {body : List Stmt} {tc : TT} {tb : TS} (hp : PassesOwn (model X.prog X.w) X.A X.env X.xe) (hc : PT X c tc) (hb : PSs X body tb) : PS X (.While c body [] pos) (tWhile tc tb) := by
  intro pins s σ H D I h
  obtain ⟨W, ⟨m0, w0⟩, turn⟩ := h
  refine wpAny_While (codeAny_whileLoop (fun n s' => ∃ σ' H', Inv X pins σ' H' s' ∧ W n σ' H') ?_ m0 ⟨σ, H, I, w0⟩)
  rintro n s1 ⟨σ1, H1, I1, w1⟩
  refine wpAny_passesOwn hp (thn (hc pins s1 σ1 H1 _ I1 (turn n σ1 H1 w1)) fun b s2 ⟨H2, I2, q2⟩ => ?_)
  cases b with
  | true =>
    obtain ⟨N, hN, q2⟩ := q2
    rw [if_pos rfl]
    refine wpAny_passesOwn hp (thn (hb pins s2 σ1 H2 _ I2 q2) fun f s3 q3 => ?_)
    cases f with
    | next =>
      obtain ⟨σ3, H3, I3, n3⟩ := q3
      obtain ⟨m', hm, w3⟩ := hN σ3 H3 n3
      exact ⟨m', hm, σ3, H3, I3, w3⟩
    | cont =>
      obtain ⟨σ3, H3, I3, n3⟩ := q3
      obtain ⟨m', hm, w3⟩ := hN σ3 H3 n3
      exact ⟨m', hm, σ3, H3, I3, w3⟩
    | brk => exact q3
    | ret v => exact q3
  | false =>
    rw [if_neg Bool.false_ne_true]
    exact wpAny_execs_nil ⟨σ1, H2, I2, q2⟩
end

/-! ### what a loop or a comprehension walks -/
/-- at turn i: it yields x (the heap may grow), or it stops -/
structure It where
  go : Nat → Hp → Prop
  yld : Nat → Hp → V → Hp → Prop
  stop : Nat → Hp → Prop
/-- the iterator's own objects may turn: they are not the frame's, not pinned, younger than the entry (or a comprehension's own) -/
def FpOk (X : Cx) (pins : List (Addr × Obj)) (H : Hp) (b : Addr) : Prop :=
  H b = none ∧ b ≠ X.env.locals ∧ b ∉ X.fs ∧ (b ∈ X.ex ∨ X.s_0.heap.objs.size ≤ b) ∧ (∀ x c, X.env.cells.lookup x = some c → c ≠ b) ∧ ∀ p ∈ X.pn ++ pins, p.1 ≠ b
theorem Inv.fpOk {X : Cx} {pins : List (Addr × Obj)} {σ : St} {H H' : Hp} {s : Shared} {b : Addr} (I : Inv X pins σ H s) (hb : s.heap.objs.size ≤ b) (hn : H' b = none) : FpOk X pins H' b := by
  refine ⟨hn, Nat.ne_of_gt (Nat.lt_of_lt_of_le I.lt hb), I.nofs hb, .inr (Nat.le_trans I.sz hb), fun x c e z => ?_, fun p hp z => ?_⟩
  · obtain ⟨v, q⟩ := I.cell x c e
    exact absurd (Nat.lt_of_lt_of_le q.lt (by rw [z]; exact hb)) (Nat.lt_irrefl _)
  · exact absurd (Nat.lt_of_lt_of_le (Heap.lt_size (I.pin p hp).1) (by rw [z]; exact hb)) (Nat.lt_irrefl _)
structure Turn (P : Program) (w : World) (K : PySem.W.Frag) (tg : Expr) (J : It) (fp : List Addr) (it : Addr) (tn : Nat → Heap → Prop) : Prop where
  mem : it ∈ fp
  obj : ∀ i h, tn i h → ∀ b ∈ fp, ∃ o, h.get? b = some o ∧ ∀ v, o.data ≠ .cell v
  keep : ∀ i h h', tn i h → (∀ b ∈ fp, ∀ o, h.get? b = some o → h'.get? b = some o) → tn i h'
  item : ∀ (X : Cx), X.prog = P → X.w = w → X.K = K → X.calm = true → ∀ (i : Nat) (pins : List (Addr × Obj)) (s : Shared) (σ : St) (H : Hp) (E : Value → Shared → Prop), Inv X pins σ H s → (∀ b ∈ fp, FpOk X pins H b) → tn i s.heap → J.go i H →
    wpAny (model P w) X.A (pyNext (.ref it)) (fun r s1 => ∃ u, r = some u ∧
      wpAny (model P w) X.A (letOwnedTupleGo tg (.ref it) u) (fun _ s2 => ∃ x H', Inv X pins σ H' s2 ∧ RelV x u ∧ J.yld i H x H' ∧ tn (i + 1) s2.heap ∧ ∀ b ∈ fp, H' b = none) E s1) E s
  done : ∀ (X : Cx), X.prog = P → X.w = w → X.K = K → X.calm = true → ∀ (i : Nat) (pins : List (Addr × Obj)) (s : Shared) (σ : St) (H : Hp) (E : Value → Shared → Prop), Inv X pins σ H s → (∀ b ∈ fp, FpOk X pins H b) → tn i s.heap → J.stop i H →
    wpAny (model P w) X.A (pyNext (.ref it)) (fun r s1 => r = none ∧ Inv X pins σ H s1) E s
  self : ∀ (A : Around) (i : Nat) (s : Shared) (Q : Value → Shared → Prop) (E : Value → Shared → Prop), tn i s.heap → Q (.ref it) s → wpAny (model P w) A (pyIter (.ref it)) Q E s
abbrev TI := St → Hp → (It → Hp → Prop) → Prop
/-- an iterator has come -/
def PIE (X : Cx) (pins : List (Addr × Obj)) (σ : St) (tg : Expr) (R : It → Hp → Prop) (itv : Value) (s2 : Shared) : Prop :=
  ∃ (it : Addr) (fp : List Addr) (tn : Nat → Heap → Prop) (J : It) (H' : Hp), itv = .ref it ∧ Inv X pins σ H' s2 ∧ Turn X.prog X.w X.K tg J fp it tn ∧ tn 0 s2.heap ∧ (∀ b ∈ fp, FpOk X pins H' b) ∧ R J H'
def PI (X : Cx) (tg iter : Expr) (wi : TI) : Prop :=
  ∀ (pins : List (Addr × Obj)) (s : Shared) (σ : St) (H : Hp) (R : It → Hp → Prop), Inv X pins σ H s → wi σ H R →
    wpAny (model X.prog X.w) X.A (eval iter X.env) (fun v s1 => wpAny (model X.prog X.w) X.A (pyIter v) (PIE X pins σ tg R) X.xe s1) X.xe s

/-- the step ahead of the store is nothing for an iterator that keeps no tuple -/
theorem go_of {M : Model} {A : Around} {E : Value → Shared → Prop} {s : Shared} {tg : Expr} {it : Addr} {u : Value} {o : Obj} {n : String} {vs : Array Value} {Q : Unit → Shared → Prop} (ho : s.heap.get? it = some o) (hc : o.cls = .type n) (hd : o.data = .fields vs)
    (hn : ["enumerate", "zip", "dict_itemiterator", "dict_reverseitemiterator", "odict_iterator", "itertools.zip_longest", "itertools.pairwise"].contains n = false) (hQ : Q () s) : wpAny M A (letOwnedTupleGo tg (.ref it) u) Q E s := by
  unfold letOwnedTupleGo
  cases tg <;> first
    | exact wpAny_pure hQ
    | (cases u <;> first
        | exact wpAny_pure hQ
        | (refine wpAny_bind (wpAny_load ho ?_)
           rw [hc, hd]
           show wpAny M A (if (["enumerate", "zip", "dict_itemiterator", "dict_reverseitemiterator", "odict_iterator", "itertools.zip_longest", "itertools.pairwise"].contains n && vs[0]? == some (rawInt _)) = true then _ else _) Q E s
           rw [if_neg (by intro h; rw [hn, Bool.false_and] at h; cases h)]
           exact wpAny_pure hQ))

/-- the list at a, as it stands at each turn (a loop may append to it) -/
def Itl (K : PySem.W.Frag) (a : Addr) : It :=
  ⟨fun i H => ∃ xs x, SqL K H a xs ∧ xs[i]? = some x, fun i H x H' => H' = H ∧ ∀ xs, SqL K H a xs → xs[i]? = some x, fun i H => ∃ xs, SqL K H a xs ∧ xs.length ≤ i⟩
def Itt (K : PySem.W.Frag) (a : Addr) : It :=
  ⟨fun i H => ∃ xs x, SqT K H a xs ∧ xs[i]? = some x, fun i H x H' => H' = H ∧ ∀ xs, SqT K H a xs → xs[i]? = some x, fun i H => ∃ xs, SqT K H a xs ∧ xs.length ≤ i⟩
/-- lo, lo + 1, .. (n of them) -/
def Itr (lo : Int) (n : Nat) : It := ⟨fun i _ => i < n, fun i H x H' => H' = H ∧ x = .int (lo + i), fun i _ => n ≤ i⟩
theorem turn_list {P : Program} {w : World} {K : PySem.W.Frag} {tg : Expr} (a it : Addr) : Turn P w K tg (Itl K a) [it] it (fun i h => h.IsListIter it a i) where
  mem := by simp
  obj := fun i h st b hb => by
    have e : b = it := by simpa using hb
    subst e
    obtain ⟨o, e, c, d⟩ := st
    exact ⟨o, e, fun v z => by rw [d] at z; cases z⟩
  keep := fun i h h' st k => st.at fun o e => k it (by simp) o e
  item := by
    intro X hP hw hK hc i pins s σ H E I hf st hg
    subst hP hw hK
    obtain ⟨xs, x, hq, hx⟩ := hg
    obtain ⟨its, rv, p, hz⟩ := I.list hq
    obtain ⟨u, hu, ru⟩ := rv.get hx
    obtain ⟨f0, f1, f2, f3, f4, f5⟩ := hf it (by simp)
    refine wpAny_pyNext_list_item st p.isList (x := u) (by simpa using hu) fun h' st' sb => ?_
    have I1 : Inv X pins σ H { s with heap := h' } := I.turned (t' := s.toks) (fun b o hb e => (sb.2 b hb).trans e) f0 f1 f3 f4 f5
    obtain ⟨o, e, c, d⟩ := id st'
    exact ⟨u, rfl, go_of (s := { s with heap := h' }) e c d (by decide) ⟨x, H, I1, ru, ⟨rfl, fun ys hy => by rw [I.list_inj hy hq]; exact hx⟩, st', fun b hb => (hf b hb).1⟩⟩
  done := by
    intro X hP hw hK hc i pins s σ H E I hf st hg
    subst hP hw hK
    obtain ⟨xs, hq, hx⟩ := hg
    obtain ⟨its, rv, p, hz⟩ := I.list hq
    obtain ⟨f0, f1, f2, f3, f4, f5⟩ := hf it (by simp)
    have hl := rv.length
    exact wpAny_pyNext_list_end (I.ok.hd hc) st p.isList (by simp; omega) fun h' eb => ⟨rfl, I.turned (t' := s.toks) (fun b o hb e => eb b o hb e) f0 f1 f3 f4 f5⟩
  self := fun _ _ _ _ _ st h => wpAny_pyIter_listiter st h
theorem turn_range {P : Program} {w : World} {K : PySem.W.Frag} {tg : Expr} (it : Addr) (lo : Int) (n : Nat) : Turn P w K tg (Itr lo n) [it] it (fun i h => IsRangeIter h it (lo + (i : Nat) * 1) ((n : Int) - (i : Nat)) 1) where
  mem := by simp
  obj := fun i h st b hb => by
    have e : b = it := by simpa using hb
    subst e
    exact ⟨_, st, fun v z => by
      have z' : Data.fields _ = Data.cell v := z
      cases z'⟩
  keep := fun i h h' st k => k it (by simp) _ st
  item := by
    intro X hP hw hK hc i pins s σ H E I hf st hg
    subst hP hw hK
    obtain ⟨f0, f1, f2, f3, f4, f5⟩ := hf it (by simp)
    have W := Walks.range (prog := X.prog) (w := X.w) (I.ok.hd hc) it lo 1 n
    refine W.item i s _ _ hg st fun v h' tk hv st' kk => ?_
    obtain ⟨t, rfl⟩ := hv
    have I1 : Inv X pins σ H { s with heap := h', toks := tk } := I.turned (fun b o hb e => kk b o (by simpa using hb) e) f0 f1 f3 f4 f5
    refine ⟨_, rfl, go_of (s := { s with heap := h', toks := tk }) (n := "range_iterator") st' rfl rfl (by decide) ⟨.int (lo + i), H, I1, ⟨t, ?_⟩, ⟨rfl, rfl⟩, st', fun b hb => (hf b hb).1⟩⟩
    rw [Int.mul_one]
  done := by
    intro X hP hw hK hc i pins s σ H E I hf st hg
    subst hP hw hK
    obtain ⟨f0, f1, f2, f3, f4, f5⟩ := hf it (by simp)
    exact wpAny_pyNext_range_end (I.ok.hd hc) st (by have : n ≤ i := hg; omega) fun h' eb => ⟨rfl, I.turned (t' := s.toks) (fun b o hb e => eb b o hb e) f0 f1 f3 f4 f5⟩
  self := fun _ _ _ _ _ st h => wpAny_pyIter_rangeiter st h
end L2

namespace L2
open PySem PySem.Spec PyProof.Rows
section
variable {X : Cx} {tg : Expr}
def iList (K : PySem.W.Frag) (tl : TE) : TI := fun σ H R => tl σ H fun x H1 => ∃ a, x = .ref a ∧ (∃ xs, SqL K H1 a xs) ∧ R (Itl K a) H1
def iTup (K : PySem.W.Frag) (tl : TE) : TI := fun σ H R => tl σ H fun x H1 => ∃ a, x = .ref a ∧ (∃ xs, SqT K H1 a xs) ∧ R (Itt K a) H1
theorem pi_list {l : Expr} {tl : TE} (hl : PE X l tl) : PI X tg l (iList X.K tl) := by
  intro pins s σ H R I h
  refine thn (hl pins s σ H _ I h) fun v s1 ⟨x, H1, I1, r1, q1⟩ => ?_
  obtain ⟨a, e, ⟨xs, hq⟩, q⟩ := q1
  subst e
  cases r1
  obtain ⟨its, rv, p, hz⟩ := I1.list hq
  refine wpAny_pyIter_list p.isList ?_
  refine ⟨s1.heap.objs.size, [s1.heap.objs.size], _, _, H1, rfl, I1.kept (t' := s1.toks) fun b o e => Heap.get?_push_of_some _ e, turn_list a _, ⟨_, Heap.get?_push_size _ rfl, rfl, rfl⟩, fun b hb => ?_, q⟩
  have e : b = s1.heap.objs.size := by simpa using hb
  subst e
  exact I1.fpOk (Nat.le_refl _) (I1.hok.fresh (Nat.le_refl _))
/-- a range object just made, walked -/
theorem range_it {pins : List (Addr × Obj)} {σ : St} {H : Hp} {s : Shared} {R : It → Hp → Prop} {E : Value → Shared → Prop} {lo hi : Int} {t u v : Tok} {tk : Nat} (I : Inv X pins σ H s) (h1 : -(2 ^ 62) ≤ lo) (h2 : lo < 2 ^ 62) (h3 : -(2 ^ 62) ≤ hi) (h4 : hi < 2 ^ 62)
    (q : R (Itr lo (hi - lo).toNat) H) : wpAny (model X.prog X.w) X.A (pyIter (.ref s.heap.objs.size)) (PIE X pins σ tg R) E { s with heap := s.heap.push { cls := .type "range", data := .fields #[.int lo t, .int hi u, .int 1 v] }, toks := tk } := by
  refine wpAny_pyIter_range (IsRange.new ..) (small_one h1 h2 h3 h4) ?_
  have I1 : Inv X pins σ H { s with heap := s.heap.push { cls := .type "range", data := .fields #[.int lo t, .int hi u, .int 1 v] }, toks := tk } := I.kept fun b o e => Heap.get?_push_of_some _ e
  refine ⟨(s.heap.push { cls := .type "range", data := .fields #[.int lo t, .int hi u, .int 1 v] }).objs.size, [(s.heap.push { cls := .type "range", data := .fields #[.int lo t, .int hi u, .int 1 v] }).objs.size], _, _, H, rfl,
    I1.kept (t' := tk) fun b o e => Heap.get?_push_of_some _ e, turn_range _ lo (hi - lo).toNat, ?_, fun b hb => ?_, q⟩
  · have e1 : lo + ((0 : Nat) : Int) * 1 = lo := by simp
    have e2 : (((hi - lo).toNat : Nat) : Int) - ((0 : Nat) : Int) = Builtin.Range.rangeSize lo hi 1 := by rw [rangeSize_one]; split <;> omega
    show IsRangeIter _ _ (lo + ((0 : Nat) : Int) * 1) ((((hi - lo).toNat : Nat) : Int) - ((0 : Nat) : Int)) 1
    rw [e1, e2]
    exact Heap.get?_push_size _ rfl
  · have e : b = (s.heap.push { cls := .type "range", data := .fields #[.int lo t, .int hi u, .int 1 v] }).objs.size := by simpa using hb
    subst e
    exact I1.fpOk (Nat.le_refl _) (I1.hok.fresh (Nat.le_refl _))
def iRng1 (ta : TA) : TI := fun σ H R => ta σ H fun vs H1 => ∃ j : Int, vs = [.int j] ∧ -(2 ^ 62) ≤ j ∧ j < 2 ^ 62 ∧ R (Itr 0 j.toNat) H1
def iRng2 (ta : TA) : TI := fun σ H R => ta σ H fun vs H1 => ∃ i j : Int, vs = [.int i, .int j] ∧ (-(2 ^ 62) ≤ i ∧ i < 2 ^ 62 ∧ -(2 ^ 62) ≤ j ∧ j < 2 ^ 62) ∧ R (Itr i (j - i).toNat) H1
theorem pi_range1 {a : Expr} {ta : TA} {p pos : Pos} (hg : Gl X "range") (hm : X.mg "range" = none) (ha : PA X [a] ta) (hs : starEach [a] X.env = [(false, eval a X.env)] := by rfl) : PI X tg (.Call (.Name "range" p) [a] [] pos) (iRng1 ta) := by
  intro pins s σ H R I h
  refine Call_ (ld_blt I hg hm boot_range (PyProof.Rows.callWith_type1 (thn (ha pos pins s σ H _ I h) fun us s1 ⟨vs, H1, I1, r1, q1⟩ => ?_) hs rfl))
  obtain ⟨j, e, q1, q2, q⟩ := q1
  subst e
  cases r1 with
  | cons r rr =>
    cases rr
    obtain ⟨t, rfl⟩ := r
    exact call_range_1 (range_it I1 (by omega) (by omega) q1 q2 (by simpa using q))

/-! ### for -/
/-- W: the invariant by the turn and a measure; N: what the body is to reach -/
def tFor (wi : TI) (g : TG) (tb : TS) : TS := fun D σ H => wi σ H fun J H1 => ∃ W : Nat → Nat → St → Hp → Prop, (∃ m, W 0 m σ H1) ∧ ∀ i m σ H, W i m σ H →
  (J.stop i H ∧ D.nx σ H) ∨ (J.go i H ∧ ∃ N : St → Hp → Prop, (∀ σ' H', N σ' H' → ∃ m', m' < m ∧ W (i + 1) m' σ' H') ∧ ∀ x H', J.yld i H x H' → g x σ H' fun σ2 H2 => tb { D with nx := N, ct := N, bk := D.nx } σ2 H2)
/-- the records at fp as they stand -/
def pinsAt (fp : List Addr) (h : Heap) : List (Addr × Obj) := fp.filterMap fun b => (h.get? b).map fun o => (b, o)
theorem mem_pinsAt {fp : List Addr} {h : Heap} {b : Addr} {o : Obj} (hb : b ∈ fp) (e : h.get? b = some o) : (b, o) ∈ pinsAt fp h := List.mem_filterMap.mpr ⟨b, hb, by rw [e]; rfl⟩
theorem of_pinsAt {fp : List Addr} {h : Heap} {p : Addr × Obj} (hp : p ∈ pinsAt fp h) : p.1 ∈ fp ∧ h.get? p.1 = some p.2 := by
  obtain ⟨b, hb, e⟩ := List.mem_filterMap.mp hp
  cases q : h.get? b with
  | none => rw [q] at e; cases e
  | some o =>
    rw [q] at e
    have e' : (b, o) = p := Option.some.inj e
    subst e'
    exact ⟨hb, q⟩
theorem Inv.pinned {pins : List (Addr × Obj)} {σ : St} {H : Hp} {s : Shared} {fp : List Addr} (I : Inv X pins σ H s) (hf : ∀ b ∈ fp, FpOk X pins H b) (ho : ∀ b ∈ fp, ∃ o, s.heap.get? b = some o ∧ ∀ v, o.data ≠ .cell v) : Inv X (pins ++ pinsAt fp s.heap) σ H s :=
  I.pins_of fun p hp => (List.mem_append.mp hp).elim (fun z => I.pin p (List.mem_append_right _ z)) fun z => by
    obtain ⟨hb, e⟩ := of_pinsAt z
    obtain ⟨f0, f1, f2, _⟩ := hf p.1 hb
    obtain ⟨o, e', d⟩ := ho p.1 hb
    rw [e] at e'; cases e'
    exact ⟨e, f0, f1, f2, d⟩
theorem Inv.unpinned {pins pl : List (Addr × Obj)} {σ : St} {H : Hp} {s : Shared} (I : Inv X (pins ++ pl) σ H s) : Inv X pins σ H s := I.pins_of fun p hp => I.pin p (List.mem_append_right _ (List.mem_append_left _ hp))
theorem ps_for {iter : Expr} {body : List Stmt} {wi : TI} {g : TG} {tb : TS} {pos : Pos} (hp : PassesOwn (model X.prog X.w) X.A X.env X.xe) (hc : X.calm = true) (hi : PI X tg iter wi) (hg : PG X tg g) (hb : PSs X body tb)
    (hs : ∀ x, foldedSetIterable iter X.env x = pure x := by intro _; rfl) : PS X (.For tg iter body [] pos) (tFor wi g tb) := by
  intro pins s σ H D I h
  refine wpAny_For (thn (hi pins s σ H _ I h) fun v s1 h1 => thn h1 fun itv s2 h2 => ?_) hs
  obtain ⟨it, fp, tn, J, H2, e, I2, T, st2, f2, W, ⟨m0, w0⟩, turn⟩ := h2
  subst e
  -- what stays true of the iterator's objects through the loop
  have stat : ∀ {H' : Hp}, (∀ b ∈ fp, H' b = none) → ∀ b ∈ fp, FpOk X pins H' b := fun hn b hb => ⟨hn b hb, (f2 b hb).2⟩
  refine codeAny_forLoop_any (fun n s' => ∃ i σ' H', Inv X pins σ' H' s' ∧ tn i s'.heap ∧ (∀ b ∈ fp, H' b = none) ∧ W i n σ' H') ?_ m0 ⟨0, σ, H2, I2, st2, fun b hb => (f2 b hb).1, w0⟩
  rintro n s3 ⟨i, σ3, H3, I3, st3, fr3, w3⟩
  rcases turn i n σ3 H3 w3 with ⟨stop, qn⟩ | ⟨go, N, hN, step⟩
  · refine wpAny_passesOwn hp (thn (T.done X rfl rfl rfl hc i pins s3 σ3 H3 X.xe I3 (stat fr3) st3 stop) fun r s4 ⟨hr, I4⟩ => ?_)
    subst hr
    exact wpAny_execs_nil ⟨σ3, H3, I4, qn⟩
  · refine wpAny_passesOwn hp (thn (T.item X rfl rfl rfl hc i pins s3 σ3 H3 X.xe I3 (stat fr3) st3 go) fun r s4 ⟨u, hr, h4⟩ => ?_)
    subst hr
    refine wpAny_passesOwn hp (thn h4 fun _ s5 ⟨x, H5, I5, r5, y5, st5, fr5⟩ => ?_)
    have I5' := I5.pinned (stat fr5) (T.obj _ _ st5)
    refine wpAny_passesOwn hp (thn (hg _ s5 σ3 H5 x u _ I5' r5 (step x H5 y5)) fun _ s6 ⟨σ6, H6, I6, q6⟩ => ?_)
    refine wpAny_passesOwn hp (thn (hb _ s6 σ6 H6 _ I6 q6) fun f s7 q7 => ?_)
    have again : ∀ {σ7 : St} {H7 : Hp}, Inv X (pins ++ pinsAt fp s5.heap) σ7 H7 s7 → N σ7 H7 → ∃ m, m < n ∧ ∃ i σ' H', Inv X pins σ' H' s7 ∧ tn i s7.heap ∧ (∀ b ∈ fp, H' b = none) ∧ W i m σ' H' := fun {σ7 H7} I7 n7 => by
      obtain ⟨m', hm, w7⟩ := hN σ7 H7 n7
      refine ⟨m', hm, i + 1, σ7, H7, I7.unpinned, T.keep _ _ _ st5 fun b hb o e => (I7.pin (b, o) (List.mem_append_right _ (List.mem_append_right _ (mem_pinsAt hb e)))).1, fun b hb => ?_, w7⟩
      obtain ⟨o, e, d⟩ := T.obj _ _ st5 b hb
      exact (I7.pin (b, o) (List.mem_append_right _ (List.mem_append_right _ (mem_pinsAt hb e)))).2.1
    cases f with
    | next => obtain ⟨σ7, H7, I7, n7⟩ := q7; exact again I7 n7
    | cont => obtain ⟨σ7, H7, I7, n7⟩ := q7; exact again I7 n7
    | brk => obtain ⟨σ7, H7, I7, q7⟩ := q7; exact ⟨σ7, H7, I7.unpinned, q7⟩
    | ret v => obtain ⟨x7, σ7, H7, I7, r7, q7⟩ := q7; exact ⟨x7, σ7, H7, I7.unpinned, r7, q7⟩
end

/-! ### the forms one uses -/
/-- over a list that the body leaves as it is -/
theorem for_list {K : PySem.W.Frag} {a : Addr} {xs : List V} {g : TG} {tb : TS} {D : Ends} {σ : St} {H : Hp} (Pv : Nat → St → Hp → Prop) (h0 : Pv 0 σ H) (hl : ∀ i σ H, i ≤ xs.length → Pv i σ H → SqL K H a xs)
    (hs : ∀ i x σ H, xs[i]? = some x → Pv i σ H → g x σ H fun σ2 H2 => tb { D with nx := Pv (i + 1), ct := Pv (i + 1), bk := D.nx } σ2 H2) (hd : ∀ σ H, Pv xs.length σ H → D.nx σ H) :
    ∃ W : Nat → Nat → St → Hp → Prop, (∃ m, W 0 m σ H) ∧ ∀ i m σ H, W i m σ H →
      ((Itl K a).stop i H ∧ D.nx σ H) ∨ ((Itl K a).go i H ∧ ∃ N : St → Hp → Prop, (∀ σ' H', N σ' H' → ∃ m', m' < m ∧ W (i + 1) m' σ' H') ∧ ∀ x H', (Itl K a).yld i H x H' → g x σ H' fun σ2 H2 => tb { D with nx := N, ct := N, bk := D.nx } σ2 H2) := by
  refine ⟨fun i m σ H => m = xs.length - i ∧ i ≤ xs.length ∧ Pv i σ H, ⟨xs.length, by simp, Nat.zero_le _, h0⟩, ?_⟩
  rintro i m σ H ⟨rfl, hi, p⟩
  have q := hl i σ H hi p
  by_cases hlt : i < xs.length
  · refine .inr ⟨⟨xs, xs[i], q, by simp [hlt]⟩, Pv (i + 1), fun σ' H' p' => ⟨xs.length - (i + 1), by omega, rfl, hlt, p'⟩, fun x H' y => ?_⟩
    obtain ⟨e, y⟩ := y
    subst e
    exact hs i x σ _ (y xs q) p
  · have e : i = xs.length := by omega
    subst e
    exact .inl ⟨⟨xs, q, Nat.le_refl _⟩, hd σ H p⟩
theorem for_range {lo : Int} {n : Nat} {g : TG} {tb : TS} {D : Ends} {σ : St} {H : Hp} (Pv : Nat → St → Hp → Prop) (h0 : Pv 0 σ H)
    (hs : ∀ i σ H, i < n → Pv i σ H → g (.int (lo + i)) σ H fun σ2 H2 => tb { D with nx := Pv (i + 1), ct := Pv (i + 1), bk := D.nx } σ2 H2) (hd : ∀ σ H, Pv n σ H → D.nx σ H) :
    ∃ W : Nat → Nat → St → Hp → Prop, (∃ m, W 0 m σ H) ∧ ∀ i m σ H, W i m σ H →
      ((Itr lo n).stop i H ∧ D.nx σ H) ∨ ((Itr lo n).go i H ∧ ∃ N : St → Hp → Prop, (∀ σ' H', N σ' H' → ∃ m', m' < m ∧ W (i + 1) m' σ' H') ∧ ∀ x H', (Itr lo n).yld i H x H' → g x σ H' fun σ2 H2 => tb { D with nx := N, ct := N, bk := D.nx } σ2 H2) := by
  refine ⟨fun i m σ H => m = n - i ∧ i ≤ n ∧ Pv i σ H, ⟨n, by simp, Nat.zero_le _, h0⟩, ?_⟩
  rintro i m σ H ⟨rfl, hi, p⟩
  by_cases hlt : i < n
  · refine .inr ⟨hlt, Pv (i + 1), fun σ' H' p' => ⟨n - (i + 1), by omega, rfl, hlt, p'⟩, fun x H' y => ?_⟩
    obtain ⟨e, y⟩ := y
    subst e y
    exact hs i σ _ hlt p
  · have e : i = n := by omega
    subst e
    exact .inl ⟨Nat.le_refl _, hd σ H p⟩
/-- while, by a word and a measure of the state -/
theorem while_by {c : TT} {tb : TS} {D : Ends} {σ : St} {H : Hp} (Pv : St → Hp → Prop) (μ : St → Hp → Nat) (h0 : Pv σ H)
    (hs : ∀ σ H, Pv σ H → c σ H fun b H1 => if b = true then tb { D with nx := fun σ' H' => Pv σ' H' ∧ μ σ' H' < μ σ H, ct := fun σ' H' => Pv σ' H' ∧ μ σ' H' < μ σ H, bk := D.nx } σ H1 else D.nx σ H1)
    (mono : ∀ σ H Q Q', (∀ b H1, Q b H1 → Q' b H1) → c σ H Q → c σ H Q') : tWhile c tb D σ H := by
  refine ⟨fun m σ H => m = μ σ H ∧ Pv σ H, ⟨_, rfl, h0⟩, ?_⟩
  rintro m σ H ⟨rfl, p⟩
  refine mono σ H _ _ (fun b H1 q => ?_) (hs σ H p)
  cases b with
  | true => exact ⟨_, fun σ' H' ⟨p', l⟩ => ⟨_, l, rfl, p'⟩, q⟩
  | false => exact q
end L2

namespace L2
open PySem PySem.Spec PyProof.Rows

abbrev R2 := V → V → Hp → VK → Prop
/-- a two-place operation on values: f is binaryOp op, inplaceOp op or compareOp op -/
def OpR (X : Cx) (f : Value → Value → Sem Value) (r : R2) : Prop :=
  ∀ (pins : List (Addr × Obj)) (s : Shared) (σ : St) (H : Hp) (x y : V) (v u : Value) (Q : VK), Inv X pins σ H s → RelV x v → RelV y u → r x y H Q →
    wpAny (model X.prog X.w) X.A (f v u) (EP X pins σ Q) X.xe s
/-- a one-place operation -/
def UnR (X : Cx) (f : Value → Sem Value) (r : V → Hp → VK → Prop) : Prop :=
  ∀ (pins : List (Addr × Obj)) (s : Shared) (σ : St) (H : Hp) (x : V) (v : Value) (Q : VK), Inv X pins σ H s → RelV x v → r x H Q →
    wpAny (model X.prog X.w) X.A (f v) (EP X pins σ Q) X.xe s
/-- a call of a value that is known (a builtin, a type) with values -/
def CallR (X : Cx) (f : Value) (r : List V → Hp → VK → Prop) : Prop :=
  ∀ (pins : List (Addr × Obj)) (s : Shared) (σ : St) (H : Hp) (xs : List V) (us : List Value) (Q : VK), Inv X pins σ H s → Vals xs us → r xs H Q →
    wpAny (model X.prog X.w) X.A (call f us) (EP X pins σ Q) X.xe s
/-- a value's truth -/
def TruR (X : Cx) (r : V → Hp → (Bool → Hp → Prop) → Prop) : Prop :=
  ∀ (pins : List (Addr × Obj)) (s : Shared) (σ : St) (H : Hp) (x : V) (v : Value) (Q : Bool → Hp → Prop), Inv X pins σ H s → RelV x v → r x H Q →
    wpAny (model X.prog X.w) X.A (truthy v) (TP X pins σ Q) X.xe s

def tOp (r : R2) (ta tb : TE) : TE := fun σ H Q => ta σ H fun x H1 => tb σ H1 fun y H2 => r x y H2 Q
def tUn (r : V → Hp → VK → Prop) (ta : TE) : TE := fun σ H Q => ta σ H fun x H1 => r x H1 Q
/-- ints in, under C, and a value out -/
def rI (C : Int → Int → Prop) (g : Int → Int → V) : R2 := fun x y H Q => ∃ i j, x = .int i ∧ y = .int j ∧ C i j ∧ Q (g i j) H
def rI0 (g : Int → Int → V) : R2 := fun x y H Q => ∃ i j, x = .int i ∧ y = .int j ∧ Q (g i j) H
def rU (g : Int → V) : V → Hp → VK → Prop := fun x H Q => ∃ i, x = .int i ∧ Q (g i) H

section
variable {X : Cx} {a b c : Expr} {ta tb tc : TE} {pos : Pos}

theorem binT (ha : PE X a ta) (hb : PE X b tb) {pins : List (Addr × Obj)} {s : Shared} {σ : St} {H : Hp} {R : V → V → Hp → Prop} (I : Inv X pins σ H s)
    (h : ta σ H fun x H1 => tb σ H1 fun y H2 => R x y H2) {Q : Value → Shared → Prop} {f : Value → Value → Sem Value}
    (hf : ∀ v u s2 x y H2, Inv X pins σ H2 s2 → RelV x v → RelV y u → R x y H2 → wpAny (model X.prog X.w) X.A (f v u) Q X.xe s2) :
    wpAny (model X.prog X.w) X.A (eval a X.env) (fun v s₁ => wpAny (model X.prog X.w) X.A (eval b X.env) (fun u s₂ => wpAny (model X.prog X.w) X.A (f v u) Q X.xe s₂) X.xe s₁) X.xe s := by
  refine thn (ha pins s σ H _ I h) fun v s1 ⟨x, H1, I1, r1, q1⟩ => ?_
  refine thn (hb pins s1 σ H1 _ I1 q1) fun u s2 ⟨y, H2, I2, r2, q2⟩ => ?_
  exact hf v u s2 x y H2 I2 r1 r2 q2

theorem pe_op {op : Operator} {r : R2} (ho : OpR X (binaryOp op) r) (ha : PE X a ta) (hb : PE X b tb) : PE X (.BinOp a op b pos) (tOp r ta tb) := by
  intro pins s σ H Q I h
  exact wpAny_BinOp (binT ha hb I h fun v u s2 x y H2 I2 rx ry q => ho pins s2 σ H2 x y v u Q I2 rx ry q)
theorem pe_un {op : UnaryOp} {r : V → Hp → VK → Prop} (ho : UnR X (unaryOp op) r) (ha : PE X a ta) : PE X (.UnaryOp op a pos) (tUn r ta) := by
  intro pins s σ H Q I h
  exact UnaryOp_ (thn (ha pins s σ H _ I h) fun v s1 ⟨x, H1, I1, r1, q1⟩ => ho pins s1 σ H1 x v Q I1 r1 q1)

/-! ### ints -/
theorem opI0 {f : Value → Value → Sem Value} {g : Int → Int → Int}
    (rule : ∀ (i j : Int) (t u : Tok) (s : Shared) (Q : Value → Shared → Prop) (E : Value → Shared → Prop), Q (.int (g i j) s.toks) { s with toks := s.toks + 1 } → wpAny (model X.prog X.w) X.A (f (.int i t) (.int j u)) Q E s) :
    OpR X f (rI0 fun i j => .int (g i j)) := by
  intro pins s σ H x y v u Q I rx ry h
  obtain ⟨i, j, rfl, rfl, q⟩ := h
  obtain ⟨t, rfl⟩ := rx
  obtain ⟨t', rfl⟩ := ry
  exact rule i j t t' s _ _ ⟨.int (g i j), H, I.tok _, ⟨_, rfl⟩, q⟩
theorem opB0 {f : Value → Value → Sem Value} {g : Int → Int → Bool}
    (rule : ∀ (i j : Int) (t u : Tok) (s : Shared) (Q : Value → Shared → Prop) (E : Value → Shared → Prop), Q (.bool (g i j)) s → wpAny (model X.prog X.w) X.A (f (.int i t) (.int j u)) Q E s) :
    OpR X f (rI0 fun i j => .bl (g i j)) := by
  intro pins s σ H x y v u Q I rx ry h
  obtain ⟨i, j, rfl, rfl, q⟩ := h
  obtain ⟨t, rfl⟩ := rx
  obtain ⟨t', rfl⟩ := ry
  exact rule i j t t' s _ _ ⟨.bl (g i j), H, I, rfl, q⟩

def CDiv (i j : Int) : Prop := 0 < j ∧ j < 1073741824
def CDivN (i j : Int) : Prop := j ≠ 0 ∧ j.natAbs < 1073741824
def CPow (i j : Int) : Prop := 0 ≤ j ∧ j ≤ 1000000 ∧ i.natAbs < 2 ^ 64
def CMul (i j : Int) : Prop := (-(2 ^ 64) < i ∧ i < 2 ^ 64) ∨ (-(2 ^ 64) < j ∧ j < 2 ^ 64)

theorem op_add : OpR X (binaryOp .Add) (rI0 fun i j => .int (i + j)) := opI0 fun _ _ _ _ _ _ _ q => add_int q
theorem op_sub : OpR X (binaryOp .Sub) (rI0 fun i j => .int (i - j)) := opI0 fun _ _ _ _ _ _ _ q => sub_int q


theorem unI {f : Value → Sem Value} {g : Int → Int}
    (rule : ∀ (i : Int) (t : Tok) (s : Shared) (Q : Value → Shared → Prop) (E : Value → Shared → Prop), Q (.int (g i) s.toks) { s with toks := s.toks + 1 } → wpAny (model X.prog X.w) X.A (f (.int i t)) Q E s) :
    UnR X f (rU fun i => .int (g i)) := by
  intro pins s σ H x v Q I rx h
  obtain ⟨i, rfl, q⟩ := h
  obtain ⟨t, rfl⟩ := rx
  exact rule i t s _ _ ⟨.int (g i), H, I.tok _, ⟨_, rfl⟩, q⟩
theorem un_neg : UnR X (unaryOp .USub) (rU fun i => .int (-i)) := unI fun _ _ _ _ _ q => neg_int q

/-! ### bools among ints: n += (a < b) -/
end

/-! ### comparisons -/
/-- the scalars that == tells apart as data does -/
def scal : V → V → Bool
  | .non, .non => true | .non, .int _ => true | .int _, .non => true | .non, .bl _ => true | .bl _, .non => true | .non, .str _ => true | .str _, .non => true
  | .int _, .int _ => true | .bl _, .bl _ => true | .str _, .str _ => true | .byt _, .byt _ => true
  | .int _, .str _ => true | .str _, .int _ => true | .bl _, .str _ => true | .str _, .bl _ => true
  | _, _ => false
def rEq : R2 := fun x y H Q => scal x y = true ∧ Q (.bl (decide (x = y))) H
def rNe : R2 := fun x y H Q => scal x y = true ∧ Q (.bl (!decide (x = y))) H

theorem dec_int {i j : Int} : decide (V.int i = V.int j) = (i == j) := by
  rw [Bool.eq_iff_iff]
  simp
theorem dec_bl {i j : Bool} : decide (V.bl i = V.bl j) = (i == j) := by
  rw [Bool.eq_iff_iff]
  simp
theorem dec_str {i j : Str} : decide (V.str i = V.str j) = (i == j) := by
  rw [Bool.eq_iff_iff]
  simp
theorem dec_byt {i j : Array UInt8} : decide (V.byt i = V.byt j) = (i.toList == j.toList) := by
  rw [Bool.eq_iff_iff]
  cases i
  cases j
  simp

section
variable {X : Cx} {a b c : Expr} {ta tb tc : TE} {pos : Pos}
theorem fin_bl {pins : List (Addr × Obj)} {σ : St} {H : Hp} {s : Shared} {Q : VK} {k k' : Bool} (I : Inv X pins σ H s) (q : Q (.bl k) H) (e : k = k') : EP X pins σ Q (.bool k') s := by
  subst e
  exact ⟨.bl k, H, I, rfl, q⟩
theorem op_eq : OpR X (compareOp .Eq) rEq := by
  intro pins s σ H x y v u Q I rx ry h
  obtain ⟨hs, q⟩ := h
  cases x with
  | non =>
    cases rx
    cases y with
    | non => cases ry; exact PySem.EqNone.eq_none_none (fin_bl I q (by simp))
    | bl j => cases ry; exact PySem.EqNone.eq_none_bool (fin_bl I q (by simp))
    | int j => obtain ⟨t', rfl⟩ := ry; exact PySem.EqNone.eq_none_int (fin_bl I q (by simp))
    | str j => obtain ⟨t', rfl⟩ := ry; exact PySem.EqNone.eq_none_str (fin_bl I q (by simp))
    | _ => exact absurd (show false = true from hs) Bool.false_ne_true
  | bl i =>
    cases rx
    cases y with
    | non => cases ry; exact PySem.EqNone.eq_bool_none (fin_bl I q (by simp))
    | bl j => cases ry; exact eq_bool (fin_bl I q dec_bl)
    | str j => obtain ⟨t', rfl⟩ := ry; exact PySem.EqMixed.eq_bool_str (fin_bl I q (by simp))
    | _ => exact absurd (show false = true from hs) Bool.false_ne_true
  | int i =>
    obtain ⟨t, rfl⟩ := rx
    cases y with
    | non => cases ry; exact PySem.EqNone.eq_int_none (fin_bl I q (by simp))
    | int j => obtain ⟨t', rfl⟩ := ry; exact eq_int (fin_bl I q dec_int)
    | str j => obtain ⟨t', rfl⟩ := ry; exact PySem.EqMixed.eq_int_str (fin_bl I q (by simp))
    | _ => exact absurd (show false = true from hs) Bool.false_ne_true
  | str i =>
    obtain ⟨t, rfl⟩ := rx
    cases y with
    | non => cases ry; exact PySem.EqNone.eq_str_none (fin_bl I q (by simp))
    | bl j => cases ry; exact PySem.EqMixed.eq_str_bool (fin_bl I q (by simp))
    | int j => obtain ⟨t', rfl⟩ := ry; exact PySem.EqMixed.eq_str_int (fin_bl I q (by simp))
    | str j => obtain ⟨t', rfl⟩ := ry; exact eq_str (fin_bl I q dec_str)
    | _ => exact absurd (show false = true from hs) Bool.false_ne_true
  | byt i =>
    obtain ⟨t, rfl⟩ := rx
    cases y with
    | byt j => obtain ⟨t', rfl⟩ := ry; exact PySem.W.eq_bytes (fin_bl I q dec_byt)
    | _ => exact absurd (show false = true from hs) Bool.false_ne_true
  | _ => cases y <;> exact absurd (show false = true from hs) Bool.false_ne_true
theorem op_ne : OpR X (compareOp .NotEq) rNe := by
  intro pins s σ H x y v u Q I rx ry h
  obtain ⟨hs, q⟩ := h
  cases x with
  | non =>
    cases rx
    cases y with
    | non => cases ry; exact PySem.EqNone.ne_none_none (fin_bl I q (by simp))
    | bl j => cases ry; exact PySem.EqNone.ne_none_bool (fin_bl I q (by simp))
    | int j => obtain ⟨t', rfl⟩ := ry; exact PySem.EqNone.ne_none_int (fin_bl I q (by simp))
    | str j => obtain ⟨t', rfl⟩ := ry; exact PySem.EqNone.ne_none_str (fin_bl I q (by simp))
    | _ => exact absurd (show false = true from hs) Bool.false_ne_true
  | bl i =>
    cases rx
    cases y with
    | non => cases ry; exact PySem.EqNone.ne_bool_none (fin_bl I q (by simp))
    | bl j => cases ry; exact ne_bool (fin_bl I q (congrArg not dec_bl))
    | str j => obtain ⟨t', rfl⟩ := ry; exact PySem.EqMixed.ne_bool_str (fin_bl I q (by simp))
    | _ => exact absurd (show false = true from hs) Bool.false_ne_true
  | int i =>
    obtain ⟨t, rfl⟩ := rx
    cases y with
    | non => cases ry; exact PySem.EqNone.ne_int_none (fin_bl I q (by simp))
    | int j => obtain ⟨t', rfl⟩ := ry; exact ne_int (fin_bl I q (congrArg not dec_int))
    | str j => obtain ⟨t', rfl⟩ := ry; exact PySem.EqMixed.ne_int_str (fin_bl I q (by simp))
    | _ => exact absurd (show false = true from hs) Bool.false_ne_true
  | str i =>
    obtain ⟨t, rfl⟩ := rx
    cases y with
    | non => cases ry; exact PySem.EqNone.ne_str_none (fin_bl I q (by simp))
    | bl j => cases ry; exact PySem.EqMixed.ne_str_bool (fin_bl I q (by simp))
    | int j => obtain ⟨t', rfl⟩ := ry; exact PySem.EqMixed.ne_str_int (fin_bl I q (by simp))
    | str j => obtain ⟨t', rfl⟩ := ry; exact ne_str (fin_bl I q (congrArg not dec_str))
    | _ => exact absurd (show false = true from hs) Bool.false_ne_true
  | byt i =>
    obtain ⟨t, rfl⟩ := rx
    cases y with
    | byt j => obtain ⟨t', rfl⟩ := ry; exact PySem.W.ne_bytes (fin_bl I q (congrArg not dec_byt))
    | _ => exact absurd (show false = true from hs) Bool.false_ne_true
  | _ => cases y <;> exact absurd (show false = true from hs) Bool.false_ne_true

theorem op_le : OpR X (compareOp .LtE) (rI0 fun i j => .bl (decide (i ≤ j))) := opB0 fun _ _ _ _ _ _ _ q => le_int q
theorem op_gt : OpR X (compareOp .Gt) (rI0 fun i j => .bl (decide (j < i))) := opB0 fun _ _ _ _ _ _ _ q => gt_int q


/-- is, is not of two objects that are tracked lists or instances -/
def isObj : HO → Bool
  | .lst _ => true
  | .ins _ _ _ => true
  | _ => false


theorem nomark (b : Expr) {op : CmpOp} (h : op ≠ .In := by decide) (h2 : op ≠ .NotIn := by decide) : behindInMarks op b = false := by
  have e1 : (op == CmpOp.In) = false := by cases op <;> first | rfl | exact absurd rfl h
  have e2 : (op == CmpOp.NotIn) = false := by cases op <;> first | rfl | exact absurd rfl h2
  cases b <;> simp [behindInMarks, e1, e2]
/-- a comparison as a value; hm: nomark b, or (for in, not in) by with_unfolding_all rfl -/
theorem pe_cmpR {op : CmpOp} {r : R2} (ho : OpR X (compareOp op) r) (ha : PE X a ta) (hb : PE X b tb) (hm : behindInMarks op b = false) : PE X (.Compare a [op] [b] pos) (tOp r ta tb) := by
  intro pins s σ H Q I h
  exact wpAny_Compare1 (binT ha hb I h fun v u s2 x y H2 I2 rx ry q => ho pins s2 σ H2 x y v u Q I2 rx ry q) hm
/-- a reading of a value as a test -/
def tTest (t : TE) : TT := fun σ H Q => t σ H fun x H' => ∃ k, x = .bl k ∧ Q k H'
theorem pt_cmpR {op : CmpOp} {r : R2} (ho : OpR X (compareOp op) r) (ha : PE X a ta) (hb : PE X b tb) (hm : behindInMarks op b = false) : PT X (.Compare a [op] [b] pos) (tTest (tOp r ta tb)) := by
  intro pins s σ H Q I h
  refine wpAny_isTrue_Compare1 (thn (ha pins s σ H _ I h) fun v s1 ⟨x, H1, I1, r1, q1⟩ => thn (hb pins s1 σ H1 _ I1 q1) fun u s2 ⟨y, H2, I2, r2, q2⟩ =>
    thn (ho pins s2 σ H2 x y v u _ I2 r1 r2 q2) fun c s3 ⟨z, H3, I3, r3, k, e, q3⟩ => ?_) hm
  subst e
  cases r3
  exact wpAny_truthy_bool ⟨H3, I3, q3⟩
/-- a op1 b op2 c -/
def tChain (r r' : R2) (ta tb tc : TE) : TE := fun σ H Q => ta σ H fun x H1 => tb σ H1 fun y H2 => r x y H2 fun z H3 => ∃ k, z = .bl k ∧
  (if k = true then tc σ H3 fun w' H4 => r' y w' H4 Q else Q (.bl false) H3)
theorem pe_chain {op op' : CmpOp} {r r' : R2} (ho : OpR X (compareOp op) r) (ho' : OpR X (compareOp op') r') (ha : PE X a ta) (hb : PE X b tb) (hc : PE X c tc)
    (hm : lastMarks [op, op'] [b, c] = false := by with_unfolding_all rfl) : PE X (.Compare a [op, op'] [b, c] pos) (tChain r r' ta tb tc) := by
  intro pins s σ H Q I h
  refine Compare_chain (thn (ha pins s σ H _ I h) fun v s1 ⟨x, H1, I1, r1, q1⟩ => chain_link (thn (hb pins s1 σ H1 _ I1 q1) fun u s2 ⟨y, H2, I2, r2, q2⟩ =>
    thn (ho pins s2 σ H2 x y v u _ I2 r1 r2 q2) fun d s3 ⟨z, H3, I3, r3, k, e, q3⟩ => ?_)) hm
  subst e
  cases r3
  refine wpAny_truthy_bool ?_
  cases k with
  | false => exact ite_ff ⟨.bl false, H3, I3, rfl, q3⟩
  | true => exact ite_tt (chain_last (thn (hc pins s3 σ H3 _ I3 q3) fun w' s4 ⟨z', H4, I4, r4, q4⟩ => ho' pins s4 σ H4 y z' u w' Q I4 r2 r4 q4))

/-! ### truth -/
/-- a value's truth by the abstract heap -/
def TruV (K : PySem.W.Frag) (x : V) (H : Hp) (k : Bool) : Prop :=
  match x with
  | .non => k = false
  | .bl b => k = b
  | .int i => k = (i != 0)
  | .str y => y.length ≤ sizeLine ∧ k = ((y.length : Int) != 0)
  | .byt y => y.size ≤ sizeLine ∧ k = ((y.size : Int) != 0)
  | .ref p => (∃ xs, SqL K H p xs ∧ k = !xs.isEmpty) ∨ (∃ xs, SqT K H p xs ∧ k = !xs.isEmpty) ∨ ∃ kvs, H p = some (.dK kvs) ∧ k = !kvs.isEmpty
  | _ => False
theorem line63 : (sizeLine : Nat) < 2 ^ 63 := by rw [sizeLine_eq]; decide

/-! ### strs and bytes -/

def PlainIxT (b : Expr) : Prop := ∀ o i, subscripted b false o i = operate [o, i] (getItem o i)

/-! ### scalar builtins, by CallR -/
theorem vals1 {x : V} {us : List Value} (r : Vals [x] us) : ∃ u, us = [u] ∧ RelV x u := by
  cases r with
  | cons r1 r2 => cases r2; exact ⟨_, rfl, r1⟩
theorem vals2 {x y : V} {us : List Value} (r : Vals [x, y] us) : ∃ u w', us = [u, w'] ∧ RelV x u ∧ RelV y w' := by
  cases r with
  | cons r1 r2 =>
    cases r2 with
    | cons r3 r4 => cases r4; exact ⟨_, _, rfl, r1, r3⟩
theorem call_min2 (hc : X.calm = true) : CallR X (.builtin "min") (fun xs H Q => ∃ i j, xs = [.int i, .int j] ∧ Q (.int (if j < i then j else i)) H) := by
  intro pins s σ H xs us Q I r h
  obtain ⟨i, j, rfl, q⟩ := h
  obtain ⟨u, w', rfl, ⟨t, rfl⟩, ⟨t', rfl⟩⟩ := vals2 r
  refine min_two_ints (I.ok.hd hc) fun h' tk k => ⟨_, H, I.kept k, ?_, q⟩
  by_cases hj : j < i
  · rw [if_pos hj, if_pos hj]; exact ⟨_, rfl⟩
  · rw [if_neg hj, if_neg hj]; exact ⟨_, rfl⟩
/-- len of a str, a bytes, a list, a tuple -/
def LenV (K : PySem.W.Frag) (x : V) (H : Hp) (n : Nat) : Prop :=
  match x with
  | .str y => y.length ≤ sizeLine ∧ n = y.length
  | .byt y => y.size ≤ sizeLine ∧ n = y.size
  | .ref p => (∃ xs, SqL K H p xs ∧ n = xs.length) ∨ ∃ xs, SqT K H p xs ∧ n = xs.length
  | _ => False
end
end L2

namespace L2
open PySem PySem.Spec PyProof.Rows

/-! ### an instance, its attributes a map -/
structure ObjM (h : Heap) (x dx C : Addr) (mA : Str → Option Value) : Prop where
  obj : h.get? x = some (PySem.W.instObj C dx)
  ns : h.Ns1 dx mA
  ne : dx ≠ x



section
variable {prog : Program} {w : World} {A : Around} {E : Value → Shared → Prop} {s : Shared} {K : PySem.W.Frag} {x dx C f : Addr} {mA : Str → Option Value} {name : Str} {v : Value}





end

/-! ### the attributes as a list of pairs -/
def putF (f : Str) (v : V) : List (Str × V) → List (Str × V)
  | [] => [(f, v)]
  | (g, x) :: r => if g = f then (g, v) :: r else (g, x) :: putF f v r


section
variable {P : Program} {w : World} {H H' : Hp} {h h' : Heap} {a C dx : Addr} {fs fs' : List (Str × V)}
end

/-! ### what of the text a class must have -/
structure Cls (K : PySem.W.Frag) (C : Addr) : Prop where
  pg : PySem.W.plainGet K C Str.empty = true
  hd : PySem.W.hasDictIn K C = true
  po : PySem.W.plainOver K C = true
  sa : PySem.W.findIn K (.ref C) "__setattr__" = some (some (.builtin "object.__setattr__"))
/-- no class of it has the name -/
def NoAttr (K : PySem.W.Frag) (C : Addr) (f : Str) : Prop := PySem.W.findIn K (.ref C) f = some none
/-- a constant of the class -/
structure Con (K : PySem.W.Frag) (C : Addr) (f : Str) (v : V) (u : Value) : Prop where
  at_ : PySem.W.findIn K (.ref C) f = some (some u)
  rel : RelV v u
  get : PySem.W.specialIn K u "__get__" = some none
  cp : PySem.W.copiedNames.contains f = false
/-- a method: a plain def of the class or of one above it -/
structure Meth (K : PySem.W.Frag) (C : Addr) (m : Str) (f : Addr) : Prop where
  at_ : PySem.W.findIn K (.ref C) m = some (some (.ref f))
  fn : PySem.W.isFn K (.ref f) = true
  kp : PySem.W.keepIn K (.ref f) = true

section
variable {X : Cx} {pins : List (Addr × Obj)} {σ : St} {H : Hp} {s : Shared} {a C dx : Addr} {fs : List (Str × V)} {f : Str} {v : V} {A : Around} {E : Value → Shared → Prop}






end

/-! ### readings and rules -/
/-- e.f, an attribute of the instance -/
def tFld (K : PySem.W.Frag) (ta : TE) (f : Str) : TE := fun σ H Q => ta σ H fun x H1 => ∃ a C dx fs v, x = .ref a ∧ H1 a = some (.ins C dx fs) ∧ Cls K C ∧ NoAttr K C f ∧ fs.lookup f = some v ∧ Q v H1
/-- e.f, a constant of the class -/
def tCon (K : PySem.W.Frag) (ta : TE) (f : Str) : TE := fun σ H Q => ta σ H fun x H1 => ∃ a C dx fs v u, x = .ref a ∧ H1 a = some (.ins C dx fs) ∧ Cls K C ∧ Con K C f v u ∧ fs.lookup f = none ∧ Q v H1
/-- e.f = value -/
def sFld (K : PySem.W.Frag) (ta tv : TE) (f : Str) : TS := fun D σ H => tv σ H fun y H1 => ta σ H1 fun x H2 => ∃ a C dx fs, x = .ref a ∧ H2 a = some (.ins C dx fs) ∧ Cls K C ∧ NoAttr K C f ∧ fs.length < 1000 ∧
  D.nx σ (upd H2 a (.ins C dx (putF f y fs)))
/-- an augmented operator on two values -/
def InOp (X : Cx) (op : Operator) (rd : V → V → Hp → VK → Prop) : Prop :=
  ∀ (pins : List (Addr × Obj)) (s : Shared) (σ : St) (H : Hp) (x y : V) (u v : Value) (Q : VK), Inv X pins σ H s → RelV x u → RelV y v → rd x y H Q → wpAny (model X.prog X.w) X.A (inplaceOp op u v) (EP X pins σ Q) X.xe s
/-- e.f op= value -/
def sFldAug (K : PySem.W.Frag) (ta tv : TE) (rd : V → V → Hp → VK → Prop) (f : Str) : TS := fun D σ H => ta σ H fun x H1 => ∃ a C dx fs v, x = .ref a ∧ H1 a = some (.ins C dx fs) ∧ Cls K C ∧ NoAttr K C f ∧ fs.lookup f = some v ∧
  tv σ H1 fun y H2 => rd v y H2 fun z H3 => ∃ dx' fs', H3 a = some (.ins C dx' fs') ∧ fs'.length < 1000 ∧ D.nx σ (upd H3 a (.ins C dx' (putF f z fs')))

section
variable {X : Cx} {o e value : Expr} {f : Str} {pos pos' tpos : Pos} {ta tv : TE}
def rAdd : V → V → Hp → VK → Prop := fun x y H Q => ∃ i j, x = .int i ∧ y = .int j ∧ Q (.int (i + j)) H
def rSub : V → V → Hp → VK → Prop := fun x y H Q => ∃ i j, x = .int i ∧ y = .int j ∧ Q (.int (i - j)) H

end

/-! ### isinstance -/
section
variable {X : Cx} {pins : List (Addr × Obj)} {σ : St} {H : Hp} {s : Shared} {A : Around} {E : Value → Shared → Prop} {Q : Value → Shared → Prop} {c : Value} {b : Bool}
/-- the type of a value, as the fragment's deciders take it; for an instance its class -/
inductive TyOf (K : PySem.W.Frag) (H : Hp) : V → Value → Prop where
  | non : TyOf K H .non (.type "NoneType")
  | bl (x : Bool) : TyOf K H (.bl x) (.type "bool")
  | int (i : Int) : TyOf K H (.int i) (.type "int")
  | str (x : Str) : TyOf K H (.str x) (.type "str")
  | flt (x : UInt64) : TyOf K H (.flt x) (.type "float")
  | lst {a : Addr} {xs : List V} (e : H a = some (.lst xs)) : TyOf K H (.ref a) (.type "list")
  | frz {a : Addr} {o : Obj} {xs : List V} (e : H a = some (.frz o (.lst xs))) : TyOf K H (.ref a) (.type "list")
  | tup {a : Addr} {xs : List V} (e : H a = some (.tup xs)) : TyOf K H (.ref a) (.type "tuple")
  | dK {a : Addr} {kvs : List (Key × V)} (e : H a = some (.dK kvs)) : TyOf K H (.ref a) (.type "dict")
  | dT {a : Addr} {kvs : List (List Key × V)} (e : H a = some (.dT kvs)) : TyOf K H (.ref a) (.type "dict")
  | ins {a C dx : Addr} {fs : List (Str × V)} (e : H a = some (.ins C dx fs)) (cl : Cls K C) (ha : PySem.W.findIn K (.ref C) "__class__" = some (some (.builtin "object.__class__")))
      (hn : PySem.W.specialIn K (.builtin "object.__class__") "__get__" = some (some (.builtin "getset_descriptor.__get__"))) (htk : PySem.W.takesIn K (.builtin "object.__class__") = some true)
      (hm : PySem.W.mroIn K C (.type "object") = some true) : TyOf K H (.ref a) (.ref C)
end
end L2

namespace L2
open PySem PySem.Spec PyProof.Rows

/-! ### room -/
structure Room (k : Nat) (A : Around) : Prop where
  hd : A.handled = none
  dp : A.depth + 3 * k + 5 < recursionLimit
  un : A.units + 16 * k + 200 < cLine
theorem Room.mono {j k : Nat} {A : Around} (r : Room k A) (h : j ≤ k) : Room j A := ⟨r.hd, by have := r.dp; omega, by have := r.un; omega⟩
theorem Room.deeper {k : Nat} {A : Around} (r : Room (k + 1) A) (env : Env) : Room k (A.deeper env) :=
  ⟨r.hd, by have := r.dp; show A.depth + 1 + 3 * k + 5 < _; omega, by have := r.un; show A.units + 3 + 16 * k + 200 < _; omega⟩
theorem Room.depth {k : Nat} {A : Around} (r : Room k A) : A.depth < recursionLimit := by have := r.dp; omega
theorem Room.units {k : Nat} {A : Around} (r : Room k A) : A.units + 64 < cLine := by have := r.un; omega

/-! ### argument lists and displays -/
def tNil : TA := fun _ H Q => Q [] H
def tCons (ta : TE) (tr : TA) : TA := fun σ H Q => ta σ H fun x H1 => tr σ H1 fun xs H2 => Q (x :: xs) H2
section
variable {X : Cx} {e : Expr} {es : List Expr} {te : TE} {t : TA} {pos : Pos}
theorem pa_nil : PA X [] tNil := fun _ _ _ _ H Q I h => Calls.spliced_nil ⟨[], H, I, .nil, h⟩
theorem pa_cons (ha : PE X e te) (hr : PA X es t) (hs : starEach (e :: es) X.env = (false, eval e X.env) :: starEach es X.env := by rfl) : PA X (e :: es) (tCons te t) := by
  intro pos pins s σ H Q I h
  rw [hs]
  show wpAny _ _ (spliced ((false, eval e X.env) :: backTo pos (starEach es X.env))) _ _ s
  refine Calls.spliced_cons (thn (ha pins s σ H _ I h) fun u s1 ⟨x, H1, I1, r1, q1⟩ => ?_)
  exact thn (hr pos pins s1 σ H1 _ I1 q1) fun us s2 ⟨xs, H2, I2, r2, q2⟩ => ⟨x :: xs, H2, I2, .cons r1 r2, q2⟩

/-- a tuple, a list of written items -/
def tTup (t : TA) : TE := fun σ H Q => t σ H fun xs H1 => xs.length ≤ sizeLine ∧ ∀ p, H1 p = none → Q (.ref p) (upd H1 p (.tup xs))
def tLst (t : TA) : TE := fun σ H Q => t σ H fun xs H1 => xs.length ≤ sizeLine ∧ ∀ p, H1 p = none → Q (.ref p) (upd H1 p (.lst xs))
theorem pe_lst (h : PA X es t) : PE X (.List es pos) (tLst t) := by
  intro pins s σ H Q I hq
  refine wpAny_List_spliced (thn (h pos pins s σ H _ I hq) fun us s1 ⟨xs, H1, I1, r, z, q⟩ => ⟨by rw [← r.length]; exact z, ?_⟩)
  have hf : H1 s1.heap.objs.size = none := I1.hok.fresh (Nat.le_refl _)
  refine ⟨.ref s1.heap.objs.size, upd H1 s1.heap.objs.size (.lst xs), I1.laid (t' := s1.toks) (fun b u e => Heap.get?_push_of_some _ e) (Nat.le_refl _) ?_, rfl, q _ hf⟩
  exact ⟨z, us, 0, r, Heap.get?_push_size _ rfl⟩
end

/-! ### what a def promises -/
/-- a def's promise: the bound arguments in the parameters' order, the heap, the wanted end, the wanted exception -/
abbrev Sp := List V → Hp → VK → XK → Prop
/-- how an exception lies behind a call (file 08 gives it): the callers' frames, abstract heap and state ahead of the call, the wish, the exception, the state -/
abbrev CXT := List Env → Hp → Shared → XK → Value → Shared → Prop

/-- the state at a call -/
structure Env0 (P : Program) (w : World) (K : PySem.W.Frag) (mg : Str → Option Value) (base : Heap) (A : Around) (outer : List Env) (s : Shared) (H : Hp) : Prop where
  frames : A.frames = some outer
  mod : Mod K mg base
  bs : ∀ b o, base.get? b = some o → s.heap.get? b = some o ∧ H b = none
  bsz : base.objs.size ≤ s.heap.objs.size
  funs : s.heap.FunFrames base outer
  frf : ∀ b ∈ frs outer, H b = none
  hok : HOk P w H s.heap
  bare : AllBare s.gens
/-- a call's end -/
def CE (outer : List Env) (P : Program) (w : World) (H : Hp) (s : Shared) (Q : VK) (u : Value) (s' : Shared) : Prop :=
  ∃ v H', s'.os = s.os ∧ AllBare s'.gens ∧ Un (frs outer) [] H H' s.heap s'.heap ∧ HOk P w H' s'.heap ∧ RelV v u ∧ Q v H'
def CR (CX : CXT) (outer : List Env) (P : Program) (w : World) (H : Hp) (s : Shared) (Q : VK) (E : XK) (r : Result) (s' : Shared) : Prop :=
  match r with
  | .ok (.ret u) => CE outer P w H s Q u s'
  | .ok _ => False
  | .error e => CX outer H s E e s'
structure FnOk (P : Program) (w : World) (K : PySem.W.Frag) (mg : Str → Option Value) (base : Heap) (CX : CXT) (k : Nat) (f : Addr) (fd : FuncData) (ps : List Str) (sp : Sp) : Prop where
  len : ∀ vs H Q E, sp vs H Q E → vs.length = ps.length
  run : ∀ (A : Around) (outer : List Env) (s : Shared) (H : Hp) (args : Args) (us : List Value) (vs : List V) (Q : VK) (E : XK), Room k A → Env0 P w K mg base A outer s H → BindsTo s fd args (ps.zip us) → Vals vs us → sp vs H Q E →
    codeAny (model P w) A (.call (.ref f) args) (CR CX outer P w H s Q E) s


section
variable {X : Cx} {pins : List (Addr × Obj)} {σ : St} {H : Hp} {s s' : Shared}
/-- from a body: what a callee wants -/
theorem Inv.env0 (I : Inv X pins σ H s) : Env0 X.prog X.w X.K X.mg X.base X.A X.stack s H :=
  ⟨I.ok.frames, I.ok.mod, I.bs, Nat.le_trans I.ok.bsz I.sz, I.stack, I.stkFree, I.hok, I.bare⟩
/-- behind a call -/
theorem Inv.after {Q : VK} {u : Value} (I : Inv X pins σ H s) (h : CE X.stack X.prog X.w H s Q u s') : EP X pins σ Q u s' := by
  obtain ⟨v, H', os, bare, un, hok, r, q⟩ := h
  obtain ⟨hh, g, d, t, os'⟩ := s'
  obtain rfl : os' = s.os := os
  exact ⟨v, H', I.call (h' := hh) (g' := g) (d' := d) (t' := t) (ch := []) un hok bare (fun b z => absurd z (by simp)), r, q⟩
end

/-! ### calls -/
/-- f(..): the written arguments, then the defaults dvs; E: what is wanted of an exception -/
def tCall (sp : Sp) (dvs : List V) (E : XK) (t : TA) : TE := fun σ H Q => t σ H fun vs H1 => sp (vs ++ dvs) H1 Q E
/-- o.m(..) of an instance of the class at C -/
def tMeth (C : Addr) (m : Str) (sp : Sp) (dvs : List V) (E : XK) (ta : TE) (t : TA) : TE := fun σ H Q => ta σ H fun x H1 => ∃ a dx fs, x = .ref a ∧ H1 a = some (.ins C dx fs) ∧ fs.lookup m = none ∧
  t σ H1 fun vs H2 => sp (x :: (vs ++ dvs)) H2 Q E
/-- C(..): a new instance and its dict, then __init__ -/
def tMake (C : Addr) (sp : Sp) (dvs : List V) (E : XK) (t : TA) : TE := fun σ H Q => t σ H fun vs H1 => ∀ x dx, H1 x = none → H1 dx = none → dx ≠ x →
  sp (.ref x :: (vs ++ dvs)) (upd (upd H1 dx (.own x)) x (.ins C dx [])) (fun v H2 => v = .non ∧ Q (.ref x) H2) E

/-- how the parameters are bound: us the positional arguments, kw the keywords' values by name, ds the defaults that fill up -/
def Binds (K : PySem.W.Frag) (fd : FuncData) (ps : List Str) (ds : List Value) : Prop :=
  ∀ (s : Shared) (us : List Value), K.In s.heap → (us ++ ds).length = ps.length → BindsTo s fd ⟨us, []⟩ (ps.zip (us ++ ds))
/-- every parameter is given -/
theorem Binds.all {K : PySem.W.Frag} {fd : FuncData} {ps : List Str} (h : ∀ us : List Value, us.length = ps.length → bindArgs fd ⟨us, []⟩ = pure (ps.zip us)) : Binds K fd ps [] := fun s us _ hl => by
  rw [List.append_nil] at hl ⊢
  exact .of_eq (h us hl)

/-- an exception of a callee reaches what this body wants of exceptions -/
def Passes (CX : CXT) (X : Cx) (E : XK) : Prop := ∀ (pins : List (Addr × Obj)) (σ : St) (H : Hp) (s : Shared) (e : Value) (s' : Shared), Inv X pins σ H s → CX X.stack H s E e s' → X.xe e s'

section
variable {X : Cx} {CX : CXT} {k : Nat} {f C : Addr} {fd : FuncData} {ps : List Str} {sp : Sp} {dvs : List V} {ds : List Value} {E : XK} {x m : Str} {p pos apos : Pos} {e o : Expr} {es : List Expr} {ta : TE} {t : TA}

/-- the callee runs -/
theorem run_fn {pins : List (Addr × Obj)} {σ : St} {H : Hp} {s : Shared} {Q : VK} {us : List Value} {vs : List V} (F : FnOk X.prog X.w X.K X.mg X.base CX k f fd ps sp) (hr : Room k X.A) (hb : Binds X.K fd ps ds) (hd : Vals dvs ds) (hx : Passes CX X E)
    (I : Inv X pins σ H s) (r : Vals vs us) (h : sp (vs ++ dvs) H Q E) : wpAny (model X.prog X.w) X.A (call (.ref f) us) (EP X pins σ Q) X.xe s := by
  have r2 : Vals (vs ++ dvs) (us ++ ds) := r.append hd
  have hl : (us ++ ds).length = ps.length := by rw [← r2.length]; exact F.len _ _ _ _ h
  refine wpAny_call (codeAny_mono (F.run X.A X.stack s H ⟨us, []⟩ (us ++ ds) (vs ++ dvs) Q E hr I.env0 (hb s us I.kIn hl) r2 h) fun r s' hq => ?_)
  cases r with
  | error e => exact hx pins σ H s e s' I hq
  | ok fl =>
    cases fl with
    | ret u => exact I.after hq
    | next => exact False.elim hq
    | brk => exact False.elim hq
    | cont => exact False.elim hq

theorem pe_call (F : FnOk X.prog X.w X.K X.mg X.base CX k f fd ps sp) (hr : Room k X.A) (hg : Gl X x) (hm : X.mg x = some (.ref f)) (hk : PySem.W.keepIn X.K (.ref f) = true) (hb : Binds X.K fd ps ds) (hd : Vals dvs ds) (hx : Passes CX X E)
    (ha : PA X (e :: es) t) (hdb : (x == ("__debug__" : Str)) = false := by decide) (he : starEach (e :: es) X.env = (false, eval e X.env) :: starEach es X.env := by rfl) (hpl : (backTo pos (starEach es X.env)).any (·.1) = false := by rfl) :
    PE X (.Call (.Name x p) (e :: es) [] pos) (tCall sp dvs E t) := by
  intro pins s σ H Q I h
  refine wpAny_Call_Name_kw (ld_glob I hg hm ?_ hdb)
  refine PySem.W.callWith_K (h₀ := X.base) I.ok.mod.kin hk (thn (ha pos pins s σ H _ I h) fun us s1 ⟨vs, H1, I1, r, q⟩ => ⟨I1.kIn, ?_⟩) he hpl
  exact run_fn F hr hb hd hx I1 r q


/-- what a class must have to be made -/
structure Mk (K : PySem.W.Frag) (C f : Addr) : Prop where
  makes : PySem.W.makesIn K C = true
  init : PySem.W.findIn K (.ref C) "__init__" = some (some (.ref f))
  fn : PySem.W.isFn K (.ref f) = true
  kp : PySem.W.keepIn K (.ref C) = true

end

/-! ### keywords -/
/-- the values of the keywords, from the left -/
def PK (X : Cx) (kws : List Keyword) (t : TA) : Prop :=
  ∀ (pos : Pos) (pins : List (Addr × Obj)) (s : Shared) (σ : St) (H : Hp) (Q : List V → Hp → Prop), Inv X pins σ H s → t σ H Q → wpAny (model X.prog X.w) X.A (evalAll ((backToKw pos (keywordEach kws X.env)).map (·.2))) (AP X pins σ Q) X.xe s
section
variable {X : Cx} {CX : CXT} {k : Nat} {f C : Addr} {fd : FuncData} {ps ks : List Str} {sp : Sp} {E : XK} {x m : Str} {p pos apos kpos : Pos} {e o : Expr} {es : List Expr} {kws : List Keyword} {te ta : TE} {t tk : TA} {nm : Option Str}

/-- how a call with keywords binds: g puts the positional values us and the keywords' values ws (names ks) in the parameters' order, defaults among them -/
structure KBinds (K : PySem.W.Frag) (fd : FuncData) (ps ks : List Str) (g : List Value → List Value → List Value) (gV : List V → List V → List V) : Prop where
  to : ∀ (s : Shared) (us ws : List Value), K.In s.heap → (g us ws).length = ps.length → BindsTo s fd ⟨us, ks.zip ws⟩ (ps.zip (g us ws))
  rel : ∀ {vs : List V} {us : List Value} {zs : List V} {ws : List Value}, Vals vs us → Vals zs ws → Vals (gV vs zs) (g us ws)
def tCallK (sp : Sp) (gV : List V → List V → List V) (E : XK) (t tk : TA) : TE := fun σ H Q => t σ H fun vs H1 => tk σ H1 fun zs H2 => sp (gV vs zs) H2 Q E
variable {g : List Value → List Value → List Value} {gV : List V → List V → List V}
end

/-! ### a def's body keeps its promise -/
/-- names: the parameters first -/
structure FnScope (N P : List Str) (sc : Scope) : Prop where
  kind : sc.kind = .function
  co : sc.isCoroutine = false
  gen : sc.isGenerator = false
  nd : N.Nodup
  pre : N.take P.length = P
  par : ∀ x ∈ P, sc.names.lookup x = some .local ∨ sc.names.lookup x = some .cell
  nofree : ∀ y ∈ sc.names, y.2 ≠ .free

theorem bindL_out {kindOf : Str → Option NameKind} {x : Str} : ∀ {binds : List (Str × Value)} {m : Str → Option Value}, (∀ v, (x, v) ∉ binds) → bindL kindOf binds m x = m x
  | [], _, _ => rfl
  | (n, v) :: r, m, h => by
    unfold bindL
    rw [bindL_out fun w hw => h w (List.mem_cons_of_mem _ hw)]
    split
    · have : x ≠ n := by rintro rfl; exact h v List.mem_cons_self
      simp [this]
    · rfl
theorem bindC_out {kindOf : Str → Option NameKind} {x : Str} : ∀ {binds : List (Str × Value)} {m : Str → Option Value}, (∀ v, (x, v) ∉ binds) → bindC kindOf binds m x = m x
  | [], _, _ => rfl
  | (n, v) :: r, m, h => by
    unfold bindC
    rw [bindC_out fun w hw => h w (List.mem_cons_of_mem _ hw)]
    split
    · rfl
    · have : x ≠ n := by rintro rfl; exact h v List.mem_cons_self
      simp [this]
theorem bindL_get {kindOf : Str → Option NameKind} {x : Str} {v : Value} : ∀ {P : List Str} {vs : List Value} {i : Nat} {m : Str → Option Value}, P.Nodup → P[i]? = some x → vs[i]? = some v → kindOf x = some .local →
    bindL kindOf (P.zip vs) m x = some v
  | [], _, _, _, _, h, _, _ => by simp at h
  | _ :: _, [], _, _, _, _, h, _ => by simp at h
  | p :: P, w :: vs, 0, m, nd, h1, h2, hk => by
    simp at h1 h2; subst h1; subst h2
    show bindL kindOf ((p, w) :: P.zip vs) m p = _
    unfold bindL
    rw [bindL_out fun v hv => (List.nodup_cons.mp nd).1 (List.of_mem_zip hv).1, if_pos hk]
    simp
  | p :: P, w :: vs, i + 1, m, nd, h1, h2, hk => by
    show bindL kindOf ((p, w) :: P.zip vs) m x = _
    unfold bindL
    exact bindL_get (i := i) (List.nodup_cons.mp nd).2 (by simpa using h1) (by simpa using h2) hk
theorem bindC_get {kindOf : Str → Option NameKind} {x : Str} {v : Value} : ∀ {P : List Str} {vs : List Value} {i : Nat} {m : Str → Option Value}, P.Nodup → P[i]? = some x → vs[i]? = some v → kindOf x ≠ some .local →
    bindC kindOf (P.zip vs) m x = some v
  | [], _, _, _, _, h, _, _ => by simp at h
  | _ :: _, [], _, _, _, _, h, _ => by simp at h
  | p :: P, w :: vs, 0, m, nd, h1, h2, hk => by
    simp at h1 h2; subst h1; subst h2
    show bindC kindOf ((p, w) :: P.zip vs) m p = _
    unfold bindC
    rw [bindC_out fun v hv => (List.nodup_cons.mp nd).1 (List.of_mem_zip hv).1, if_neg hk]
    simp
  | p :: P, w :: vs, i + 1, m, nd, h1, h2, hk => by
    show bindC kindOf ((p, w) :: P.zip vs) m x = _
    unfold bindC
    exact bindC_get (i := i) (List.nodup_cons.mp nd).2 (by simpa using h1) (by simpa using h2) hk

/-- the names' values at the entry -/
def start (N : List Str) (vs : List V) : St := vs.map some ++ List.replicate (N.length - vs.length) none

/-- the context of a def's body, at its entry; an exception leaves the frame, then lies as CX says -/
def cxOf (CX : CXT) (P : Program) (w : World) (K : PySem.W.Frag) (mg : Str → Option Value) (base : Heap) (N : List Str) (qual : Str) (scope : Scope) (f : Addr) (cd : Value) (A : Around) (outer : List Env) (s : Shared) (H : Hp) (E : XK) : Cx where
  prog := P
  w := w
  K := K
  mg := mg
  base := base
  A := A.deeper (envOfC qual scope s.heap.objs.size f cd)
  N := N
  s_0 := s
  H_0 := H
  env := envOfC qual scope s.heap.objs.size f cd
  outer := outer
  stack := envOfC qual scope s.heap.objs.size f cd :: outer
  ex := []
  calm := true
  fn := fun _ => true
  pn := []
  xe := fun e s' => wpAny (model P w) (A.deeper (envOfC qual scope s.heap.objs.size f cd)) (leaving (envOfC qual scope s.heap.objs.size f cd) e) (fun _ s'' => CX outer H s E e s'') (fun e' s'' => CX outer H s E e' s'') s'

theorem cell_has {sc : Scope} {n : Nat} {x : Str} (h : sc.names.lookup x = some .cell) : ∃ c, (cellsFrom n sc.names []).lookup x = some c := by
  have q := PySem.W.cellsFrom_some sc.names n [] (.inl h)
  exact Option.isSome_iff_exists.mp q

theorem inv_start {CX : CXT} {P : Program} {w : World} {K : PySem.W.Frag} {mg : Str → Option Value} {base : Heap} {N ps : List Str} {qual : Str} {scope : Scope} {f : Addr} {cd : Value} {A : Around} {outer : List Env} {s s1 : Shared} {H : Hp} {E : XK} {us : List Value} {vs : List V}
    (S : FnScope N ps scope) (hd : A.handled = none) (e0 : Env0 P w K mg base A outer s H) (hl : vs.length = ps.length) (r : Vals vs us)
    (x : InCallC s s.heap.objs.size (bindL (envOfC qual scope s.heap.objs.size f cd).kindOf (ps.zip us) fun _ => none) (cellsFrom (s.heap.objs.size + 1) scope.names []) (bindC (envOfC qual scope s.heap.objs.size f cd).kindOf (ps.zip us) fun _ => none) s1) :
    Inv (cxOf CX P w K mg base N qual scope f cd A outer s H E) [] (start N vs) H s1 := by
  have hpl : ps.length ≤ N.length := by have := congrArg List.length S.pre; rw [List.length_take] at this; omega
  obtain ⟨h1, tk, rfl, hk⟩ := x.done
  have noA : ∀ b : Addr, b ∉ (cxOf CX P w K mg base N qual scope f cd A outer s H E).ex := fun b z => absurd (show b ∈ ([] : List Addr) from z) (by simp)
  refine ⟨⟨e0.mod, S.kind, rfl, rfl, Nat.le_refl _, fun y z c h1 h2 => ?_, fun y hy => ?_, fun y c _ h => ?_, fun _ => hd, Around.frames_deeper e0.frames, .inr ⟨rfl, rfl⟩, fun b z => absurd z (noA b), e0.bs, e0.bsz, fun b _ _ => noA b, fun b z => absurd z (noA b), e0.funs, e0.frf⟩,
    rfl, e0.bare, Un.kept hk, ⟨_, x.toInCall.ns, fun i y v h1 h2 h3 => ?_⟩, fun y c h => ⟨_, x.cell y c h⟩, e0.hok.fresh (Nat.le_refl _), fun y c h => ?_, fun p hp => absurd (show p ∈ ([] : List (Addr × Obj)) from hp) (by simp), e0.hok.kept hk, ?_⟩
  · exact name_of_addr x.apart (PySem.mem_of_lookup h1) (PySem.mem_of_lookup h2)
  · have hy : scope.names.lookup y = some .cell ∨ scope.names.lookup y = some .free := hy
    rcases hy with hy | hy
    · exact cell_has hy
    · exact absurd rfl (S.nofree _ (PySem.mem_of_lookup hy))
  · exact Nat.le_of_lt (x.above y c (PySem.mem_of_lookup h))
  · have hi : i < vs.length := by
      unfold start at h2
      by_cases hi : i < vs.length
      · exact hi
      · rw [List.getElem?_append_right (by simpa using hi)] at h2
        rw [List.getElem?_replicate] at h2
        split at h2 <;> cases h2
    have ha : vs[i]? = some v := by
      unfold start at h2
      rw [List.getElem?_append_left (by simpa using hi), List.getElem?_map] at h2
      cases e : vs[i]? with
      | none => rw [e] at h2; cases h2
      | some a => rw [e] at h2; cases h2; rfl
    obtain ⟨u, hu, rv⟩ := r.get ha
    have hp : ps[i]? = some y := by
      rw [← S.pre, List.getElem?_take_of_lt (by omega)]; exact h1
    have ndP : ps.Nodup := by rw [← S.pre]; exact S.nd.sublist (List.take_sublist _ _)
    refine ⟨u, rv, ?_⟩
    rcases S.par y (List.mem_of_getElem? hp) with k | k
    · exact .inl ⟨k, bindL_get ndP hp hu k⟩
    · obtain ⟨c, e⟩ := cell_has (n := s.heap.objs.size + 1) k
      refine .inr ⟨.inl k, c, e, ?_⟩
      have q := x.cell y c e
      rw [bindC_get ndP hp hu (by show scope.names.lookup y ≠ _; rw [k]; decide)] at q
      exact q
  · exact e0.hok.fresh (Nat.le_of_lt (x.above y c (PySem.mem_of_lookup h)))
  · unfold start
    show _ = N.length
    rw [List.length_append, List.length_map, List.length_replicate]
    omega

/-- THE RULE: a def (or a method) of the text, by its body. The body's reading t is chosen for each entry; it is run at the parameters' values -/
theorem fn_of {CX : CXT} {P : Program} {w : World} {K : PySem.W.Frag} {mg : Str → Option Value} {base : Heap} {k : Nat} {f : Addr} {name qual : Str} {params : Arguments} {body : List Stmt} {scope : Scope} {dV kV doc pm cdv ct oc : Value} {an od : Option Addr}
    {osl : Array (Option Value)} {N ps : List Str} {sp : Sp} (lk : K.lookup f = some ⟨oc, od, .func (PySem.W.fnOf name qual params body scope dV kV doc pm an cdv ct), osl⟩) (hcd : PySem.W.codeIn K cdv qual = true) (S : FnScope N ps scope)
    (len : ∀ vs H Q E, sp vs H Q E → vs.length = ps.length)
    (hbody : ∀ (A : Around) (outer : List Env) (s : Shared) (H : Hp) (vs : List V) (Q : VK) (E : XK), Room k (A.deeper (envOfC qual scope s.heap.objs.size f cdv)) → sp vs H Q E →
      ∃ t, PSs (cxOf CX P w K mg base N qual scope f cdv A outer s H E) body t ∧ t { nx := fun _ H' => Q .non H', rt := Q } (start N vs) H) :
    FnOk P w K mg base CX (k + 1) f (PySem.W.fnOf name qual params body scope dV kV doc pm an cdv ct) ps sp := by
  refine ⟨len, fun A outer s H args us vs Q E hr e0 hb r hsp => ?_⟩
  have hl := len _ _ _ _ hsp
  have KX : K.In s.heap := e0.mod.kin.keeps fun b o e => (e0.bs b o e).1
  have lim : s.heap.NoLimit := e0.mod.nolimit.keeps fun b o e => (e0.bs b o e).1
  have hkind : ∀ y ∈ ps.zip us, scope.names.lookup y.1 = some .local ∨ (scope.names.lookup y.1 = some .cell ∧ ((cellsFrom (s.heap.objs.size + 1) scope.names []).lookup y.1).isSome = true) := fun ⟨n, v⟩ hy => by
    rcases S.par n (List.of_mem_zip hy).1 with q | q
    · exact .inl q
    · exact .inr ⟨q, PySem.W.cellsFrom_some _ _ _ (.inl q)⟩
  refine codeAny_call_function hr.depth (KX _ _ lk) rfl S.co S.gen rfl (PySem.W.codeRec_of KX hcd) (hb _ _ _ _ ?_)
  refine wpAny_newFunctionEnv_cells S.kind hkind fun env he s1 x => ?_
  subst he
  refine ⟨lim.keeps x.toInCall.keep, codeAny_func ?_⟩
  obtain ⟨t, ht, hq⟩ := hbody A outer s H vs Q E (hr.deeper _) hsp
  have I : Inv (cxOf CX P w K mg base N qual scope f cdv A outer s H E) [] (start N vs) H s1 := inv_start S hr.hd e0 hl r x
  refine wpAny_mono (ht [] s1 (start N vs) H _ I hq) (fun fl s' hs => ?_) fun e s' hs => hs
  have fin : ∀ {σ' : St} {H' : Hp} {v : V} {u : Value}, Inv (cxOf CX P w K mg base N qual scope f cdv A outer s H E) [] σ' H' s' → RelV v u → Q v H' → CE outer P w H s Q u s' :=
    fun {σ' H' v u} J rv q => ⟨v, H', J.os, J.bare, J.base, J.hok, rv, q⟩
  cases fl with
  | ret u =>
    obtain ⟨v, σ', H', J, rv, q⟩ := hs
    exact fin J rv q
  | next =>
    obtain ⟨σ', H', J, q⟩ := hs
    exact fin (v := V.non) (u := Value.none) J rfl q
  | brk =>
    obtain ⟨_, _, _, q⟩ := hs
    exact False.elim q
  | cont =>
    obtain ⟨_, _, _, q⟩ := hs
    exact False.elim q
end L2

namespace L2
open PySem PySem.Spec PyProof.Rows
section
variable {X : Cx} {x : Str} {p pos : Pos} {e : Expr} {es : List Expr} {t : TA} {id T : String} {r : List V → Hp → VK → Prop}

def tCB (r : List V → Hp → VK → Prop) (t : TA) : TE := fun σ H Q => t σ H fun vs H1 => r vs H1 Q
/-- f(e, ..), f a built-in function -/
theorem pe_callB (hc : CallR X (.builtin id) r) (hg : Gl X x) (hm : X.mg x = none) (hv : bootBuiltins x = some (.builtin id)) (ha : PA X (e :: es) t) (hn : x ≠ "__name__" := by decide) (hdb : (x == ("__debug__" : Str)) = false := by decide)
    (he : starEach (e :: es) X.env = (false, eval e X.env) :: starEach es X.env := by rfl) (hpl : (backTo pos (starEach es X.env)).any (·.1) = false := by rfl) : PE X (.Call (.Name x p) (e :: es) [] pos) (tCB r t) := by
  intro pins s σ H Q I h
  refine wpAny_Call_Name_kw (ld_blt I hg hm hv ?_ hn hdb)
  exact PyProof.Rows.callWith_builtin1 (thn (ha pos pins s σ H _ I h) fun us s1 ⟨vs, H1, I1, r1, q1⟩ => hc pins s1 σ H1 vs us Q I1 r1 q1) he hpl
/-- T(e, ..), T a built-in type -/
theorem pe_callTy (hc : CallR X (.type T) r) (hg : Gl X x) (hm : X.mg x = none) (hv : bootBuiltins x = some (.type T)) (ha : PA X (e :: es) t) (hn : x ≠ "__name__" := by decide) (hdb : (x == ("__debug__" : Str)) = false := by decide)
    (he : starEach (e :: es) X.env = (false, eval e X.env) :: starEach es X.env := by rfl) (hpl : (backTo pos (starEach es X.env)).any (·.1) = false := by rfl) : PE X (.Call (.Name x p) (e :: es) [] pos) (tCB r t) := by
  intro pins s σ H Q I h
  refine wpAny_Call_Name_kw (ld_blt I hg hm hv ?_ hn hdb)
  exact PyProof.Rows.callWith_type1 (thn (ha pos pins s σ H _ I h) fun us s1 ⟨vs, H1, I1, r1, q1⟩ => hc pins s1 σ H1 vs us Q I1 r1 q1) he hpl
end
end L2

namespace HT
open PySem PyProof.Rows

/-- t < u of tuples of ints -/
def lexLt : List Int → List Int → Bool
  | [], [] => false
  | [], _ :: _ => true
  | _ :: _, [] => false
  | x :: xs, y :: ys => if x = y then lexLt xs ys else decide (x < y)


section
open PySem.SeqAt
open PySem.AutoSeq1 (wpAny_loadPart')
open PySem.MeetsSeq PySem.MeetsSeq2 PySem.MeetsSeq3

end

section
variable {prog : Program} {w : World} {A : Around} {E : Value → Shared → Prop} {s : Shared}



/-! ### t[a:b], not the whole -/
/-- a slice's bound as a place among n (d where it is left out) -/
def sIx (n d : Nat) : Option Int → Nat
  | none => d
  | some v => if v < 0 then (v + (n : Int)).toNat else min v.toNat n
theorem sIx_none (n d : Nat) : sIx n d none = d := rfl
theorem sIx_nat (n d k : Nat) : sIx n d (some (k : Int)) = min k n := by
  show (if (k : Int) < 0 then ((k : Int) + (n : Int)).toNat else min (k : Int).toNat n) = min k n
  rw [if_neg (by omega), Int.toNat_natCast]

end
end HT

namespace L2
open PySem PySem.Spec PyProof.Rows

/-! ### the parts of a slice -/
abbrev TO := St → Hp → (Option Int → Hp → Prop) → Prop
/-- a slice's part (left out, or an int) -/
def PO (X : Cx) (e : Option Expr) (t : TO) : Prop :=
  ∀ (pins : List (Addr × Obj)) (s : Shared) (σ : St) (H : Hp) (Q : Option Int → Hp → Prop), Inv X pins σ H s → t σ H Q →
    wpAny (model X.prog X.w) X.A (evalPart e X.env) (fun u s' => ∃ o H', Inv X pins σ H' s' ∧ IsPart u o ∧ Q o H') X.xe s
def tNoPart : TO := fun _ H Q => Q none H
def tPart (t : TE) : TO := fun σ H Q => t σ H fun x H1 => ∃ i, x = .int i ∧ Q (some i) H1


section
variable {X : Cx} {e : Expr} {te : TE} {lo hi : Option Expr} {tl th : TO} {pos p2 : Pos}

theorem po_none : PO X none tNoPart := by
  intro pins s σ H Q I h
  rw [evalPart_none]
  exact wpAny_pure ⟨none, H, I, .none, h⟩
theorem po_some (h : PE X e te) : PO X (some e) (tPart te) := by
  intro pins s σ H Q I hw
  rw [evalPart_some]
  refine thn (h pins s σ H _ I hw) fun u s1 ⟨x, H1, I1, r1, q1⟩ => ?_
  obtain ⟨i, rfl, q⟩ := q1
  obtain ⟨t, rfl⟩ := r1
  exact ⟨some i, H1, I1, .int i t, q⟩

/-- what a slice of a value is, by values: the slice object stands at sl -/
def SlR (X : Cx) (r : V → Option Int → Option Int → Hp → VK → Prop) : Prop :=
  ∀ (pins : List (Addr × Obj)) (s : Shared) (σ : St) (H : Hp) (x : V) (v vl vu : Value) (lo hi : Option Int) (sl : Addr) (Q : VK), Inv X pins σ H s → RelV x v → s.heap.IsSliceOf sl vl vu .none → IsPart vl lo → IsPart vu hi → r x lo hi H Q →
    ∃ T id, typeLookup (.type T) "__getitem__" = pure (some (.builtin id)) ∧ s.TypeIs v T ∧ wpAny (model X.prog X.w) X.A (getItem v (.ref sl)) (EP X pins σ Q) X.xe s
def tSl (r : V → Option Int → Option Int → Hp → VK → Prop) (te : TE) (tl th : TO) : TE := fun σ H Q => te σ H fun x H1 => tl σ H1 fun l H2 => th σ H2 fun u H3 => r x l u H3 Q
/-- a[lo:hi], any a -/
theorem pe_slice {r : V → Option Int → Option Int → Hp → VK → Prop} (hr : SlR X r) (he : PE X e te) (hl : PO X lo tl) (hu : PO X hi th) : PE X (.Subscript e (.Slice lo hi none p2) pos) (tSl r te tl th) := by
  intro pins s σ H Q I h
  refine Subscript_ (thn (he pins s σ H _ I h) fun v s1 ⟨x, H1, I1, r1, q1⟩ => ?_)
  refine wpAny_Slice (thn (hl pins s1 σ H1 _ I1 q1) fun vl s2 ⟨l, H2, I2, pl, q2⟩ => thn (hu pins s2 σ H2 _ I2 q2) fun vu s3 ⟨u, H3, I3, pu, q3⟩ => ?_)
  rw [evalPart_none]
  refine wpAny_pure ?_
  have I4 : Inv X pins σ H3 { s3 with heap := s3.heap.push { cls := .type "slice", data := .fields #[vl, vu, .none] } } := I3.kept (t' := s3.toks) fun b ob q => Heap.get?_push_of_some _ q
  obtain ⟨T, id, hT, ht, hg⟩ := hr pins { s3 with heap := s3.heap.push { cls := .type "slice", data := .fields #[vl, vu, .none] } } σ H3 x v vl vu l u s3.heap.objs.size Q I4 r1 (Heap.IsSliceOf.new ..) pl pu q3
  show wpAny (model X.prog X.w) X.A (subscriptTail e (.Slice lo hi none p2) v (.ref s3.heap.objs.size)) (EP X pins σ Q) X.xe { s3 with heap := s3.heap.push { cls := .type "slice", data := .fields #[vl, vu, .none] } }
  exact tail_any (ops := [.ref s3.heap.objs.size, v]) ht hT hg (by with_unfolding_all rfl)

/-- the items of xs[lo:hi] -/
def cutV (xs : List V) (lo hi : Option Int) : List V := (xs.drop (HT.sIx xs.length 0 lo)).take (HT.sIx xs.length xs.length hi - HT.sIx xs.length 0 lo)
theorem cutV_length (xs : List V) (lo hi : Option Int) : (cutV xs lo hi).length ≤ xs.length := by
  unfold cutV
  rw [List.length_take, List.length_drop]
  omega
/-- t[lo:hi], not the whole of it (the whole would be t itself) -/
def rSlT (K : PySem.W.Frag) : V → Option Int → Option Int → Hp → VK → Prop := fun x lo hi H Q => ∃ a xs, x = .ref a ∧ SqT K H a xs ∧
  ¬ (HT.sIx xs.length 0 lo = 0 ∧ HT.sIx xs.length xs.length hi = xs.length) ∧ ∀ p, H p = none → Q (.ref p) (upd H p (.tup (cutV xs lo hi)))

/-! ### t < u, t + u -/
def rLtT (K : PySem.W.Frag) : R2 := fun x y H Q => ∃ a b ns ms, x = .ref a ∧ y = .ref b ∧ SqT K H a (ns.map V.int) ∧ SqT K H b (ms.map V.int) ∧ Q (.bl (HT.lexLt ns ms)) H
/-- t + u, t not empty: u empty gives t itself -/
def rCatT (K : PySem.W.Frag) : R2 := fun x y H Q => ∃ a b xs ys, x = .ref a ∧ y = .ref b ∧ SqT K H a xs ∧ SqT K H b ys ∧ xs ≠ [] ∧ xs.length + ys.length ≤ sizeLine ∧
  (ys = [] → Q (.ref a) H) ∧ (ys ≠ [] → ∀ p, H p = none → Q (.ref p) (upd H p (.tup (xs ++ ys))))
end
end L2

namespace L2
open PySem PySem.Spec PyProof.Rows

/-! ### places -/
/-- the place that an index of any sign means -/
def ixN (n : Nat) (i : Int) : Option Nat := if 0 ≤ i then (if i < n then some i.toNat else none) else if -(n : Int) ≤ i then some (i + n).toNat else none
def atI {α : Type} (xs : List α) (i : Int) : Option α := (ixN xs.length i).bind fun j => xs[j]?
theorem ixN_seq {n : Nat} {i : Int} {j : Nat} (h : ixN n i = some j) : seqIndex? i n = some j ∧ j < n ∧ -(n : Int) ≤ i ∧ i < n := by
  unfold ixN at h
  by_cases h0 : 0 ≤ i
  · rw [if_pos h0] at h
    by_cases h1 : i < n
    · rw [if_pos h1] at h
      have e : i.toNat = j := Option.some.inj h
      exact ⟨by rw [seqIndex_of h0 h1, e], by omega, by omega, h1⟩
    · rw [if_neg h1] at h; cases h
  · rw [if_neg h0] at h
    by_cases h1 : -(n : Int) ≤ i
    · rw [if_pos h1] at h
      have e : (i + n).toNat = j := Option.some.inj h
      exact ⟨by rw [seqIndex_neg (by omega) h1, e], by omega, h1, by omega⟩
    · rw [if_neg h1] at h; cases h
theorem atI_get {α : Type} {xs : List α} {i : Int} {v : α} (h : atI xs i = some v) : ∃ j, seqIndex? i xs.length = some j ∧ xs[j]? = some v ∧ j < xs.length ∧ -(xs.length : Int) ≤ i ∧ i < xs.length := by
  unfold atI at h
  cases e : ixN xs.length i with
  | none => rw [e] at h; cases h
  | some j =>
    rw [e] at h
    obtain ⟨h1, h2, h3, h4⟩ := ixN_seq e
    exact ⟨j, h1, h, h2, h3, h4⟩
theorem atI_nat {α : Type} {xs : List α} {j : Nat} {v : α} (h : xs[j]? = some v) : atI xs (j : Int) = some v := by
  have hj : j < xs.length := (List.getElem?_eq_some_iff.mp h).1
  have e : ixN xs.length (j : Int) = some j := by
    unfold ixN
    rw [if_pos (by omega), if_pos (by omega)]; simp
  unfold atI; rw [e]; exact h
theorem atI_last {α : Type} (xs : List α) (v : α) : atI (xs ++ [v]) (-1) = some v := by
  have hl : (xs ++ [v]).length = xs.length + 1 := by simp
  have e : ixN (xs ++ [v]).length (-1) = some xs.length := by
    unfold ixN
    rw [hl, if_neg (by decide), if_pos (by omega)]
    congr 1
    omega
  unfold atI
  rw [e]
  show (xs ++ [v])[xs.length]? = some v
  simp

/-! ### what may be subscripted -/
/-- what stands as an index of a plain subscript -/
def PlainIx (b : Expr) : Prop := ∀ o i, subscripted b false o i = operate [o, i] (getItem o i)
/-- a subscript by values -/
def IxR (X : Cx) (r : R2) : Prop :=
  ∀ (value slice : Expr) (pins : List (Addr × Obj)) (s : Shared) (σ : St) (H : Hp) (x y : V) (v u : Value) (Q : VK), Inv X pins σ H s → RelV x v → RelV y u → r x y H Q →
    subscripted slice false v u = operate [v, u] (getItem v u) → wpAny (model X.prog X.w) X.A (subscriptTail value slice v u) (EP X pins σ Q) X.xe s
/-- a call of a builtin's method by values: the receiver, the arguments -/
def MtR (X : Cx) (id : String) (r : V → List V → Hp → VK → Prop) : Prop :=
  ∀ (pins : List (Addr × Obj)) (s : Shared) (σ : St) (H : Hp) (x : V) (xs : List V) (v : Value) (us : List Value) (Q : VK), Inv X pins σ H s → RelV x v → Vals xs us → r x xs H Q →
    wpAny (model X.prog X.w) X.A (call (.builtin id) (v :: us)) (EP X pins σ Q) X.xe s
section
variable {X : Cx} {a b : Expr} {ta tb : TE} {pos : Pos}
/-- a[b] -/
theorem pe_ix {r : R2} (hr : IxR X r) (ha : PE X a ta) (hb : PE X b tb) (hs : PlainIx b) : PE X (.Subscript a b pos) (tOp r ta tb) := by
  intro pins s σ H Q I h
  exact Subscript_ (binT ha hb I h fun v u s2 x y H2 I2 rx ry q => hr a b pins s2 σ H2 x y v u Q I2 rx ry q (hs _ _))

def rIxL (K : PySem.W.Frag) : R2 := fun x y H Q => ∃ p xs i v, x = .ref p ∧ y = .int i ∧ SqL K H p xs ∧ atI xs i = some v ∧ Q v H
def rIxT (K : PySem.W.Frag) : R2 := fun x y H Q => ∃ p xs i v, x = .ref p ∧ y = .int i ∧ SqT K H p xs ∧ atI xs i = some v ∧ Q v H
def rIxS : R2 := fun x y H Q => ∃ z i c, x = .str z ∧ y = .int i ∧ z.length ≤ sizeLine ∧ atI z.cps.toList i = some c ∧ Q (.str ⟨#[c]⟩) H
theorem ix_list : IxR X (rIxL X.K) := by
  intro value slice pins s σ H x y v u Q I rx ry h hs
  obtain ⟨p, xs, i, z, rfl, rfl, hq, he, q⟩ := h
  cases rx
  obtain ⟨t, rfl⟩ := ry
  obtain ⟨its, r, pl, hz⟩ := I.list hq
  obtain ⟨j, h1, h2, h3, h4, h5⟩ := atI_get he
  obtain ⟨w, ew, rw'⟩ := r.get h2
  have hl := r.length
  have hn := line63
  have fin : EP X pins σ Q w s := ⟨z, H, I, rw', q⟩
  by_cases h0 : 0 ≤ i
  · have hj : i.toNat = j := by
      rw [seqIndex_of h0 h5] at h1
      exact Option.some.inj h1
    exact item_listR pl.isList h0 (by omega) (by rw [hj]; simpa using ew) fin hs
  · have hj : (i + (its.toArray.size : Int)).toNat = j := by
      rw [seqIndex_neg (by omega) h4] at h1
      rw [List.size_toArray, ← hl]
      exact Option.some.inj h1
    exact subscriptTail_builtinR (x := w) pl.isList.typeIs slot_list_getitem.lookup
      (wpAny_getItem_list_neg (Q := fun r s' => r = w ∧ EP X pins σ Q r s') pl.isList (by omega) (by rw [List.size_toArray] <;> omega) (by omega) (by rw [hj]; simpa using ew) ⟨rfl, fin⟩) hs
/-- list, tuple or str -/
def rIx (K : PySem.W.Frag) : R2 := fun x y H Q => rIxL K x y H Q ∨ rIxT K x y H Q ∨ rIxS x y H Q

/-! ### xs[i] = v, any sign -/
def rSetL : V → V → V → Hp → (Hp → Prop) → Prop := fun o i v H Q => ∃ p xs k j, o = .ref p ∧ i = .int k ∧ H p = some (.lst xs) ∧ ixN xs.length k = some j ∧ Q (upd H p (.lst (xs.set j v)))

/-! ### slices -/
theorem slice_bounds (lo hi : Option Int) (n : Nat) : (sliceBounds lo hi none n).1 = ((HT.sIx n 0 lo : Nat) : Int) ∧ (sliceBounds lo hi none n).2.1 = ((HT.sIx n n hi : Nat) : Int) ∧ (sliceBounds lo hi none n).2.2 = 1 := by
  refine ⟨?_, ?_, rfl⟩
  · cases lo with
    | none => simp [sliceBounds, HT.sIx]
    | some i =>
      simp only [sliceBounds, HT.sIx, Option.getD_none, show (1 : Int) > 0 by decide, if_true]
      by_cases h : i < 0
      · simp only [h, if_true] <;> omega
      · simp only [h, if_false] <;> omega
  · cases hi with
    | none => simp [sliceBounds, HT.sIx]
    | some i =>
      simp only [sliceBounds, HT.sIx, Option.getD_none, show (1 : Int) > 0 by decide, if_true]
      by_cases h : i < 0
      · simp only [h, if_true] <;> omega
      · simp only [h, if_false] <;> omega
theorem slicePick_cut (its : List Value) (lo hi : Option Int) : slicePick its.toArray lo hi none = ((its.drop (HT.sIx its.length 0 lo)).take (HT.sIx its.length its.length hi - HT.sIx its.length 0 lo)).toArray := by
  obtain ⟨h1, h2, h3⟩ := slice_bounds lo hi its.toArray.size
  unfold slicePick
  rw [h1, h2, h3]
  simp only [sliceRange_one, pick_run, List.size_toArray] <;> rfl
/-- xs[lo:hi] of a list: a new list -/
def rSlL (K : PySem.W.Frag) : V → Option Int → Option Int → Hp → VK → Prop := fun x lo hi H Q => ∃ a xs, x = .ref a ∧ SqL K H a xs ∧ ∀ p, H p = none → Q (.ref p) (upd H p (.lst (cutV xs lo hi)))
theorem sl_list : SlR X (rSlL X.K) := by
  intro pins s σ H x v vl vu lo hi sl Q I rx hs pl pu h
  obtain ⟨a, xs, rfl, hx, q⟩ := h
  cases rx
  obtain ⟨its, r, ht, hz⟩ := I.list hx
  have hlen := r.length
  refine ⟨"list", _, slot_list_getitem.lookup, ht.isList.typeIs, ?_⟩
  refine wpAny_getItem_list_slice ht.isList hs pl pu .none (by simp) ?_ (by rw [List.size_toArray] <;> omega)
  rw [slicePick_cut, ← hlen]
  refine ⟨.ref s.heap.objs.size, _, I.laid (t' := s.toks) (o := .lst (cutV xs lo hi)) (fun b ob q => Heap.get?_push_of_some _ q) (Nat.le_refl _) ?_, rfl, q _ (I.hok.fresh (Nat.le_refl _))⟩
  exact ⟨Nat.le_trans (cutV_length xs lo hi) hz, _, 0, (r.drop (HT.sIx xs.length 0 lo)).take (HT.sIx xs.length xs.length hi - HT.sIx xs.length 0 lo), Heap.get?_push_size _ rfl⟩

/-! ### in, not in: flat items -/
def flatV : V → Bool
  | .non => true
  | .bl _ => true
  | .int _ => true
  | .str _ => true
  | _ => false
/-- == of flat values -/
def eqV : V → V → Bool
  | .non, .non => true
  | .bl a, .bl b => a == b
  | .bl a, .int b => (if a then 1 else 0) == b
  | .int a, .bl b => a == (if b then 1 else 0)
  | .int a, .int b => a == b
  | .str a, .str b => a == b
  | _, _ => false
/-- the items' answers, read off the values (a value's own answer does not lean on its token) -/
def eqU (x : V) (u : Value) : Bool := match u with
  | .none => eqV .non x
  | .bool b => eqV (.bl b) x
  | .int i _ => eqV (.int i) x
  | .str z _ => eqV (.str z) x
  | _ => false
def inV (x : V) (xs : List V) : Bool := xs.any fun y => eqV y x
/-- x in a list or tuple of flat items -/
def rIn (K : PySem.W.Frag) (neg : Bool) : R2 := fun x y H Q => ∃ p xs, y = .ref p ∧ (SqL K H p xs ∨ SqT K H p xs) ∧ flatV x = true ∧ xs.all flatV = true ∧ Q (.bl (if neg then !inV x xs else inV x xs)) H

/-! ### len, list(x), tuple(x) of any list or tuple that is read -/
theorem call_len_seq : CallR X (.builtin "len") (fun xs H Q => ∃ p ys, xs = [.ref p] ∧ (SqL X.K H p ys ∨ SqT X.K H p ys) ∧ Q (.int ys.length) H) := by
  intro pins s σ H xs us Q I r h
  obtain ⟨p, ys, rfl, hq, q⟩ := h
  obtain ⟨u, rfl, rx⟩ := vals1 r
  cases rx
  have hn := line63
  rcases hq with hq | hq
  · obtain ⟨its, r', pl, hz⟩ := I.list hq
    have hlen := r'.length
    exact Calls.call_len_list pl.isList (by simp only [List.size_toArray] <;> omega) ⟨.int ys.length, H, I.tok _, ⟨s.toks + 1, by rw [List.size_toArray, hlen]⟩, q⟩
  · obtain ⟨its, r', pl, hz⟩ := I.tuple hq
    have hlen := r'.length
    exact len_tuple pl (by simp only [List.size_toArray] <;> omega) ⟨.int ys.length, H, I.tok _, ⟨s.toks + 1, by rw [List.size_toArray, hlen]⟩, q⟩

/-! ### the call of a builtin's method: o.m(..) -/
/-- the value is of that builtin type -/
def tyV (K : PySem.W.Frag) (T : String) (x : V) (H : Hp) : Prop := match x with
  | .str _ => T = "str"
  | .int _ => T = "int"
  | .ref p => (T = "list" ∧ ∃ xs, SqL K H p xs) ∨ (T = "tuple" ∧ ∃ o, K.lookup p = some o ∧ o.cls = .type "tuple" ∧ o.dict = none) ∨
      (T = "dict" ∧ ((∃ kvs, H p = some (.dK kvs)) ∨ ∃ kvs, H p = some (.dT kvs))) ∨ (T = "set" ∧ ∃ S n, H p = some (.set S n))
  | _ => False
theorem tyV_is {pins : List (Addr × Obj)} {σ : St} {H : Hp} {s : Shared} {T : String} {x : V} {v : Value} (I : Inv X pins σ H s) (r : RelV x v) (ty : tyV X.K T x H) :
    s.TypeIs v T ∧ ∀ a, v = .ref a → ∃ ob, s.heap.get? a = some ob ∧ ob.dict = none := by
  cases x with
  | str z =>
    obtain ⟨t, rfl⟩ := r
    cases (show T = "str" from ty)
    exact ⟨typeIs_str s z t, fun _ e => nomatch e⟩
  | int i =>
    obtain ⟨t, rfl⟩ := r
    cases (show T = "int" from ty)
    exact ⟨typeIs_int s i t, fun _ e => nomatch e⟩
  | ref p =>
    cases r
    rcases ty with ⟨rfl, xs, hq⟩ | ⟨rfl, o, hk, hc, hd⟩ | ⟨rfl, hk⟩ | ⟨rfl, S, n, hk⟩
    · obtain ⟨its, _, pl, _⟩ := I.list hq
      refine ⟨pl.isList.typeIs, fun a e => ?_⟩
      cases e
      obtain ⟨o, n, e, c, hd, _⟩ := pl
      exact ⟨o, e, hd⟩
    · refine ⟨⟨o, I.kIn p o hk, hc⟩, fun a e => ?_⟩
      cases e
      exact ⟨o, I.kIn _ o hk, hd⟩
    · have z : ∃ o, s.heap.get? p = some o ∧ o.ExactDict := by
        rcases hk with ⟨kvs, hk⟩ | ⟨kvs, hk⟩
        · obtain ⟨_, _, _, _, o, _, _, e, ex, _⟩ := I.hok p _ hk
          exact ⟨o, e, ex⟩
        · obtain ⟨_, _, _, _, o, _, _, e, ex, _⟩ := I.hok p _ hk
          exact ⟨o, e, ex⟩
      obtain ⟨o, e, ex⟩ := z
      refine ⟨⟨o, e, ex.1⟩, fun a e2 => ?_⟩
      cases e2
      exact ⟨o, e, ex.2.1⟩
    · obtain ⟨o, _, _, _, e, ex, _⟩ := I.hok p _ hk
      refine ⟨⟨o, e, ex.1⟩, fun a e2 => ?_⟩
      cases e2
      exact ⟨o, e, ex.2.1⟩
  | _ => exact False.elim ty
def tBM0 (K : PySem.W.Frag) (T : String) (r : V → List V → Hp → VK → Prop) (to : TE) : TE := fun σ H Q => to σ H fun x H1 => tyV K T x H1 ∧ r x [] H1 Q
def tBM (K : PySem.W.Frag) (T : String) (r : V → List V → Hp → VK → Prop) (to : TE) (t : TA) : TE := fun σ H Q => to σ H fun x H1 => tyV K T x H1 ∧ t σ H1 fun xs H2 => r x xs H2 Q
variable {o e : Expr} {es : List Expr} {to : TE} {t : TA} {name : Str} {apos cpos : Pos} {T id : String} {r : V → List V → Hp → VK → Prop}
theorem pe_bm (pa : PlainAttrs T) (slot : Slot T name id) (hty : typeOf (.builtin id) = pure (.type "method_descriptor")) (hm : MtR X id r) (ho : PE X o to) (ha : PA X (e :: es) t)
    (hbase : attributeBase o name X.env (eval o X.env) = eval o X.env := by rfl)
    (hfew : ((backTo cpos (starEach (e :: es) X.env)).all (fun x => !x.1) && (backToKw cpos (keywordEach [] X.env)).all (fun x => x.1.isSome)
      && decide ((e :: es).length + ([] : List Keyword).length + (if ([] : List Keyword).isEmpty then 0 else 1) < 30)) = true := by rfl)
    (hline : (apos.endLine == cpos.line) = true := by rfl) (hs : starEach (e :: es) X.env = (false, eval e X.env) :: starEach es X.env := by rfl) (hplain : (backTo cpos (starEach es X.env)).any (·.1) = false := by rfl) :
    PE X (.Call (.Attribute o name apos) (e :: es) [] cpos) (tBM X.K T r to t) := by
  intro pins s σ H Q I h
  refine wpAny_Call_method_late hbase hfew hline rfl (thn (ho pins s σ H _ I h) fun v s1 ⟨x, H1, I1, r1, ty, q1⟩ => ?_)
  obtain ⟨h1, h2⟩ := tyV_is I1 r1 ty
  refine ⟨T, id, pa, slot, hty, h1, h2, ?_⟩
  have hA := ha cpos pins s1 σ H1 _ I1 q1
  rw [hs] at hA ⊢
  refine Calls.callWith_builtin (by show (false || (backTo cpos (starEach es X.env)).any (·.1)) = false; rw [hplain] <;> rfl) (Calls.evalArgs_plain ?_)
  exact thn hA fun us s2 ⟨vs, H2, I2, r2, q2⟩ => hm pins s2 σ H2 x vs v us Q I2 r1 r2 q2
/- xs.append(e), list.index on a module's tuple .. are MtR facts of 06m -/
end
end L2

namespace L2
open PySem PySem.Spec PyProof.Rows

def MtM (X : Cx) (id : String) (r : V → List V → Hp → VK → Prop) : Prop :=
  ∀ (pins : List (Addr × Obj)) (s : Shared) (σ : St) (H : Hp) (x : V) (xs : List V) (v : Value) (us : List Value) (Q : VK), Inv X pins σ H s → RelV x v → Vals xs us → r x xs H Q →
    wpAny (model X.prog X.w) X.A (call (.builtin id) (v :: us)) (EP X pins σ Q) X.xe s

/-! ### lists of values -/
theorem Vals.one : ∀ {x : V} {us : List Value}, Vals [x] us → ∃ u, us = [u] ∧ RelV x u
  | _, _, .cons r .nil => ⟨_, rfl, r⟩

section
variable {X : Cx} {pins : List (Addr × Obj)} {σ : St} {H : Hp} {s : Shared} {l b : Addr} {xs ys zs : List V}

/-! ### the two steps: a tracked list is rewritten, a new list is laid -/
theorem Inv.lset {its its' : List Value} {n : Nat} {f : Array Value → Array Value} {t' : Nat} (I : Inv X pins σ H s) (hH : H l = some (.lst xs))
    (e : s.heap.get? l = some { cls := .type "list", data := .seq its.toArray n }) (hf : f its.toArray = its'.toArray) (hv : Vals ys its') (hz : ys.length ≤ sizeLine) :
    Inv X pins σ (upd H l (.lst ys)) { s with heap := s.heap.update l (Obj.mapSeq f), toks := t' } := by
  have q := PySem.IsL.update e f
  rw [hf] at q
  refine I.write (x := l) (e := l) (by rw [hH]; exact trivial) (.inl rfl) (fun b' u hb hu => (Heap.get?_update_other s.heap (Obj.mapSeq f) (Ne.symm hb)).trans hu) ⟨_, q⟩ ?_
  exact ⟨hz, its', _, hv, q⟩
theorem Inv.lstM (I : Inv X pins σ H s) (hH : H l = some (.lst xs)) : xs.length ≤ sizeLine ∧ ∃ (its : List Value) (n : Nat), Vals xs its ∧ xs.length = its.length ∧ s.heap.get? l = some { cls := .type "list", data := .seq its.toArray n } := by
  obtain ⟨z, its, n, r, e⟩ := I.hok l _ hH
  exact ⟨z, its, n, r, r.length, e⟩

theorem notLongL {n : Nat} (h : n ≤ sizeLine) : Builtin.List.listTooLong n = false := by
  unfold Builtin.List.listTooLong
  exact decide_eq_false (by omega)
end

section
variable {X : Cx}

/-! ### methods -/
def rAppend : V → List V → Hp → VK → Prop := fun x vs H Q => ∃ l xs y, x = .ref l ∧ vs = [y] ∧ H l = some (.lst xs) ∧ xs.length < sizeLine ∧ Q .non (upd H l (.lst (xs ++ [y])))
theorem mt_append : MtM X "list.append" rAppend := by
  intro pins s σ H x vs v us Q I rx rv h
  obtain ⟨l, xs, y, rfl, rfl, hH, hz, q⟩ := h
  cases rx
  obtain ⟨u, rfl, ru⟩ := rv.one
  obtain ⟨z, its, n, r, hl, e⟩ := I.lstM hH
  refine call_meets F.slot_list_append ⟨_, e, rfl⟩ F.entry_list_append (F.args_list_append_2 _ _) (PySem.list_append l its.toArray n u (by rw [List.size_toArray]; omega)) ⟨e, ?_⟩
  refine ⟨.non, _, I.lset (its' := its ++ [u]) hH e (by simp) (r.append (.cons ru .nil)) ?_, rfl, q⟩
  rw [List.length_append, List.length_singleton]
  omega

def rExtend : V → List V → Hp → VK → Prop := fun x vs H Q => ∃ l b xs zs, x = .ref l ∧ vs = [.ref b] ∧ H l = some (.lst xs) ∧ H b = some (.lst zs) ∧ xs.length + zs.length ≤ sizeLine ∧ Q .non (upd H l (.lst (xs ++ zs)))
theorem mt_extend : MtM X "list.extend" rExtend := by
  intro pins s σ H x vs v us Q I rx rv h
  obtain ⟨l, b, xs, zs, rfl, rfl, hH, hB, hz, q⟩ := h
  cases rx
  obtain ⟨u, rfl, ru⟩ := rv.one
  cases ru
  obtain ⟨z, its, n, r, hl, e⟩ := I.lstM hH
  obtain ⟨z2, its2, n2, r2, hl2, e2⟩ := I.lstM hB
  have hsz : its.toArray.size + its2.toArray.size ≤ sizeLine := by rw [List.size_toArray, List.size_toArray]; omega
  have hlong : ¬ (!its.toArray.isEmpty && Builtin.List.listTooLong (its.toArray.size + its2.toArray.size)) = true := by
    rw [notLongL hsz, Bool.and_false]
    exact Bool.false_ne_true
  refine call_meets F.slot_list_extend ⟨_, e, rfl⟩ F.entry_list_extend (F.args_list_extend_2 _ _)
    (AutoSeq1.list_extend_list_list_0 l its.toArray n b its2.toArray n2 hlong (by rw [List.size_toArray]; omega) (by omega)) ⟨e, e2, ?_⟩
  refine ⟨.non, _, I.lset (its' := its ++ its2) hH e (by simp) (r.append r2) ?_, rfl, q⟩
  rw [List.length_append]
  omega

def rPop : V → List V → Hp → VK → Prop := fun x vs H Q => ∃ l xs y, x = .ref l ∧ vs = [] ∧ H l = some (.lst xs) ∧ xs[xs.length - 1]? = some y ∧ Q y (upd H l (.lst xs.dropLast))

def rPopAt : V → List V → Hp → VK → Prop := fun x vs H Q => ∃ l xs i k y, x = .ref l ∧ vs = [.int i] ∧ H l = some (.lst xs) ∧ -(2 ^ 63) ≤ i ∧ i < 2 ^ 63 ∧ seqIndex? i xs.length = some k ∧ xs[k]? = some y ∧ Q y (upd H l (.lst (xs.eraseIdx k)))

def rReverse : V → List V → Hp → VK → Prop := fun x vs H Q => ∃ l xs, x = .ref l ∧ vs = [] ∧ H l = some (.lst xs) ∧ Q .non (upd H l (.lst xs.reverse))

def rClear : V → List V → Hp → VK → Prop := fun x vs H Q => ∃ l xs, x = .ref l ∧ vs = [] ∧ H l = some (.lst xs) ∧ Q .non (upd H l (.lst []))

/-! ### list + list, list += list, list * int -/
def rCat : R2 := fun x y H Q => ∃ l b xs zs, x = .ref l ∧ y = .ref b ∧ H l = some (.lst xs) ∧ H b = some (.lst zs) ∧ xs.length + zs.length ≤ sizeLine ∧ ∀ p, H p = none → Q (.ref p) (upd H p (.lst (xs ++ zs)))
/-- a list times an int (a negative one is nothing) -/
def rRep : R2 := fun x y H Q => ∃ l k xs, x = .ref l ∧ y = .int k ∧ H l = some (.lst xs) ∧ -(2 ^ 63) ≤ k ∧ k < 2 ^ 63 ∧ xs.length * k.toNat ≤ sizeLine ∧
  ∀ p, H p = none → Q (.ref p) (upd H p (.lst (List.replicate k.toNat xs).flatten))

/-! ### del xs[i] -/
end

/-! ### xs[a:b] = ys -/
section
variable {prog : Program} {w : World} {A : Around} {E : Value → Shared → Prop} {s : Shared}
end

section
variable {X : Cx}
end
end L2

namespace L2
open PySem PySem.Spec PyProof.Rows

theorem Vals.ints : ∀ {ns : List Int} {us : List Value}, Vals (ns.map V.int) us → IntsAre us ns
  | [], us, h => by
    rw [List.map_nil] at h
    cases h
    exact IntsAre.nil
  | n :: ns, us, h => by
    rw [List.map_cons] at h
    cases h with
    | cons r t =>
      obtain ⟨k, rfl⟩ := r
      exact IntsAre.cons n k (Vals.ints t)
theorem vals_of_ints : ∀ {us : List Value} {ns : List Int}, IntsAre us ns → Vals (ns.map V.int) us
  | _, _, .nil => by rw [List.map_nil]; exact Paired.nil
  | _, _, .cons n t h => by rw [List.map_cons]; exact Paired.cons (show RelV (V.int n) (Value.int n t) from ⟨t, rfl⟩) (vals_of_ints h)
theorem Vals.bls : ∀ {bs : List Bool} {us : List Value}, Vals (bs.map V.bl) us → us = bs.map Value.bool
  | [], us, h => by
    rw [List.map_nil] at h
    cases h
    rfl
  | b :: bs, us, h => by
    rw [List.map_cons] at h
    cases h with
    | cons r t =>
      cases r
      rw [Vals.bls t, List.map_cons]
theorem Vals.ref1 {a : Addr} {us : List Value} (r : Vals [V.ref a] us) : us = [Value.ref a] := by
  cases r with
  | cons r t =>
    cases t
    cases r
    rfl

/-! ### the library's walks over a list of ints, kept objects alone -/
section
variable {prog : Program} {w : World} {A : Around} {E : Value → Shared → Prop} {s : Shared} {l : Addr} {its : List Value} {ns : List Int} {Q : Value → Shared → Prop}
end

/-! ### the calls, by values (CallR of 03t; MtR of 06l) -/
section
variable {X : Cx}
/-- sum(xs) of a list of ints -/
def rSum (K : PySem.W.Frag) : List V → Hp → VK → Prop := fun vs H Q => ∃ (a : Addr) (ns : List Int), vs = [V.ref a] ∧ SqL K H a (ns.map V.int) ∧ Q (.int ns.sum) H
/-- max(xs), min(xs) of a list of ints -/
def rMax (K : PySem.W.Frag) : List V → Hp → VK → Prop := fun vs H Q => ∃ (a : Addr) (ns : List Int), vs = [V.ref a] ∧ SqL K H a (ns.map V.int) ∧ 0 < ns.length ∧ ∀ m, m ∈ ns → (∀ y, y ∈ ns → y ≤ m) → Q (.int m) H
def rMin (K : PySem.W.Frag) : List V → Hp → VK → Prop := fun vs H Q => ∃ (a : Addr) (ns : List Int), vs = [V.ref a] ∧ SqL K H a (ns.map V.int) ∧ 0 < ns.length ∧ ∀ m, m ∈ ns → (∀ y, y ∈ ns → m ≤ y) → Q (.int m) H

/-! sorted, sort (fewer than 64 items: the library's own bound) -/
def rSorted (K : PySem.W.Frag) : List V → Hp → VK → Prop := fun vs H Q => ∃ (a : Addr) (ns : List Int), vs = [V.ref a] ∧ SqL K H a (ns.map V.int) ∧ ns.length < 64 ∧
  ∀ (ns' : List Int) (p : Addr), ns'.Perm ns → ns'.Pairwise (· ≤ ·) → H p = none → Q (.ref p) (upd H p (.lst (ns'.map V.int)))
def rSortedS (K : PySem.W.Frag) : List V → Hp → VK → Prop := fun vs H Q => ∃ (a : Addr) (xs : List Str), vs = [V.ref a] ∧ SqL K H a (xs.map V.str) ∧ xs.length < 64 ∧
  ∀ (ys : List Str) (p : Addr), ys.Perm xs → sortedS ys = true → H p = none → Q (.ref p) (upd H p (.lst (ys.map V.str)))
/-- xs.sort(), ints -/
def rSort : V → List V → Hp → VK → Prop := fun x xs H Q => ∃ (a : Addr) (ns : List Int), x = V.ref a ∧ xs = [] ∧ H a = some (.lst (ns.map V.int)) ∧ ns.length < 64 ∧
  ∀ ns' : List Int, ns'.Perm ns → ns'.Pairwise (· ≤ ·) → Q .non (upd H a (.lst (ns'.map V.int)))
end

/-! ### list.index, flat items -/
section
variable {X : Cx}
def rIndex (K : PySem.W.Frag) : V → List V → Hp → VK → Prop := fun x xs H Q => ∃ (a : Addr) (ys : List V) (y : V) (j : Nat) (z : V), x = V.ref a ∧ xs = [y] ∧ SqL K H a ys ∧ flatV y = true ∧ ys.all flatV = true ∧ ys[j]? = some z ∧ eqV z y = true ∧
  (∀ (m : Nat) (z' : V), m < j → ys[m]? = some z' → eqV z' y = false) ∧ Q (.int (j : Nat)) H
end

/-! ### type(x) of an own instance; is, is not of a module's class -/
section
variable {X : Cx}
end

/-! ### any(xs), all(xs) of a list of bools -/
theorem iter_any {prog : Program} {w : World} {A : Around} {E : Value → Shared → Prop} {s : Shared} {l : Addr} {items : Array Value} {Q : Value → Shared → Prop} (hl : s.heap.IsList l items)
    (h : ∀ s₂ : Shared, s₂ = { s with heap := s.heap.push { cls := .type "list_iterator", data := .fields #[.ref l, .int 0 0] } } →
      (s₂.heap.IsListIter s.heap.objs.size l 0 ∧ s₂.heap.IsList l items) → l ≠ s.heap.objs.size → Q (.ref s.heap.objs.size) s₂) : wpAny (model prog w) A (pyIter (.ref l)) Q E s := by
  have hlt : l < s.heap.objs.size := by obtain ⟨_, e, _⟩ := hl; exact Heap.lt_size e
  exact wpAny_pyIter_list hl (h _ rfl ⟨⟨_, Heap.get?_push_size _ rfl, rfl, rfl⟩, hl.push _⟩ (Nat.ne_of_lt hlt))
theorem truth_bools {prog : Program} {w : World} {A : Around} {bs : List Bool} {its : List Value} (e : its = bs.map Value.bool) :
    TruthOf prog w A (fun i v => its.toArray[i]? = some v) (fun i => bs.getD i false) := fun i v s Q E hv hq => by
  have hv' : its[i]? = some v := by simpa using hv
  rw [e, List.getElem?_map] at hv'
  obtain ⟨b, hb, rfl⟩ := Option.map_eq_some_iff.mp hv'
  have hg : bs.getD i false = b := by rw [List.getD_eq_getElem?_getD, hb] <;> rfl
  have hq' : Q (bs.getD i false) s := hq
  rw [hg] at hq'
  exact wpAny_truthy_bool hq'
theorem any_range : ∀ bs : List Bool, (List.range bs.length).any (fun i => bs.getD i false) = bs.any id
  | [] => rfl
  | b :: bs => by
    rw [List.length_cons, List.range_succ_eq_map, List.any_cons, List.any_map, List.any_cons, ← any_range bs]
    all_goals rfl
theorem all_range : ∀ bs : List Bool, (List.range bs.length).all (fun i => bs.getD i false) = bs.all id
  | [] => rfl
  | b :: bs => by
    rw [List.length_cons, List.range_succ_eq_map, List.all_cons, List.all_map, List.all_cons, ← all_range bs]
    all_goals rfl
section
variable {X : Cx}
def rAny (K : PySem.W.Frag) : List V → Hp → VK → Prop := fun vs H Q => ∃ (a : Addr) (bs : List Bool), vs = [V.ref a] ∧ SqL K H a (bs.map V.bl) ∧ Q (.bl (bs.any id)) H
def rAll (K : PySem.W.Frag) : List V → Hp → VK → Prop := fun vs H Q => ∃ (a : Addr) (bs : List Bool), vs = [V.ref a] ∧ SqL K H a (bs.map V.bl) ∧ Q (.bl (bs.all id)) H
theorem cr_all (hc : X.calm = true) : CallR X (.builtin "all") (rAll X.K) := by
  intro pins s σ H vs us Q I r h
  obtain ⟨a, bs, rfl, hs, q⟩ := h
  obtain ⟨its, rv, hl, _⟩ := I.list hs
  rw [Vals.ref1 r]
  have hb := rv.bls
  refine call_all_walk (iter_any hl.isList fun s₂ e2 st hne => ?_)
  subst e2
  refine ⟨_, _, _, _, _, _, _, rfl, Walks.list (A := X.A.in1) (I.ok.hd hc) _ a hne its.toArray, st, truth_bools hb, fun h' tk hk => ?_⟩
  refine ⟨.bl _, H, I.kept fun b o eo => hk b o (fun hmem => ?_) (Heap.get?_push_of_some _ eo), ?_, q⟩
  · rcases List.mem_cons.mp hmem with e1 | hmem
    · exact absurd (e1 ▸ Heap.lt_size eo) (Nat.lt_irrefl _)
    · cases hmem
  · show Value.bool _ = Value.bool _
    rw [← all_range, hb, List.size_toArray, List.length_map]
end

/-! ### == and != of data at any depth: none, bools, ints, texts, lists, tuples -/
mutual
inductive Dp (K : PySem.W.Frag) (H : Hp) : V → PyData → Prop
  | non : Dp K H .non .none
  | bl (b : Bool) : Dp K H (.bl b) (.bool b)
  | int (i : Int) : Dp K H (.int i) (.int i)
  | str (x : Str) : Dp K H (.str x) (.str x)
  | lst {a : Addr} {xs : List V} {ds : List PyData} : SqL K H a xs → DpAll K H xs ds → Dp K H (.ref a) (.list ds)
  | tup {a : Addr} {xs : List V} {ds : List PyData} : SqT K H a xs → DpAll K H xs ds → Dp K H (.ref a) (.tuple ds)
inductive DpAll (K : PySem.W.Frag) (H : Hp) : List V → List PyData → Prop
  | nil : DpAll K H [] []
  | cons {v : V} {vs : List V} {d : PyData} {ds : List PyData} : Dp K H v d → DpAll K H vs ds → DpAll K H (v :: vs) (d :: ds)
end
section
variable {X : Cx} {pins : List (Addr × Obj)} {σ : St} {H : Hp} {s : Shared}
end
section
variable {X : Cx}
def rEqD (K : PySem.W.Frag) : R2 := fun x y H Q => ∃ d e, Dp K H x d ∧ Dp K H y e ∧ SeqAt.shaped d = true ∧ SeqAt.shaped e = true ∧ Q (.bl (PyData.eqv d e)) H
def rNeD (K : PySem.W.Frag) : R2 := fun x y H Q => ∃ d e, Dp K H x d ∧ Dp K H y e ∧ SeqAt.shaped d = true ∧ SeqAt.shaped e = true ∧ Q (.bl (!PyData.eqv d e)) H
end
end L2

namespace L2
open PySem PySem.Spec PyProof.Rows
abbrev CellAt (h : Heap) (c : Addr) (v : Option Value) : Prop := h.IsCell c v
def relS (scope sc : Scope) : Scope :=
  { scope with names := scope.names.map fun (n, k) => if (k == .free && sc.kind == .function && sc.names.lookup n == some .cell) then (n, .cell) else (n, k) }

def cloFrom (cells : List (Str × Addr)) : List (Str × NameKind) → List (Str × Addr) → List (Str × Addr)
  | [], acc => acc
  | (n, k) :: r, acc => if k == .free then cloFrom cells r ((n, (cells.lookup n).getD 0) :: acc) else cloFrom cells r acc

theorem closure_loop (env : Env) (f : Str × NameKind → List (Str × Addr) → Sem (ForInStep (List (Str × Addr))))
    (hf : ∀ n k c, f (n, k) c = if k == .free then (do let a ← cellOf env n; pure (.yield ((n, a) :: c))) else pure (.yield c)) :
    ∀ (names : List (Str × NameKind)) (acc : List (Str × Addr)), (∀ y ∈ names, y.2 = .free → ∃ c, env.cells.lookup y.1 = some c) → forIn names acc f = pure (cloFrom env.cells names acc)
  | [], acc, _ => by rw [List.forIn_nil]; rfl
  | (n, k) :: r, acc, h => by
    rw [List.forIn_cons, hf]
    have ih := fun acc => closure_loop env f hf r acc fun y hy => h y (List.mem_cons_of_mem _ hy)
    unfold cloFrom
    by_cases hk : (k == NameKind.free) = true
    · rw [if_pos hk, if_pos hk]
      obtain ⟨c, hc⟩ := h (n, k) List.mem_cons_self (by simpa using hk)
      have e : cellOf env n = pure c := by unfold cellOf; rw [hc]
      rw [e]
      have e2 : (env.cells.lookup n).getD 0 = c := by rw [hc]; rfl
      rw [e2]
      exact ih _
    · rw [if_neg hk, if_neg hk]
      exact ih _
theorem closure_ok {scope : Scope} {env : Env} (h : ∀ y ∈ scope.names, y.2 = .free → ∃ c, env.cells.lookup y.1 = some c) : closureFor scope env = pure (cloFrom env.cells scope.names []) := by
  simp only [closureFor]
  rw [closure_loop env _ (fun n k c => rfl) scope.names [] h]
  rfl

theorem mem_lookup {α : Type} : ∀ {l : List (Str × α)} {n : Str} {c : α}, (n, c) ∈ l → ∃ c', l.lookup n = some c'
  | (k, v) :: r, n, c, h => by
    rw [List.lookup_cons]
    cases hb : n == k with
    | true => exact ⟨_, rfl⟩
    | false =>
      rcases List.mem_cons.mp h with e | h
      · cases e; simp at hb
      · exact mem_lookup h

theorem cloFrom_mem {cells : List (Str × Addr)} : ∀ {names : List (Str × NameKind)} {acc : List (Str × Addr)} {n : Str} {c : Addr}, (n, c) ∈ cloFrom cells names acc → (n, c) ∈ acc ∨ ((n, .free) ∈ names ∧ c = (cells.lookup n).getD 0)
  | [], _, _, _, h => .inl h
  | (m, k) :: r, acc, n, c, h => by
    unfold cloFrom at h
    split at h
    · rename_i hk
      have hk : k = .free := by simpa using hk
      rcases cloFrom_mem h with h | ⟨h1, h2⟩
      · rcases List.mem_cons.mp h with e | h
        · cases e; exact .inr ⟨hk ▸ List.mem_cons_self, rfl⟩
        · exact .inl h
      · exact .inr ⟨List.mem_cons_of_mem _ h1, h2⟩
    · rcases cloFrom_mem h with h | ⟨h1, h2⟩
      · exact .inl h
      · exact .inr ⟨List.mem_cons_of_mem _ h1, h2⟩
theorem cloFrom_acc {cells : List (Str × Addr)} : ∀ {names : List (Str × NameKind)} {acc : List (Str × Addr)} {p : Str × Addr}, p ∈ acc → p ∈ cloFrom cells names acc
  | [], _, _, h => h
  | (m, k) :: r, acc, p, h => by
    unfold cloFrom
    split
    · exact cloFrom_acc (List.mem_cons_of_mem _ h)
    · exact cloFrom_acc h
theorem cloFrom_has {cells : List (Str × Addr)} : ∀ {names : List (Str × NameKind)} {acc : List (Str × Addr)} {n : Str}, (n, .free) ∈ names → (n, (cells.lookup n).getD 0) ∈ cloFrom cells names acc
  | (m, k) :: r, acc, n, h => by
    unfold cloFrom
    rcases List.mem_cons.mp h with e | h
    · cases e
      exact cloFrom_acc List.mem_cons_self
    · split
      · exact cloFrom_has h
      · exact cloFrom_has h

theorem cells_mem : ∀ {names : List (Str × NameKind)} {h : Heap} {acc : List (Str × Addr)} {x : Str} {c : Addr}, (x, c) ∈ cellsFrom h.objs.size names acc →
    (x, c) ∈ acc ∨ ((x, .cell) ∈ names ∧ h.objs.size ≤ c ∧ CellAt (pushCells h names) c none)
  | [], _, _, _, _, h => .inl h
  | (n, k) :: r, h, acc, x, c, hm => by
    unfold cellsFrom at hm
    unfold pushCells
    split at hm
    · rename_i hk
      rw [if_pos hk]
      have hk : k = .cell := by simpa using hk
      rw [← Heap.size_push h { cls := .type "cell", data := .cell none }] at hm
      rcases cells_mem hm with hm | ⟨h1, h2, h3⟩
      · rcases List.mem_cons.mp hm with e | hm
        · cases e
          exact .inr ⟨hk ▸ List.mem_cons_self, Nat.le_refl _, _, pushCells_keeps r _ _ _ (Heap.get?_push_size _ rfl), rfl⟩
        · exact .inl hm
      · rw [Heap.size_push] at h2
        exact .inr ⟨List.mem_cons_of_mem _ h1, Nat.le_of_succ_le h2, h3⟩
    · rename_i hk
      rw [if_neg hk]
      rcases cells_mem hm with hm | ⟨h1, h2, h3⟩
      · exact .inl hm
      · exact .inr ⟨List.mem_cons_of_mem _ h1, h2, h3⟩
theorem cells_acc : ∀ {names : List (Str × NameKind)} {n : Nat} {acc : List (Str × Addr)} {p : Str × Addr}, p ∈ acc → p ∈ cellsFrom n names acc
  | [], _, _, _, h => h
  | (m, k) :: r, n, acc, p, h => by
    unfold cellsFrom
    split
    · exact cells_acc (List.mem_cons_of_mem _ h)
    · exact cells_acc h
theorem cells_has : ∀ {names : List (Str × NameKind)} {n : Nat} {acc : List (Str × Addr)} {x : Str}, (x, .cell) ∈ names → ∃ c, (x, c) ∈ cellsFrom n names acc
  | (m, k) :: r, n, acc, x, h => by
    unfold cellsFrom
    rcases List.mem_cons.mp h with e | h
    · cases e
      exact ⟨n, cells_acc List.mem_cons_self⟩
    · split
      · exact cells_has h
      · exact cells_has h
theorem cells_inj : ∀ {names : List (Str × NameKind)} {h : Heap} {acc : List (Str × Addr)} {x y : Str} {c : Addr}, (∀ p ∈ acc, p.2 < h.objs.size) → (∀ x y c, (x, c) ∈ acc → (y, c) ∈ acc → x = y) →
    (x, c) ∈ cellsFrom h.objs.size names acc → (y, c) ∈ cellsFrom h.objs.size names acc → x = y
  | [], _, _, _, _, _, _, hi, h1, h2 => hi _ _ _ h1 h2
  | (n, k) :: r, h, acc, x, y, c, hl, hi, h1, h2 => by
    unfold cellsFrom at h1 h2
    split at h1
    · rename_i hk
      rw [if_pos hk] at h2
      rw [← Heap.size_push h { cls := .type "cell", data := .cell none }] at h1 h2
      refine cells_inj (h := h.push _) (fun p hp => ?_) (fun x y c a b => ?_) h1 h2
      · rw [Heap.size_push]
        rcases List.mem_cons.mp hp with rfl | hp
        · exact Nat.lt_succ_self _
        · exact Nat.lt_succ_of_lt (hl p hp)
      · rcases List.mem_cons.mp a with e | a <;> rcases List.mem_cons.mp b with e' | b
        · cases e; cases e'; rfl
        · cases e; exact absurd (hl _ b) (Nat.lt_irrefl _)
        · cases e'; exact absurd (hl _ a) (Nat.lt_irrefl _)
        · exact hi _ _ _ a b
    · rename_i hk
      rw [if_neg hk] at h2
      exact cells_inj hl hi h1 h2

theorem newEnv_comp {M : Model} {A : Around} {E : Value → Shared → Prop} {s : Shared} {scope : Scope} {globals : Addr} {closure : List (Str × Addr)} {qual : Str} {func : Option Addr} {code : Value} {around : Env} {builtins : Addr} {Q : Env → Shared → Prop}
    (h : Q (newEnv scope s.heap.objs.size globals (cellsFrom (s.heap.objs.size + 1) scope.names closure) qual func code (some around) builtins)
      { s with heap := pushCells (s.heap.push { cls := .type "dict", data := .dict #[] }) scope.names }) :
    wpAny M A (newFunctionEnv scope globals closure [] qual func code (some around) builtins) Q E s := by
  simp only [newFunctionEnv, Option.isSome_some, if_true]
  refine wpAny_bind (wpAny_alloc ?_)
  refine wpAny_bind (wpAny_layCells _ (fun n k c => rfl) scope.names closure _ _ ?_)
  rw [show ({ s with heap := s.heap.push { cls := .type "dict", data := .dict #[] } } : Shared).heap.objs.size = s.heap.objs.size + 1 from Heap.size_push ..]
  rw [List.forIn_nil]
  exact wpAny_bind (wpAny_pure (wpAny_pure h))

/-- every name of the written scope, in the scope that runs -/
theorem lookup_relS {sc : Scope} : ∀ {names : List (Str × NameKind)} {x : Str} {k : NameKind},
    (names.map fun (n, k) => if (k == NameKind.free && sc.kind == .function && sc.names.lookup n == some .cell) then (n, NameKind.cell) else (n, k)).lookup x = some k →
    ∃ k', names.lookup x = some k' ∧ (k = k' ∨ (k' = .free ∧ k = .cell))
  | [], _, _, h => by simp at h
  | (n, k₀) :: r, x, k, h => by
    have ih := @lookup_relS sc r x k
    have h' : List.lookup x ((if (k₀ == NameKind.free && sc.kind == .function && sc.names.lookup n == some .cell) = true then (n, NameKind.cell) else (n, k₀)) :: (r.map _)) = some k := h
    cases hx : x == n with
    | true =>
      simp only [List.lookup_cons, hx]
      by_cases hc : (k₀ == NameKind.free && sc.kind == .function && sc.names.lookup n == some .cell) = true
      · rw [if_pos hc] at h'
        simp only [List.lookup_cons, hx] at h'
        cases h'
        simp only [Bool.and_eq_true, beq_iff_eq] at hc
        exact ⟨k₀, rfl, .inr ⟨hc.1.1, rfl⟩⟩
      · rw [if_neg hc] at h'
        simp only [List.lookup_cons, hx] at h'
        cases h'
        exact ⟨_, rfl, .inl rfl⟩
    | false =>
      simp only [List.lookup_cons, hx]
      by_cases hc : (k₀ == NameKind.free && sc.kind == .function && sc.names.lookup n == some .cell) = true
      · rw [if_pos hc] at h'
        simp only [List.lookup_cons, hx] at h'
        exact ih h'
      · rw [if_neg hc] at h'
        simp only [List.lookup_cons, hx] at h'
        exact ih h'



/-- the names of a comprehension's block: its own (with their places in N), or captured -/
structure BlkOk (N : List Str) (sc scope : Scope) (own : List (Str × Nat)) : Prop where
  kind : scope.kind = .function
  uniq : ∀ y ∈ scope.names, scope.names.lookup y.1 = some y.2
  ix : ∀ p ∈ own, N[p.2]? = some p.1
  free : ∀ y ∈ scope.names, y.2 = .free → sc.names.lookup y.1 = some .cell ∨ sc.names.lookup y.1 = some .free
  own : ∀ y ∈ scope.names, y.2 = .local ∨ y.2 = .cell → y.1 ∈ own.map (·.1) ∨ y.1 ∉ N
/-- the slots of the block's own names forgotten -/
def wipe (σ : St) : List Nat → St
  | [] => σ
  | v :: vs => (wipe σ vs).set v none
theorem wipe_length (σ : St) : ∀ vs : List Nat, (wipe σ vs).length = σ.length
  | [] => rfl
  | v :: vs => by unfold wipe; rw [List.length_set, wipe_length σ vs]
theorem wipe_some {σ : St} {i : Nat} {x : V} : ∀ {vs : List Nat}, (wipe σ vs)[i]? = some (some x) → σ[i]? = some (some x) ∧ i ∉ vs
  | [], h => ⟨h, by simp⟩
  | v :: vs, h => by
    unfold wipe at h
    by_cases hi : v = i
    · subst hi
      by_cases hv : v < (wipe σ vs).length
      · rw [List.getElem?_set_self hv] at h; cases h
      · rw [List.getElem?_eq_none (by simpa using hv)] at h; cases h
    · rw [List.getElem?_set_ne hi] at h
      obtain ⟨h1, h2⟩ := wipe_some h
      exact ⟨h1, by simp only [List.mem_cons, not_or]; exact ⟨fun e => hi e.symm, h2⟩⟩

/-- the context of a block that starts at s, its iterator's objects at fp -/
abbrev Cx.blk (X : Cx) (s : Shared) (H : Hp) (scope : Scope) (cenv : Env) (fp : List Addr) : Cx := { X with s_0 := s, H_0 := H, env := cenv, outer := X.stack, ex := fp, fn := fun x => scope.names.lookup x == some .cell, pn := [], xe := fun _ _ => False }
section
variable {X : Cx} {pins : List (Addr × Obj)} {σ : St} {H : Hp} {s : Shared}
theorem block_start {scope : Scope} {own : List (Str × Nat)} {fp : List Addr} (I : Inv X pins σ H s) (ok : BlkOk X.N X.env.scope scope own) (hN : X.N.Nodup) (hfp : ∀ b ∈ fp, FpOk X pins H b ∧ b < s.heap.objs.size) :
    Inv (X.blk s H scope (compEnvC scope (cellsFrom (s.heap.objs.size + 1) scope.names (cloFrom X.env.cells scope.names [])) s.heap.objs.size X.env) fp) [] (wipe σ (own.map (·.2))) H { s with heap := pushCells (s.heap.push { cls := .type "dict", data := .dict #[] }) scope.names } := by
  have hfree : ∀ y ∈ scope.names, y.2 = .free → ∃ c, X.env.cells.lookup y.1 = some c := fun y hy e => by
    rcases ok.free y hy e with k | k
    · exact I.ok.has _ (.inl k)
    · exact I.ok.has _ (.inr k)
  generalize hcenv : compEnvC scope (cellsFrom (s.heap.objs.size + 1) scope.names (cloFrom X.env.cells scope.names [])) s.heap.objs.size X.env = cenv
  have kp : ∀ b o, s.heap.get? b = some o → (pushCells (s.heap.push { cls := .type "dict", data := .dict #[] }) scope.names).get? b = some o := fun b o e => pushCells_keeps _ _ _ _ (Heap.get?_push_of_some _ e)
  have hL : cenv.locals = s.heap.objs.size := by rw [← hcenv]; rfl
  have hcl : cenv.cells = cellsFrom (s.heap.objs.size + 1) scope.names (cloFrom X.env.cells scope.names []) := by rw [← hcenv]; rfl
  have hsc : cenv.scope = relS scope X.env.scope := by rw [← hcenv]; rfl
  rw [← Heap.size_push s.heap { cls := .type "dict", data := .dict #[] }] at hcl
  have cm : ∀ {y c}, (y, c) ∈ cloFrom X.env.cells scope.names [] → X.env.cells.lookup y = some c ∧ c < s.heap.objs.size := fun {y c} hm => by
    rcases cloFrom_mem hm with hm | ⟨h1, rfl⟩
    · cases hm
    · obtain ⟨c, hc⟩ := hfree _ h1 rfl
      rw [hc]
      obtain ⟨w, z⟩ := I.cell _ _ hc
      exact ⟨rfl, z.lt⟩
  have mem : ∀ {y c}, cenv.cells.lookup y = some c → (X.env.cells.lookup y = some c ∧ c < s.heap.objs.size) ∨ (s.heap.objs.size + 1 ≤ c ∧ CellAt (pushCells (s.heap.push { cls := .type "dict", data := .dict #[] }) scope.names) c none) := fun {y c} e => by
    rw [hcl] at e
    rcases cells_mem (PySem.mem_of_lookup e) with hm | ⟨_, h2, h3⟩
    · exact .inl (cm hm)
    · rw [Heap.size_push] at h2; exact .inr ⟨h2, h3⟩
  have look : ∀ {y}, scope.names.lookup y = some .free → ∃ c, cenv.cells.lookup y = some c ∧ X.env.cells.lookup y = some c := fun {y} hl => by
    have hy : (y, NameKind.free) ∈ scope.names := PySem.mem_of_lookup hl
    obtain ⟨c', e'⟩ := mem_lookup (cells_acc (names := scope.names) (n := (s.heap.push { cls := .type "dict", data := .dict #[] }).objs.size) (cloFrom_has (cells := X.env.cells) (acc := []) hy))
    rw [← hcl] at e'
    refine ⟨c', e', ?_⟩
    rw [hcl] at e'
    rcases cells_mem (PySem.mem_of_lookup e') with hm | ⟨h1, _, _⟩
    · exact (cm hm).1
    · have := ok.uniq _ h1
      rw [hl] at this; cases this
  have okB : (X.blk s H scope cenv fp).Ok := by
    refine ⟨I.ok.mod, by show cenv.scope.kind = _; rw [hsc]; exact ok.kind, by show cenv.globals = _; rw [← hcenv]; exact I.ok.glob, by show cenv.builtins = _; rw [← hcenv]; exact I.ok.blt, by show s.heap.objs.size ≤ cenv.locals; rw [hL]; exact Nat.le_refl _,
      fun y z c e1 e2 => ?_, fun y hy => ?_, fun y c z e => ?_, I.ok.hd, I.ok.frames, .inl rfl, fun b hb => ⟨?_, fun y c e z => ?_⟩, I.bs, Nat.le_trans I.ok.bsz I.sz, fun b o e hb => ?_, fun b hb z => ?_, I.stack, I.stkFree⟩
    · have e1 : cenv.cells.lookup y = some c := e1
      have e2 : cenv.cells.lookup z = some c := e2
      rw [hcl] at e1 e2
      refine cells_inj (fun p hp => ?_) (fun y z c a b => I.ok.inj y z c (cm a).1 (cm b).1) (PySem.mem_of_lookup e1) (PySem.mem_of_lookup e2)
      rw [Heap.size_push]
      exact Nat.lt_succ_of_lt (cm (y := p.1) (c := p.2) hp).2
    · show ∃ c, cenv.cells.lookup y = some c
      have key : ∀ k, cenv.kindOf y = some k → (k = .cell ∨ k = .free) → ∃ c, cenv.cells.lookup y = some c := fun k hk hk' => by
        unfold Env.kindOf at hk
        rw [hsc] at hk
        obtain ⟨k', e, r⟩ := lookup_relS hk
        have : k' = .cell ∨ k' = .free := by
          rcases r with rfl | ⟨rfl, _⟩
          · exact hk'
          · exact .inr rfl
        rcases this with rfl | rfl
        · obtain ⟨c, hm⟩ := cells_has (n := (s.heap.push { cls := .type "dict", data := .dict #[] }).objs.size) (acc := cloFrom X.env.cells scope.names []) (PySem.mem_of_lookup e)
          obtain ⟨c', e'⟩ := mem_lookup hm
          exact ⟨c', by rw [hcl]; exact e'⟩
        · obtain ⟨c, h1, _⟩ := look e
          exact ⟨c, h1⟩
      rcases hy with hy | hy
      · exact key _ hy (.inl rfl)
      · exact key _ hy (.inr rfl)
    · have z : (scope.names.lookup y == some NameKind.cell) = true := z
      have z : scope.names.lookup y = some .cell := by simpa using z
      have e : cenv.cells.lookup y = some c := e
      rw [hcl] at e
      rcases cells_mem (PySem.mem_of_lookup e) with hm | ⟨_, h2, _⟩
      · rcases cloFrom_mem hm with hm | ⟨h1, _⟩
        · cases hm
        · have q := ok.uniq _ h1
          rw [z] at q; cases q
      · rw [Heap.size_push] at h2
        exact Nat.le_of_succ_le h2
    · show b ≠ cenv.locals
      rw [hL]; exact Nat.ne_of_lt (hfp b hb).2
    · have e : cenv.cells.lookup y = some c := e
      rcases mem e with ⟨h1, _⟩ | ⟨h1, _⟩
      · exact (hfp b hb).1.2.2.2.2.1 y c h1 z
      · have h2 : s.heap.objs.size + 1 ≤ b := by rw [← z]; exact h1
        exact absurd (Nat.lt_of_lt_of_le (hfp b hb).2 (Nat.le_of_succ_le h2)) (Nat.lt_irrefl _)
    · rcases (hfp b hb).1.2.2.2.1 with z | z
      · exact I.ok.noex b o e z
      · exact absurd (Nat.lt_of_lt_of_le (Heap.lt_size e) (Nat.le_trans I.ok.bsz z)) (Nat.lt_irrefl _)
    · rcases List.mem_cons.mp (I.stkSub b z) with z | z
      · exact (hfp b hb).1.2.1 z
      · exact (hfp b hb).1.2.2.1 z
  refine ⟨okB, rfl, I.bare, Un.kept kp, ⟨fun _ => none, ?_, fun i y av e1 e2 e3 => ?_⟩, fun y c e => ?_, ?_, fun y c e => ?_, fun p hp => ?_, I.hok.kept kp, by rw [wipe_length]; exact I.len⟩
  · show Heap.Ns _ cenv.locals _
    rw [hL]
    exact Heap.Ns.keeps (Heap.Ns.new ..) fun b o e => pushCells_keeps _ _ _ _ e
  · obtain ⟨e2, hne⟩ := wipe_some e2
    have hfr : scope.names.lookup y = some .free ∧ (cenv.kindOf y = some .cell ∨ cenv.kindOf y = some .free) := by
      have key : ∀ k, cenv.scope.names.lookup y = some k → k = .local ∨ k = .cell ∨ k = .free → scope.names.lookup y = some .free ∧ (cenv.kindOf y = some .cell ∨ cenv.kindOf y = some .free) := fun k hk hk' => by
        have hk0 := hk
        rw [hsc] at hk
        obtain ⟨k', e, r⟩ := lookup_relS hk
        have no : ¬ (k' = .local ∨ k' = .cell) := fun hh => by
          rcases ok.own _ (PySem.mem_of_lookup e) hh with e' | e'
          · obtain ⟨p, hp, hpy⟩ := List.mem_map.mp e'
            have e3 := ok.ix p hp
            have : p.1 = y := hpy
            rw [this] at e3
            exact hne (List.mem_map.mpr ⟨p, hp, nodup_ix hN e3 e1⟩)
          · exact e' (List.mem_of_getElem? e1)
        rcases r with rfl | ⟨rfl, rfl⟩
        · rcases hk' with rfl | rfl | rfl
          · exact absurd (.inl rfl) no
          · exact absurd (.inr rfl) no
          · exact ⟨e, .inr hk0⟩
        · exact ⟨e, .inl hk0⟩
      have e3 : Vis cenv.scope y := e3
      rcases e3 with e3 | e3 | e3
      · exact key _ e3 (.inl rfl)
      · exact key _ e3 (.inr (.inl rfl))
      · exact key _ e3 (.inr (.inr rfl))
    obtain ⟨m, hn, hl⟩ := I.loc
    have hvis : Vis X.env.scope y := (ok.free _ (PySem.mem_of_lookup hfr.1) rfl).elim (fun k => .inr (.inl k)) (fun k => .inr (.inr k))
    obtain ⟨w, r, q⟩ := hl i y av e1 e2 hvis
    refine ⟨w, r, .inr ⟨hfr.2, ?_⟩⟩
    obtain ⟨c, h1, h2⟩ := look hfr.1
    rcases q with ⟨k, _⟩ | ⟨_, c', e', z⟩
    · have k : X.env.scope.names.lookup y = some .local := k
      rcases ok.free _ (PySem.mem_of_lookup hfr.1) rfl with k' | k' <;> rw [show X.env.scope.names.lookup y = _ from k'] at k <;> cases k
    · rw [h2] at e'; cases e'
      exact ⟨c, h1, z.keeps kp⟩
  · have e : cenv.cells.lookup y = some c := e
    rcases mem e with ⟨h1, _⟩ | ⟨_, z⟩
    · obtain ⟨w, z⟩ := I.cell y c h1
      exact ⟨w, z.keeps kp⟩
    · exact ⟨_, z⟩
  · show H cenv.locals = none
    rw [hL]; exact I.hok.fresh (Nat.le_refl _)
  · have e : cenv.cells.lookup y = some c := e
    rcases mem e with ⟨h1, _⟩ | ⟨h1, _⟩
    · exact I.freeC y c h1
    · exact I.hok.fresh (Nat.le_of_succ_le h1)
  · exact absurd (show p ∈ ([] : List (Addr × Obj)) ++ [] from hp) (by simp)

/-- an item appended to a tracked list -/
theorem app_ok {E : Value → Shared → Prop} {D : Addr} {xs : List V} {y : V} {v : Value} {Q : Value → Shared → Prop} (I : Inv X pins σ H s) (hD : H D = some (.lst xs)) (hz : xs.length < sizeLine) (r : RelV y v)
    (h : ∀ s', Inv X pins σ (upd H D (.lst (xs ++ [y]))) s' → Q .none s') : wpAny (model X.prog X.w) X.A (call (.builtin "list.append") [.ref D, v]) Q E s := by
  obtain ⟨hz', its, n, ri, e⟩ := I.hok D _ hD
  have hl := ri.length
  refine append_at (hsz := by rw [List.size_toArray]; omega) e fun h' sb ho' => ?_
  refine h { s with heap := h' } (I.write (t' := s.toks) (by rw [hD]; trivial) (.inl rfl) (fun b u hb q => (sb.2 b hb).trans q) ⟨_, ho'⟩ ⟨by rw [List.length_append]; exact hz, its ++ [v], n + 1, ri.append (.cons r .nil), ?_⟩)
  rw [ho']
  simp

/-- a clause's tests -/
def PTs (X : Cx) (ifs : List Expr) (t : TT) : Prop :=
  ∀ (pins : List (Addr × Obj)) (s : Shared) (σ : St) (H : Hp) (Q : Bool → Hp → Prop), Inv X pins σ H s → t σ H Q →
    wpAny (model X.prog X.w) X.A (forIn ifs true fun c r => if r = true then do let ok ← isTrue c X.env (eval c X.env); pure (ForInStep.yield ok) else pure (ForInStep.yield r)) (TP X pins σ Q) X.xe s
def tYes : TT := fun _ H Q => Q true H
theorem pts_nil : PTs X [] tYes := fun _ _ _ H _ I h => wpAny_tests_nil ⟨H, I, h⟩
theorem pts_one {c : Expr} {t : TT} (h : PT X c t) : PTs X [c] t := fun pins s σ H Q I hw => wpAny_tests_one (h pins s σ H Q I hw)
end

theorem thnF {α : Type} {t : Sem α} {Q Q' : α → Shared → Prop} {M : Model} {A : Around} {E : Value → Shared → Prop} {s : Shared} (h : wpAny M A t Q (fun _ _ => False) s) (hQ : ∀ a s, Q a s → Q' a s) : wpAny M A t Q' E s := wpAny_mono h hQ fun _ _ z => False.elim z

/-- the loop of a list comprehension's block, the target of any form (codeAny_compLoop_tests asks a target that no tuple goes to; statement and proof follow it, PyProof/CompMap.lean:41-61, with the step letOwnedTupleGo kept) -/
theorem compLoop_any {prog : Program} {w : World} {A : Around} {R : Result → Shared → Prop} {s : Shared} {elt target iter : Expr} {ifs : List Expr} {scope : Scope} {pos : Pos} {it acc : Value} {env : Env} (I : Nat → Shared → Prop)
    (turn : ∀ n s, I n s → wpAny (model prog w) A (pyNext it) (fun r s₁ => match r with
      | none => R (.ok .next) s₁
      | some v => wpAny (model prog w) A (letOwnedTupleGo target it v) (fun _ s₁' => wpAny (model prog w) A (assign target env v) (fun _ s₂ =>
          wpAny (model prog w) A (forIn ifs true fun c r => if r = true then do let ok ← isTrue c env (eval c env); pure (ForInStep.yield ok) else pure (ForInStep.yield r)) (fun ok s₃ =>
            if ok = true then wpAny (model prog w) A (eval elt env) (fun x s₄ =>
              wpAny (model prog w) A (call (.builtin "list.append") [acc, x]) (fun _ s₅ => ∃ m, m < n ∧ I m s₅) (notedBy (model prog w) A env fun e s' => R (.error e) s') s₄) (notedBy (model prog w) A env fun e s' => R (.error e) s') s₃
            else ∃ m, m < n ∧ I m s₃) (notedBy (model prog w) A env fun e s' => R (.error e) s') s₂) (notedBy (model prog w) A env fun e s' => R (.error e) s') s₁') (notedBy (model prog w) A env fun e s' => R (.error e) s') s₁) (notedBy (model prog w) A env fun e s' => R (.error e) s') s)
    (n : Nat) (h : I n s) :
    codeAny (model prog w) A (.compLoop (.ListComp elt [⟨target, iter, ifs, 0⟩] scope pos) 0 it acc env) R s := by
  refine codeAny_loop rfl I (fun n s hI => ?_) n h
  show wpAny _ A ((compTurn (.ListComp elt [⟨target, iter, ifs, 0⟩] scope pos) 0 it acc env).onRaise (fun x => do noteFrame x env; theTreesLotGoes x)) _ _ s
  refine wpAny_noted ?_
  rw [compTurn_list]
  refine wpAny_bind (wpAny_standAt (wpAny_bind (wpAny_mono (turn n s hI) (fun r s₁ h₁ => ?_) fun _ _ h' => h')))
  cases r with
  | none => exact wpAny_pure h₁
  | some v =>
    refine wpAny_bind (wpAny_mono h₁ (fun _ s₁' h₁' => ?_) fun _ _ h' => h')
    refine wpAny_bind (wpAny_mono h₁' (fun _ s₂ h₂ => wpAny_bind (wpAny_mono h₂ (fun ok s₃ h₃ => ?_) fun _ _ h' => h')) fun _ _ h' => h')
    cases ok with
    | false => exact wpAny_pure ⟨rfl, h₃⟩
    | true =>
      exact wpAny_bind (wpAny_bind (wpAny_mono h₃ (fun x s₄ h₄ => wpAny_bind (wpAny_mono h₄ (fun _ s₅ h₅ => wpAny_pure (wpAny_pure ⟨rfl, h₅⟩)) fun _ _ h' => h')) fun _ _ h' => h'))

section
variable {X : Cx}
/-- [elt for target in iter if ..]: D the new list; W by the turn and a measure, Nx what a turn is to reach -/
def tLc (wi : TI) (g : TG) (tt : TT) (te : TE) (vs : List Nat) : TE := fun σ H Q => wi σ H fun J H1 => ∀ D, H1 D = none → ∃ W : Nat → Nat → Hp → Prop, (∃ m, W 0 m (upd H1 D (.lst []))) ∧ ∀ i m H, W i m H →
  (J.stop i H ∧ Q (.ref D) H) ∨ (J.go i H ∧ ∃ Nx : Hp → Prop, (∀ H', Nx H' → ∃ m', m' < m ∧ W (i + 1) m' H') ∧ ∀ x H', J.yld i H x H' → g x (wipe σ vs) H' fun σ2 H2 => wipe σ2 vs = wipe σ vs ∧ tt σ2 H2 fun b H3 =>
    if b = true then te σ2 H3 fun y H4 => ∃ acc, H4 D = some (.lst acc) ∧ acc.length < sizeLine ∧ Nx (upd H4 D (.lst (acc ++ [y]))) else Nx H3)
theorem lc_core {pins : List (Addr × Obj)} {s : Shared} {σ : St} {H : Hp} {Q : VK} {elt tg iter : Expr} {ifs : List Expr} {scope : Scope} {own : List (Str × Nat)} {pos pos' : Pos} {wi : TI} {g : TG} {tt : TT} {te : TE} {use : Option (Value → Sem Unit)} {Qf : Value → Shared → Prop}
    (hc : X.calm = true) (hN : X.N.Nodup) (I : Inv X pins σ H s) (hi : PI X tg iter wi) (ok : BlkOk X.N X.env.scope scope own)
    (hg : ∀ (s : Shared) (H : Hp) (C : Addr) (cl : List (Str × Addr)) (fp : List Addr), PG (X.blk s H scope (compEnvC scope cl C X.env) fp) tg g) (ht : ∀ (s : Shared) (H : Hp) (C : Addr) (cl : List (Str × Addr)) (fp : List Addr), PTs (X.blk s H scope (compEnvC scope cl C X.env) fp) ifs tt)
    (he : ∀ (s : Shared) (H : Hp) (C : Addr) (cl : List (Str × Addr)) (fp : List Addr), PE (X.blk s H scope (compEnvC scope cl C X.env) fp) elt te) (hs : ∀ x, foldedSetIterable iter X.env x = pure x)
    (h : tLc wi g tt te (own.map (·.2)) σ H Q)
    (hRR : ∀ D C s' m H', Inv X pins σ H' s' → Q (.ref D) H' → s'.heap.Ns C m → FpOk X pins H' C → compPost (model X.prog X.w) X.A X.xe use Qf (.ref D) C (.ok .next) s') :
    wpAny (model X.prog X.w) X.A (comprehension (.ListComp elt [⟨tg, iter, ifs, 0⟩] scope pos) scope X.env pos' (newList []) false (eval iter X.env) use) Qf X.xe s := by
  have hfree : ∀ y ∈ scope.names, y.2 = .free → ∃ c, X.env.cells.lookup y.1 = some c := fun y hy e => by
    rcases ok.free y hy e with k | k
    · exact I.ok.has _ (.inl k)
    · exact I.ok.has _ (.inr k)
  refine wpAny_comprehension_free (use := use) rfl hs (closure_ok hfree) ok.kind (fun y hy e => by rw [ok.uniq y hy, e])
    (thn (hi pins s σ H _ I h) fun xv s1 hx => thn hx fun itv s2 h2 => ?_)
  obtain ⟨it, fp, tn, J, H2, e, I2, T, st2, f2, q⟩ := h2
  subst e
  refine wpAny_newObj_type (newEnv_comp ?_) (by show 0 ≤ sizeLine; decide)
  generalize hD : s2.heap.objs.size = D
  have hDn : H2 D = none := I2.hok.fresh (Nat.le_of_eq hD)
  obtain ⟨W, ⟨m0, w0⟩, turn⟩ := q D hDn
  -- the new list
  generalize hs3 : ({ s2 with heap := s2.heap.push { cls := .type "list", data := .seq ([] : List Value).toArray } } : Shared) = s3
  have I3 : Inv X pins σ (upd H2 D (.lst [])) s3 := by
    rw [← hs3]
    refine I2.laid (t' := s2.toks) (fun b o e => Heap.get?_push_of_some _ e) (Nat.le_of_eq hD) ⟨Nat.zero_le _, [], 0, .nil, ?_⟩
    rw [← hD]
    exact Heap.get?_push_size _ rfl
  have h3 : s3.heap = s2.heap.push { cls := .type "list", data := .seq ([] : List Value).toArray } := by rw [← hs3]
  have sz : ∀ b ∈ fp, b < s2.heap.objs.size := fun b hb => by
    obtain ⟨o, e, _⟩ := T.obj _ _ st2 b hb
    exact Heap.lt_size e
  have f3 : ∀ b ∈ fp, FpOk X pins (upd H2 D (.lst [])) b ∧ b < s3.heap.objs.size := fun b hb => by
    have hlt := sz b hb
    refine ⟨⟨?_, (f2 b hb).2⟩, by rw [h3, Heap.size_push]; exact Nat.lt_succ_of_lt hlt⟩
    rw [upd_ne (by rw [← hD]; exact Nat.ne_of_lt hlt)]
    exact (f2 b hb).1
  have st3 : tn 0 s3.heap := T.keep _ _ _ st2 fun b _ o e => by rw [h3]; exact Heap.get?_push_of_some _ e
  have I4 := block_start I3 ok hN f3
  have pg := hg s3 (upd H2 D (.lst [])) s3.heap.objs.size (cellsFrom (s3.heap.objs.size + 1) scope.names (cloFrom X.env.cells scope.names [])) fp
  have pt := ht s3 (upd H2 D (.lst [])) s3.heap.objs.size (cellsFrom (s3.heap.objs.size + 1) scope.names (cloFrom X.env.cells scope.names [])) fp
  have pe := he s3 (upd H2 D (.lst [])) s3.heap.objs.size (cellsFrom (s3.heap.objs.size + 1) scope.names (cloFrom X.env.cells scope.names [])) fp
  show codeAny _ _ (.compStart (.ListComp elt [⟨tg, iter, ifs, 0⟩] scope pos) 0 (.ref it) (.ref D) (compEnvC scope (cellsFrom (s3.heap.objs.size + 1) scope.names (cloFrom X.env.cells scope.names [])) s3.heap.objs.size X.env)) (compPost (model X.prog X.w) X.A X.xe use Qf (.ref D) s3.heap.objs.size) { s3 with heap := pushCells (s3.heap.push { cls := .type "dict", data := .dict #[] }) scope.names }
  have nfp : ∀ b ∈ fp, (upd H2 D (.lst [])) b = none := fun b hb => (f3 b hb).1.1
  generalize hce : compEnvC scope (cellsFrom (s3.heap.objs.size + 1) scope.names (cloFrom X.env.cells scope.names [])) s3.heap.objs.size X.env = ce at I4 pg pt pe ⊢
  have cL : ce.locals = s3.heap.objs.size := by subst hce; rfl
  generalize hH3 : upd H2 D (.lst []) = H3 at I3 I4 pg pt pe w0 nfp f3
  generalize hs4 : ({ s3 with heap := pushCells (s3.heap.push { cls := .type "dict", data := .dict #[] }) scope.names } : Shared) = s4 at I4 ⊢
  have st4 : tn 0 s4.heap := T.keep _ _ _ st3 fun b _ o e => by rw [← hs4]; exact pushCells_keeps _ _ _ _ (Heap.get?_push_of_some _ e)
  have stat : ∀ {σ' : St} {H' : Hp} {s' : Shared}, Inv (X.blk s3 H3 scope ce fp) [] σ' H' s' → (∀ b ∈ fp, H' b = none) → ∀ b ∈ fp, FpOk (X.blk s3 H3 scope ce fp) [] H' b := fun {σ' H' s'} I' hn b hb =>
    ⟨hn b hb, (I'.ok.exf b hb).1, I'.ok.exfs b hb, .inl hb, fun x c e => (I'.ok.exf b hb).2 x c e, fun p hp => absurd (show p ∈ ([] : List (Addr × Obj)) ++ [] from hp) (by simp)⟩
  have loop : codeAny (model X.prog X.w) X.A (.compLoop (.ListComp elt [⟨tg, iter, ifs, 0⟩] scope pos) 0 (.ref it) (.ref D) ce) (compPost (model X.prog X.w) X.A X.xe use Qf (.ref D) s3.heap.objs.size) s4 := by
    refine compLoop_any (fun n s' => ∃ i H', Inv (X.blk s3 H3 scope ce fp) [] (wipe σ (own.map (·.2))) H' s' ∧ tn i s'.heap ∧ (∀ b ∈ fp, H' b = none) ∧ W i n H') ?_ m0 ⟨0, H3, I4, st4, nfp, w0⟩
    rintro n s5 ⟨i, H5, I5, st5, n5, w5⟩
    rcases turn i n H5 w5 with ⟨stop, qq⟩ | ⟨go, Nx, hNx, step⟩
    · have td := T.done (X.blk s3 H3 scope ce fp) rfl rfl rfl hc i [] s5 _ H5 (fun _ _ => False) I5 (stat I5 n5) st5 stop
      refine thnF td fun r s6 ⟨hr, I6⟩ => ?_
      subst hr
      -- back in the def's context
      have I7 : Inv X pins σ H5 s6 := I3.call' (ch := fp) I6.os I6.base I6.hok I6.bare fun b hb => ⟨(f3 b hb).1.2.2.2.1, (f3 b hb).1.2.1, (f3 b hb).1.2.2.2.2.1, (f3 b hb).1.2.2.2.2.2⟩
      have nC : H5 s3.heap.objs.size = none := by
        have z : H5 ce.locals = none := I6.free
        rw [cL] at z
        exact z
      obtain ⟨m, hn, _⟩ := I6.loc
      have hn : s6.heap.Ns ce.locals m := hn
      rw [cL] at hn
      exact hRR D s3.heap.objs.size s6 m H5 I7 qq hn (I3.fpOk (Nat.le_refl _) nC)
    · have ti := T.item (X.blk s3 H3 scope ce fp) rfl rfl rfl hc i [] s5 _ H5 (fun _ _ => False) I5 (stat I5 n5) st5 go
      refine thnF ti fun r s6 ⟨u, hr, h6⟩ => ?_
      subst hr
      refine thnF h6 fun _ s7 ⟨x, H7, I7, r7, y7, st7, n7⟩ => ?_
      have I7' := I7.pinned (stat I7 n7) (T.obj _ _ st7)
      refine thnF (pg _ s7 _ H7 x u _ I7' r7 (step x H7 y7)) fun _ s8 ⟨σ8, H8, I8, hw8, q8⟩ => ?_
      refine thnF (pt _ s8 σ8 H8 _ I8 q8) fun b s9 ⟨H9, I9, q9⟩ => ?_
      -- the turn's end
      have fin : ∀ {s' : Shared} {H' : Hp}, Inv (X.blk s3 H3 scope ce fp) ([] ++ pinsAt fp s7.heap) σ8 H' s' → Nx H' → ∃ m, m < n ∧ ∃ i H', Inv (X.blk s3 H3 scope ce fp) [] (wipe σ (own.map (·.2))) H' s' ∧ tn i s'.heap ∧ (∀ b ∈ fp, H' b = none) ∧ W i m H' := fun {s' H'} I' nx => by
        obtain ⟨m', hm, w'⟩ := hNx H' nx
        have pin' : ∀ b ∈ fp, ∀ o, s7.heap.get? b = some o → s'.heap.get? b = some o ∧ H' b = none := fun b hb o e =>
          let z := I'.pin (b, o) (List.mem_append_right _ (List.mem_append_right _ (mem_pinsAt hb e)))
          ⟨z.1, z.2.1⟩
        have hl : (wipe σ (own.map (·.2))).length = σ8.length := by rw [← hw8, wipe_length]
        refine ⟨m', hm, i + 1, H', (I'.unpinned (pins := [])).weak hl (fun j v e => ?_), T.keep _ _ _ st7 fun b hb o e => (pin' b hb o e).1, fun b hb => ?_, w'⟩
        · rw [← hw8] at e
          exact (wipe_some e).1
        · obtain ⟨o, e, _⟩ := T.obj _ _ st7 b hb
          exact (pin' b hb o e).2
      cases b with
      | false =>
        simp only [Bool.false_eq_true, if_false] at q9 ⊢
        exact fin I9 q9
      | true =>
        simp only [if_true] at q9 ⊢
        refine thnF (pe _ s9 σ8 H9 _ I9 q9) fun z s10 ⟨yv, H10, I10, r10, acc, hD10, hz10, nx⟩ => ?_
        exact app_ok (X := X.blk s3 H3 scope ce fp) I10 hD10 hz10 r10 fun s11 I11 => fin I11 nx
  exact codeAny_compStart_list loop (T.self X.A 0 _ _ _ st4 loop)
/-- as a value -/
theorem pe_lc {elt tg iter : Expr} {ifs : List Expr} {scope : Scope} {own : List (Str × Nat)} {pos : Pos} {wi : TI} {g : TG} {tt : TT} {te : TE} (hc : X.calm = true) (hN : X.N.Nodup) (hi : PI X tg iter wi) (ok : BlkOk X.N X.env.scope scope own)
    (hg : ∀ (s : Shared) (H : Hp) (C : Addr) (cl : List (Str × Addr)) (fp : List Addr), PG (X.blk s H scope (compEnvC scope cl C X.env) fp) tg g) (ht : ∀ (s : Shared) (H : Hp) (C : Addr) (cl : List (Str × Addr)) (fp : List Addr), PTs (X.blk s H scope (compEnvC scope cl C X.env) fp) ifs tt)
    (he : ∀ (s : Shared) (H : Hp) (C : Addr) (cl : List (Str × Addr)) (fp : List Addr), PE (X.blk s H scope (compEnvC scope cl C X.env) fp) elt te) (hs : ∀ x, foldedSetIterable iter X.env x = pure x := by intro _; rfl) :
    PE X (.ListComp elt [⟨tg, iter, ifs, 0⟩] scope pos) (tLc wi g tt te (own.map (·.2))) := by
  intro pins s σ H Q I h
  rw [eval_ListComp]
  refine lc_core hc hN I hi ok hg ht he hs h fun D C s' m H' I' q hn f => ⟨m, hn, fun h'' sb => ?_⟩
  obtain ⟨f0, f1, f2, f3, f4, f5⟩ := f
  exact ⟨.ref D, H', I'.turned (t' := s'.toks) (fun b o hb e => (sb.2 b hb).trans e) f0 f1 f3 f4 f5, rfl, q⟩
end

/-! ### the forms one uses -/
/-- over a range: Pv by the turn and the heap (the new list at D within) -/
theorem lc_range {lo : Int} {n : Nat} {g : TG} {tt : TT} {te : TE} {vs : List Nat} {σ : St} {H1 : Hp} {D : Addr} {Qd : Hp → Prop} (Pv : Nat → Hp → Prop) (h0 : Pv 0 (upd H1 D (.lst [])))
    (hs : ∀ i H, i < n → Pv i H → g (.int (lo + i)) (wipe σ vs) H fun σ2 H2 => wipe σ2 vs = wipe σ vs ∧ tt σ2 H2 fun b H3 =>
      if b = true then te σ2 H3 fun y H4 => ∃ acc, H4 D = some (.lst acc) ∧ acc.length < sizeLine ∧ Pv (i + 1) (upd H4 D (.lst (acc ++ [y]))) else Pv (i + 1) H3) (hd : ∀ H, Pv n H → Qd H) :
    ∃ W : Nat → Nat → Hp → Prop, (∃ m, W 0 m (upd H1 D (.lst []))) ∧ ∀ i m H, W i m H →
      ((Itr lo n).stop i H ∧ Qd H) ∨ ((Itr lo n).go i H ∧ ∃ Nx : Hp → Prop, (∀ H', Nx H' → ∃ m', m' < m ∧ W (i + 1) m' H') ∧ ∀ x H', (Itr lo n).yld i H x H' → g x (wipe σ vs) H' fun σ2 H2 => wipe σ2 vs = wipe σ vs ∧ tt σ2 H2 fun b H3 =>
        if b = true then te σ2 H3 fun y H4 => ∃ acc, H4 D = some (.lst acc) ∧ acc.length < sizeLine ∧ Nx (upd H4 D (.lst (acc ++ [y]))) else Nx H3) := by
  refine ⟨fun i m H => m = n - i ∧ i ≤ n ∧ Pv i H, ⟨n, by simp, Nat.zero_le _, h0⟩, ?_⟩
  rintro i m H ⟨rfl, hi, p⟩
  by_cases hlt : i < n
  · refine .inr ⟨hlt, Pv (i + 1), fun H' p' => ⟨n - (i + 1), by omega, rfl, hlt, p'⟩, fun x H' y => ?_⟩
    obtain ⟨e, y⟩ := y
    subst e y
    exact hs i _ hlt p
  · have e : i = n := by omega
    subst e
    exact .inl ⟨Nat.le_refl _, hd H p⟩
/-- over a list that the block leaves as it is -/
theorem lc_list {K : PySem.W.Frag} {a : Addr} {xs : List V} {g : TG} {tt : TT} {te : TE} {vs : List Nat} {σ : St} {H1 : Hp} {D : Addr} {Qd : Hp → Prop} (Pv : Nat → Hp → Prop) (h0 : Pv 0 (upd H1 D (.lst []))) (hl : ∀ i H, i ≤ xs.length → Pv i H → SqL K H a xs)
    (hs : ∀ i x H, xs[i]? = some x → Pv i H → g x (wipe σ vs) H fun σ2 H2 => wipe σ2 vs = wipe σ vs ∧ tt σ2 H2 fun b H3 =>
      if b = true then te σ2 H3 fun y H4 => ∃ acc, H4 D = some (.lst acc) ∧ acc.length < sizeLine ∧ Pv (i + 1) (upd H4 D (.lst (acc ++ [y]))) else Pv (i + 1) H3) (hd : ∀ H, Pv xs.length H → Qd H) :
    ∃ W : Nat → Nat → Hp → Prop, (∃ m, W 0 m (upd H1 D (.lst []))) ∧ ∀ i m H, W i m H →
      ((Itl K a).stop i H ∧ Qd H) ∨ ((Itl K a).go i H ∧ ∃ Nx : Hp → Prop, (∀ H', Nx H' → ∃ m', m' < m ∧ W (i + 1) m' H') ∧ ∀ x H', (Itl K a).yld i H x H' → g x (wipe σ vs) H' fun σ2 H2 => wipe σ2 vs = wipe σ vs ∧ tt σ2 H2 fun b H3 =>
        if b = true then te σ2 H3 fun y H4 => ∃ acc, H4 D = some (.lst acc) ∧ acc.length < sizeLine ∧ Nx (upd H4 D (.lst (acc ++ [y]))) else Nx H3) := by
  refine ⟨fun i m H => m = xs.length - i ∧ i ≤ xs.length ∧ Pv i H, ⟨xs.length, by simp, Nat.zero_le _, h0⟩, ?_⟩
  rintro i m H ⟨rfl, hi, p⟩
  have q := hl i H hi p
  by_cases hlt : i < xs.length
  · refine .inr ⟨⟨xs, xs[i], q, by simp [hlt]⟩, Pv (i + 1), fun H' p' => ⟨xs.length - (i + 1), by omega, rfl, hlt, p'⟩, fun x H' y => ?_⟩
    obtain ⟨e, y⟩ := y
    subst e
    exact hs i x _ (y xs q) p
  · have e : i = xs.length := by omega
    subst e
    exact .inl ⟨⟨xs, q, Nat.le_refl _⟩, hd H p⟩
def blkC (N : List Str) (sc scope : Scope) (own : List (Str × Nat)) : Bool :=
  (match scope.kind with | .function => true | _ => false) && (scope.names.all fun y => decide (scope.names.lookup y.1 = some y.2)) && (own.all fun p => decide (N[p.2]? = some p.1)) &&
    (scope.names.all fun y => match y.2 with
      | .free => (match sc.names.lookup y.1 with | some .cell => true | some .free => true | _ => false)
      | .local => decide (y.1 ∈ own.map (·.1)) || decide (y.1 ∉ N)
      | .cell => decide (y.1 ∈ own.map (·.1)) || decide (y.1 ∉ N)
      | _ => true)
theorem blkOk_by {N : List Str} {sc scope : Scope} {own : List (Str × Nat)} (h : blkC N sc scope own = true) : BlkOk N sc scope own := by
  unfold blkC at h
  simp only [Bool.and_eq_true, List.all_eq_true, decide_eq_true_eq] at h
  obtain ⟨⟨⟨h1, h2⟩, h3⟩, h4⟩ := h
  refine ⟨?_, h2, h3, fun y hy e => ?_, fun y hy e => ?_⟩
  · split at h1
    · assumption
    · cases h1
  · have q := h4 y hy
    simp only [e] at q
    split at q <;> first | exact .inl (by assumption) | exact .inr (by assumption) | cases q
  · have q := h4 y hy
    rcases e with e | e <;> (simp only [e, Bool.or_eq_true, decide_eq_true_eq] at q; exact q)
end L2

namespace L2
open PySem PySem.Spec PyProof.Rows


section
variable {prog : Program} {w : World} {A : Around} {R : Result → Shared → Prop} {s : Shared} {elt t0 i0 t1 i1 : Expr} {ifs0 ifs1 : List Expr} {scope : Scope} {pos : Pos} {it acc : Value} {env : Env}
end

section
variable {X : Cx}
/-- [elt for tg in iter if .. for tg1 in iter1 if ..]: behind the first clause's store and tests the second source's own loop, from which Nx is reached. vs: the block's names; vs1: those of the second target -/
def tLc2 (wi : TI) (g : TG) (tt : TT) (wi1 : TI) (g1 : TG) (tt1 : TT) (te : TE) (vs vs1 : List Nat) : TE := fun σ H Q => wi σ H fun J H1 => ∀ D, H1 D = none → ∃ W : Nat → Nat → Hp → Prop, (∃ m, W 0 m (upd H1 D (.lst []))) ∧ ∀ i m H, W i m H →
  (J.stop i H ∧ Q (.ref D) H) ∨ (J.go i H ∧ ∃ Nx : Hp → Prop, (∀ H', Nx H' → ∃ m', m' < m ∧ W (i + 1) m' H') ∧ ∀ x H', J.yld i H x H' → g x (wipe σ vs) H' fun σ2 H2 => wipe σ2 vs = wipe σ vs ∧ tt σ2 H2 fun b H3 =>
    if b = true then wi1 σ2 H3 fun J1 H4 => ∃ W1 : Nat → Nat → Hp → Prop, (∃ m, W1 0 m H4) ∧ ∀ j k H, W1 j k H →
      (J1.stop j H ∧ Nx H) ∨ (J1.go j H ∧ ∃ Nx1 : Hp → Prop, (∀ H', Nx1 H' → ∃ k', k' < k ∧ W1 (j + 1) k' H') ∧ ∀ x H', J1.yld j H x H' → g1 x (wipe σ2 vs1) H' fun σ3 H5 => wipe σ3 vs1 = wipe σ2 vs1 ∧ tt1 σ3 H5 fun b H6 =>
        if b = true then te σ3 H6 fun y H7 => ∃ acc, H7 D = some (.lst acc) ∧ acc.length < sizeLine ∧ Nx1 (upd H7 D (.lst (acc ++ [y]))) else Nx1 H6)
    else Nx H3)
end
end L2

namespace L2
open PySem PySem.Spec PyProof.Rows

/-! ### lists of pairs as tables -/
section
variable {κ : Type} [DecidableEq κ]
def valV (kvs : List (κ × V)) (k : κ) : Option V := (kvs.find? fun kv => decide (kv.1 = k)).map (·.2)
/-- in its place, or at the end -/
def putK (kvs : List (κ × V)) (k : κ) (v : V) : List (κ × V) :=
  if (kvs.any fun kv => decide (kv.1 = k)) = true then kvs.map (fun kv => if kv.1 = k then (kv.1, v) else kv) else kvs ++ [(k, v)]
def dropK (kvs : List (κ × V)) (k : κ) : List (κ × V) := kvs.filter fun kv => decide (kv.1 ≠ k)

theorem valV_pos {p : κ × V} {r : List (κ × V)} {k : κ} (e : p.1 = k) : valV (p :: r) k = some p.2 := by simp [valV, List.find?_cons, e]
theorem valV_neg {p : κ × V} {r : List (κ × V)} {k : κ} (e : ¬ p.1 = k) : valV (p :: r) k = valV r k := by simp [valV, List.find?_cons, e]
theorem valV_any (k : κ) : ∀ kvs : List (κ × V), (kvs.any fun kv => decide (kv.1 = k)) = (valV kvs k).isSome
  | [] => rfl
  | p :: r => by
    rw [List.any_cons]
    by_cases e : p.1 = k
    · simp only [valV_pos e, decide_eq_true e, Bool.true_or, Option.isSome_some]
    · rw [valV_neg e, decide_eq_false e, Bool.false_or]; exact valV_any k r
theorem valV_map (k j : κ) (y : V) : ∀ kvs : List (κ × V), valV (kvs.map fun kv => if kv.1 = k then (kv.1, y) else kv) j = (valV kvs j).map fun x => if j = k then y else x
  | [] => rfl
  | p :: r => by
    have ih := valV_map k j y r
    rw [List.map_cons]
    by_cases h : p.1 = k
    · rw [if_pos h]
      by_cases e : p.1 = j
      · rw [valV_pos (p := (p.1, y)) e, valV_pos e, Option.map_some, if_pos (e.symm.trans h)]
      · rw [valV_neg (p := (p.1, y)) e, valV_neg e, ih]
    · rw [if_neg h]
      by_cases e : p.1 = j
      · rw [valV_pos (p := p) e, valV_pos e, Option.map_some, if_neg (fun z => h (e.trans z))]
      · rw [valV_neg (p := p) e, valV_neg e, ih]
theorem valV_snoc (k j : κ) (y : V) : ∀ kvs : List (κ × V), valV kvs k = none → valV (kvs ++ [(k, y)]) j = if j = k then some y else valV kvs j
  | [], _ => by
    by_cases e : k = j
    · rw [if_pos e.symm]; exact valV_pos (p := (k, y)) e
    · rw [if_neg (fun z => e z.symm)]; exact valV_neg (p := (k, y)) e
  | p :: r, hn => by
    rw [List.cons_append]
    have hk : ¬ p.1 = k := fun z => by rw [valV_pos z] at hn; cases hn
    rw [valV_neg hk] at hn
    have ih := valV_snoc k j y r hn
    by_cases e : p.1 = j
    · rw [valV_pos e, valV_pos e, if_neg (fun z => hk (e.trans z))]
    · rw [valV_neg e, valV_neg e, ih]
theorem valV_put (kvs : List (κ × V)) (k j : κ) (y : V) : valV (putK kvs k y) j = if j = k then some y else valV kvs j := by
  unfold putK
  by_cases a : (kvs.any fun kv => decide (kv.1 = k)) = true
  · rw [if_pos a, valV_map]
    rw [valV_any] at a
    by_cases e : j = k
    · obtain ⟨x, hx⟩ := Option.isSome_iff_exists.mp a
      rw [if_pos e, e, hx, Option.map_some, if_pos rfl]
    · rw [if_neg e]
      cases valV kvs j with
      | none => rfl
      | some x => rw [Option.map_some, if_neg e]
  · rw [if_neg a]
    refine valV_snoc k j y kvs ?_
    rw [valV_any] at a
    cases q : valV kvs k with
    | none => rfl
    | some x => rw [q] at a; exact (a rfl).elim
theorem length_putK (kvs : List (κ × V)) (k : κ) (v : V) : (putK kvs k v).length ≤ kvs.length + 1 := by
  unfold putK
  split
  · rw [List.length_map]; omega
  · rw [List.length_append, List.length_cons, List.length_nil]; omega

theorem RelO.isSome_eq {o : Option V} {u : Option Value} (r : RelO o u) : o.isSome = u.isSome := by
  cases o with
  | none => cases u with
    | none => rfl
    | some _ => exact (show False from r).elim
  | some _ => cases u with
    | none => exact (show False from r).elim
    | some _ => rfl
theorem RelO.getD {o : Option V} {u : Option Value} {d : V} {d' : Value} (r : RelO o u) (rd : RelV d d') : RelV (o.getD d) (u.getD d') := by
  cases o with
  | none => cases u with
    | none => exact rd
    | some _ => exact (show False from r).elim
  | some _ => cases u with
    | none => exact (show False from r).elim
    | some _ => exact r

/-- raw tables of the same keys -/
theorem KV.val {kvs : List (κ × V)} {vs : List (κ × Value)} (r : KV kvs vs) (k : κ) : RelO (valV kvs k) (valueAt vs k) := by
  unfold KV at r
  induction r with
  | nil => exact True.intro
  | @cons p q ps qs h t ih =>
    obtain ⟨h1, h2⟩ := h
    by_cases e : p.1 = k
    · have e' : q.1 = k := h1.symm.trans e
      have b : valueAt (q :: qs) k = some q.2 := by simp [valueAt, List.find?_cons, e']
      rw [valV_pos e, b]; exact h2
    · have e' : ¬ q.1 = k := fun z => e (h1.trans z)
      have b : valueAt (q :: qs) k = valueAt qs k := by simp [valueAt, List.find?_cons, e']
      rw [valV_neg e, b]; exact ih
theorem KV.any {kvs : List (κ × V)} {vs : List (κ × Value)} (r : KV kvs vs) (k : κ) : (kvs.any fun kv => decide (kv.1 = k)) = vs.any fun kv => decide (kv.1 = k) := by
  unfold KV at r
  induction r with
  | nil => rfl
  | cons h t ih => rw [List.any_cons, List.any_cons, ih, h.1]
theorem KV.repl {kvs : List (κ × V)} {vs : List (κ × Value)} (r : KV kvs vs) (k : κ) {y : V} {u : Value} (ry : RelV y u) :
    KV (kvs.map fun kv => if kv.1 = k then (kv.1, y) else kv) (vs.map fun kv => if kv.1 = k then (kv.1, u) else kv) := by
  unfold KV at r ⊢
  induction r with
  | nil => exact .nil
  | @cons p q ps qs h t ih =>
    rw [List.map_cons, List.map_cons]
    refine .cons ?_ ih
    obtain ⟨h1, h2⟩ := h
    by_cases e : p.1 = k
    · rw [if_pos e, if_pos (h1.symm.trans e)]; exact ⟨h1, ry⟩
    · rw [if_neg e, if_neg (fun z => e (h1.trans z))]; exact ⟨h1, h2⟩
theorem KV.put {kvs : List (κ × V)} {vs : List (κ × Value)} (r : KV kvs vs) (k : κ) {y : V} {u : Value} (ry : RelV y u) : KV (putK kvs k y) (stored vs k u) := by
  unfold putK stored
  rw [r.any k]
  by_cases e : (vs.any fun kv => decide (kv.1 = k)) = true
  · rw [if_pos e, if_pos e]; exact r.repl k ry
  · rw [if_neg e, if_neg e]; exact Paired.snoc r ⟨rfl, ry⟩
theorem KV.length {kvs : List (κ × V)} {vs : List (κ × Value)} (r : KV kvs vs) : kvs.length = vs.length := Paired.length r
end


/-! ### a tracked dict, its keys ints and texts or tuples of these -/
theorem kV_is {P : Program} {w : World} {k : Key} {u : Value} (r : RelV (kV k) u) : (mixKind P w).is k u = true := by
  cases k with
  | inl i => obtain ⟨t, e⟩ := (show ∃ t, u = Value.int i t from r); subst e; exact mixKind_int P w i t
  | inr x => obtain ⟨t, e⟩ := (show ∃ t, u = Value.str x t from r); subst e; exact mixKind_str P w x t
theorem items_are {P : Program} {w : World} : ∀ {ks : List Key} {us : List Value}, Vals (ks.map kV) us → ItemsAre (mixKind P w) ks us
  | [], _, r => by rw [List.map_nil] at r; cases r; exact .nil
  | k :: ks, _, r => by
    rw [List.map_cons] at r
    cases r with
    | cons h t => exact .cons (kV_is h) (items_are t)

/-- raw entries of a dict with tuple keys -/
abbrev KT (H : Hp) : List (List Key × V) → List (List Key × Addr × Value) → Prop := Paired fun p q => p.1 = q.1 ∧ H q.2.1 = some (.tup (p.1.map kV)) ∧ RelV p.2 q.2.2
theorem KT.val {H : Hp} {kvs : List (List Key × V)} {xs : List (List Key × Addr × Value)} (r : KT H kvs xs) (k : List Key) : RelO (valV kvs k) ((atKey xs k).map (·.2)) := by
  induction r with
  | nil => exact True.intro
  | @cons p q ps qs h t ih =>
    obtain ⟨h1, _, h2⟩ := h
    by_cases e : p.1 = k
    · have e' : q.1 = k := h1.symm.trans e
      have b : atKey (q :: qs) k = some q.2 := by simp [atKey, List.find?_cons, e']
      rw [valV_pos e, b]; exact h2
    · have e' : ¬ q.1 = k := fun z => e (h1.trans z)
      have b : atKey (q :: qs) k = atKey qs k := by simp [atKey, List.find?_cons, e']
      rw [valV_neg e, b]; exact ih
theorem KT.repl {H : Hp} {kvs : List (List Key × V)} {xs : List (List Key × Addr × Value)} (r : KT H kvs xs) (k : List Key) {y : V} {u : Value} (ry : RelV y u) :
    KT H (kvs.map fun kv => if kv.1 = k then (kv.1, y) else kv) (xs.map (putAt k u)) := by
  induction r with
  | nil => exact .nil
  | @cons p q ps qs h t ih =>
    rw [List.map_cons, List.map_cons]
    refine .cons ?_ ih
    obtain ⟨h1, h2, h3⟩ := h
    unfold putAt
    by_cases e : p.1 = k
    · rw [if_pos e, if_pos (h1.symm.trans e)]; exact ⟨h1, h2, ry⟩
    · rw [if_neg e, if_neg (fun z => e (h1.trans z))]; exact ⟨h1, h2, h3⟩
theorem KT.put {H : Hp} {kvs : List (List Key × V)} {xs : List (List Key × Addr × Value)} (r : KT H kvs xs) (k : List Key) {b : Addr} {y : V} {u : Value} (hb : H b = some (.tup (k.map kV))) (ry : RelV y u) :
    KT H (putK kvs k y) (storedH xs k b u) := by
  have e : (kvs.any fun kv => decide (kv.1 = k)) = (atKey xs k).isSome := by
    rw [valV_any, (r.val k).isSome_eq, Option.isSome_map]
  unfold putK storedH
  rw [e]
  by_cases q : (atKey xs k).isSome = true
  · rw [if_pos q, if_pos q]; exact r.repl k ry
  · rw [if_neg q, if_neg q]; exact Paired.snoc r ⟨rfl, hb, ry⟩
theorem KT.keeps {H H' : Hp} {kvs : List (List Key × V)} {xs : List (List Key × Addr × Value)} (r : KT H kvs xs) (ht : ∀ b ys, H b = some (.tup ys) → H' b = some (.tup ys)) : KT H' kvs xs :=
  Paired.mapP r fun _ _ z => ⟨z.1, ht _ _ z.2.1, z.2.2⟩

section
variable {P : Program} {w : World} {H : Hp} {h : Heap} {a : Addr}
theorem rd_of {u : HO} (ok : HOk P w H h) (e : Rd H a u) : ObjOk P w H h a u := e.ok ok
theorem dk_rd {kvs : List (Key × V)} (ok : HOk P w H h) (e : Rd H a (.dK kvs)) : kvs.length ≤ sizeLine ∧ (a == sysModules) = false ∧ ∃ vs, KV kvs vs ∧ h.DictOf (mixKind P w) a vs :=
  show ObjOk P w H h a (.dK kvs) from rd_of ok e
theorem dk_of {kvs : List (Key × V)} (ok : HOk P w H h) (e : H a = some (.dK kvs)) : kvs.length ≤ sizeLine ∧ (a == sysModules) = false ∧ ∃ vs, KV kvs vs ∧ h.DictOf (mixKind P w) a vs := dk_rd ok (.inl e)
/-- a tracked tuple of ints and texts is a key -/
theorem key_of {ks : List Key} (ok : HOk P w H h) (e : H a = some (.tup (ks.map kV))) : (tupleKind (mixKind P w)).is h ks a := by
  obtain ⟨_, its, r, o, h1, h2, n, h3⟩ := (show ObjOk P w H h a (.tup (ks.map kV)) from ok a _ e)
  exact ⟨o, its.toArray, n, h1, h2, h3, by simpa using items_are r⟩
theorem dt_rd {kvs : List (List Key × V)} (ok : HOk P w H h) (e : Rd H a (.dT kvs)) : kvs.length ≤ sizeLine ∧ (a == sysModules) = false ∧
    ∃ xs, KT H kvs xs ∧ h.DictOfH (tupleKind (mixKind P w)) a xs := by
  obtain ⟨z, y, xs, r, o, es, ep, h1, h2, h3, h4, h5⟩ := (show ObjOk P w H h a (.dT kvs) from rd_of ok e)
  refine ⟨z, y, xs, r, o, es, ep, h1, h2, h3, h4, fun x hx => ?_, h5⟩
  have all : ∀ {l : List (List Key × V)} {m : List (List Key × Addr × Value)}, KT H l m → ∀ x ∈ m, (tupleKind (mixKind P w)).is h x.1 x.2.1 := by
    intro l m q
    induction q with
    | nil => intro x hx; exact nomatch hx
    | @cons p q ps qs hq t ih =>
      intro x hx
      rcases List.mem_cons.mp hx with e | hx
      · subst e
        exact key_of ok (by rw [← hq.1]; exact hq.2.1)
      · exact ih x hx
  exact all r x hx
theorem dt_of {kvs : List (List Key × V)} (ok : HOk P w H h) (e : H a = some (.dT kvs)) : kvs.length ≤ sizeLine ∧ (a == sysModules) = false ∧
    ∃ xs, KT H kvs xs ∧ h.DictOfH (tupleKind (mixKind P w)) a xs := dt_rd ok (.inl e)
end

/-- what the dict at a holds at the key y -/
def DGet (H : Hp) (a : Addr) (y : V) (r : Option V) : Prop :=
  (∃ kvs k, Rd H a (.dK kvs) ∧ y = kV k ∧ r = valV kvs k) ∨ ∃ kvs k b, Rd H a (.dT kvs) ∧ y = .ref b ∧ H b = some (.tup (k.map kV)) ∧ r = valV kvs k
/-- the heap behind a[y] = v -/
def DPut (H : Hp) (a : Addr) (y v : V) (H' : Hp) : Prop :=
  (∃ kvs k, H a = some (.dK kvs) ∧ y = kV k ∧ kvs.length < sizeLine ∧ H' = upd H a (.dK (putK kvs k v))) ∨
  ∃ kvs k b, H a = some (.dT kvs) ∧ y = .ref b ∧ H b = some (.tup (k.map kV)) ∧ kvs.length < sizeLine ∧ H' = upd H a (.dT (putK kvs k v))
theorem DGet.k {H : Hp} {a : Addr} {kvs : List (Key × V)} {k : Key} (e : H a = some (.dK kvs)) : DGet H a (kV k) (valV kvs k) := .inl ⟨kvs, k, .inl e, rfl, rfl⟩
theorem DPut.k {H : Hp} {a : Addr} {kvs : List (Key × V)} {k : Key} {v : V} (e : H a = some (.dK kvs)) (hl : kvs.length < sizeLine) : DPut H a (kV k) v (upd H a (.dK (putK kvs k v))) := .inl ⟨kvs, k, e, rfl, hl, rfl⟩


section
variable {X : Cx} {pins : List (Addr × Obj)} {σ : St} {H : Hp} {s : Shared} {a : Addr} {y v : V} {u r : Value} {o : Option V} {A : Around} {E : Value → Shared → Prop}

theorem Inv.big (I : Inv X pins σ H s) : sysModules < s.heap.objs.size := by
  have h : mainGlobals < s.heap.objs.size := (I.mod.glob.keeps I.bk).lt
  exact Nat.lt_trans (by decide) h

/-- a dict's object is replaced -/
theorem d_write {h' : Heap} {t' : Nat} {ob : HO} (I : Inv X pins σ H s) (mu : Mut (H a)) (hs : Heap.SameBut a s.heap h') (he : ∃ q, h'.get? a = some q) (new : ObjOk X.prog X.w (upd H a ob) h' a ob) :
    Inv X pins σ (upd H a ob) { s with heap := h', toks := t' } :=
  I.write (x := a) (e := a) mu (.inl rfl) (fun b q hb z => (hs.2 b hb).trans z) he new
theorem dk_new {P : Program} {w : World} {H' : Hp} {h' : Heap} {kvs : List (Key × V)} {vs : List (Key × Value)} (z : kvs.length ≤ sizeLine) (hd : (a == sysModules) = false) (rel : KV kvs vs) (dd : h'.DictOf (mixKind P w) a vs) :
    ObjOk P w H' h' a (.dK kvs) := ⟨z, hd, vs, rel, dd⟩
/-- d[y] = v -/
theorem d_setItem {H' : Hp} {Q : Unit → Shared → Prop} (hu : A.units + 1 < cLine) (I : Inv X pins σ H s) (g : DPut H a y v H') (ry : RelV y u) (rv : RelV v r) (h : ∀ s', Inv X pins σ H' s' → Q () s') :
    wpAny (model X.prog X.w) A (setItem (.ref a) u r) Q E s := by
  rcases g with ⟨kvs, k, e, ey, l, eH⟩ | ⟨kvs, k, b, e, ey, eb, l, eH⟩
  · subst ey eH
    obtain ⟨z, hd, vs, rel, dd⟩ := dk_of I.hok e
    have hz : vs.length ≤ sizeLine := by rw [← rel.length]; exact z
    have hl : (putK kvs k v).length ≤ sizeLine := by have := length_putK kvs k v; omega
    refine wpAny_setItem_pairs (hsz := hz) (kV_is ry) dd fun h' dd' hs => h _ ?_
    have he : ∃ q, h'.get? a = some q := let ⟨q, _, _, hq, _⟩ := dd'; ⟨q, hq⟩
    exact d_write I (by rw [e]; exact True.intro) hs he (dk_new hl hd (rel.put k rv) dd')
  · subst ey eH
    cases (show u = Value.ref b from ry)
    obtain ⟨z, hd, xs, rel, dd⟩ := dt_of I.hok e
    have hz : xs.length ≤ sizeLine := by rw [← Paired.length rel]; exact z
    have hl : (putK kvs k v).length ≤ sizeLine := by have := length_putK kvs k v; omega
    refine wpAny_setItem_heap (hsz := hz) (tupleKind_room_in1 hu) (key_of I.hok eb) dd fun h' dd' hs => h _ ?_
    obtain ⟨q, es, ep, hq, h2, h3, h4, _, h5⟩ := dd'
    refine d_write I (by rw [e]; exact True.intro) hs ⟨q, hq⟩ ⟨hl, hd, _, (rel.put k eb rv).keeps fun c ys ec => ?_, q, es, ep, hq, h2, h3, h4, h5⟩
    rw [upd_ne (ne_of ec e (fun z => nomatch z))]
    exact ec
end

section
variable {X : Cx} {pins : List (Addr × Obj)} {σ : St} {H : Hp} {s : Shared} {a : Addr} {kvs : List (Key × V)} {k : Key} {u : Value} {A : Around} {E : Value → Shared → Prop}
end


/-! ### readings and rules -/
/-- the element of a subscription, not a slice -/
def NoSl (i : Expr) : Prop := ∀ ov iv, subscripted i false ov iv = operate [ov, iv] (getItem ov iv)


/-- d[y] -/
def tDGet (td ty : TE) : TE := fun σ H Q => td σ H fun x H1 => ty σ H1 fun y H2 => ∃ a v, x = .ref a ∧ DGet H2 a y (some v) ∧ Q v H2
/-- y in d, y not in d -/
def tDIn (ty td : TE) : TE := fun σ H Q => ty σ H fun y H1 => td σ H1 fun x H2 => ∃ a o, x = .ref a ∧ DGet H2 a y o ∧ Q (.bl o.isSome) H2
def tDNotIn (ty td : TE) : TE := fun σ H Q => ty σ H fun y H1 => td σ H1 fun x H2 => ∃ a o, x = .ref a ∧ DGet H2 a y o ∧ Q (.bl (!o.isSome)) H2
/-- d[y] = v -/
def sDPut (td ty tv : TE) : TS := fun D σ H => tv σ H fun v H1 => td σ H1 fun x H2 => ty σ H2 fun y H3 => ∃ a H4, x = .ref a ∧ DPut H3 a y v H4 ∧ D.nx σ H4
/-- d[y] op= v -/
def sDAug (td ty tv : TE) (rd : V → V → Hp → VK → Prop) : TS := fun D σ H => td σ H fun x H1 => ty σ H1 fun y H2 => ∃ a v, x = .ref a ∧ DGet H2 a y (some v) ∧
  tv σ H2 fun y2 H3 => rd v y2 H3 fun z H4 => ∃ H5, DPut H4 a y z H5 ∧ D.nx σ H5
/-- del d[y] -/
def sDDel (td ty : TE) : TS := fun D σ H => td σ H fun x H1 => ty σ H1 fun y H2 => ∃ a kvs k, x = .ref a ∧ H2 a = some (.dK kvs) ∧ y = kV k ∧ (valV kvs k).isSome = true ∧ D.nx σ (upd H2 a (.dK (dropK kvs k)))

section
variable {X : Cx} {o i e value : Expr} {pos pos' tpos : Pos} {td ty tv : TE}
theorem ps_dput (hu : X.A.units + 1 < cLine) (ho : PE X o td) (hi : PE X i ty) (hv : PE X value tv) (hs : swapsWith value (some (.Subscript o i pos')) pos.line X.env = pure false) :
    PS X (.Assign [.Subscript o i pos'] value pos) (sDPut td ty tv) := by
  intro pins s σ H D I h
  refine wpAny_Assign_Subscript (thn (hv pins s σ H _ I h) fun r s1 ⟨v, H1, I1, rv, q1⟩ => thn (ho pins s1 σ H1 _ I1 q1) fun u s2 ⟨x, H2, I2, rx, q2⟩ => thn (hi pins s2 σ H2 _ I2 q2) fun iv s3 ⟨y, H3, I3, ry, a, H4, ex, g, q3⟩ => ?_) hs
  subst ex
  obtain rfl : u = Value.ref a := rx
  exact d_setItem hu I3 g ry rv fun s4 I4 => ⟨σ, H4, I4, q3⟩
end


/-! ### displays -/
theorem dk_empty {P : Program} {w : World} {H : Hp} (h : Heap) (hb : sysModules < h.objs.size) : ObjOk P w H (h.push { cls := .type "dict", data := .dict #[] }) h.objs.size (.dK []) :=
  ⟨Nat.zero_le _, beq_eq_false_iff_ne.mpr (Ne.symm (Nat.ne_of_lt hb)), [], .nil, Heap.DictOf.new h⟩
/-- {}, to be a dict of the kind that is wanted -/
def tDNewK : TE := fun _ H Q => ∀ p, H p = none → Q (.ref p) (upd H p (.dK []))
def tDNewT : TE := fun _ H Q => ∀ p, H p = none → Q (.ref p) (upd H p (.dT []))
section
variable {X : Cx} {pos : Pos}
theorem pe_dnewK : PE X (.Dict [] [] pos) tDNewK := fun pins s σ H Q I h =>
  wpAny_Dict_empty ⟨.ref s.heap.objs.size, _, I.laid (a := s.heap.objs.size) (o := .dK []) (t' := s.toks) (fun _ _ q => Heap.get?_push_of_some _ q) (Nat.le_refl _) (dk_empty s.heap I.big), rfl, h _ (I.hok.fresh (Nat.le_refl _))⟩
end

/-- the pairs of a display, from the left -/
def tPairs : List (TE × TE) → St → Hp → (List (V × V) → Hp → Prop) → Prop
  | [], _, H, Q => Q [] H
  | (tk, tv) :: r, σ, H, Q => tk σ H fun x H1 => tv σ H1 fun y H2 => tPairs r σ H2 fun ps H3 => Q ((x, y) :: ps) H3
abbrev VV : List (V × V) → List (Value × Value) → Prop := Paired fun p q => RelV p.1 q.1 ∧ RelV p.2 q.2
def PPs (X : Cx) (pos : Pos) (keys : List (Option Expr)) (values : List Expr) (trs : List (TE × TE)) : Prop :=
  ∀ (pins : List (Addr × Obj)) (s : Shared) (σ : St) (H : Hp) (Q : List (V × V) → Hp → Prop), Inv X pins σ H s → tPairs trs σ H Q →
    wpAny (model X.prog X.w) X.A (evalPairs (pairTrees keys values X.env pos)) (fun vs s' => ∃ ps H', Inv X pins σ H' s' ∧ VV ps vs ∧ Q ps H') X.xe s

def mergeK (kvs more : List (Key × V)) : List (Key × V) := more.foldl (fun acc kv => putK acc kv.1 kv.2) kvs
/-- {k: v, ..} with keys ints and texts; the new dict stands empty while the pairs are made -/
def tDisp (trs : List (TE × TE)) : TE := fun σ H Q => ∀ p, H p = none → tPairs trs σ (upd H p (.dK [])) fun ps H2 => H2 p = some (.dK []) ∧ ∃ kvs : List (Key × V), ps = kvs.map (fun kv => (kV kv.1, kv.2)) ∧ kvs.length ≤ 15 ∧ Q (.ref p) (upd H2 p (.dK (mergeK [] kvs)))


/-! ### methods -/
/-- a method call o.m(e) of a built-in, with one argument: what must be seen of the text -/
structure M1 (X : Cx) (o : Expr) (m : Str) (apos : Pos) (e : Expr) (cpos : Pos) : Prop where
  base : attributeBase o m X.env (eval o X.env) = eval o X.env
  few : ((backTo cpos (starEach [e] X.env)).all (fun x => !x.1) && (backToKw cpos (keywordEach [] X.env)).all (fun x => x.1.isSome)
    && decide (([e] : List Expr).length + ([] : List Keyword).length + (if ([] : List Keyword).isEmpty then 0 else 1) < 30)) = true
  line : (apos.endLine == cpos.line) = true
  trees : backTo cpos (starEach [e] X.env) = [(false, eval e X.env)]
structure M2 (X : Cx) (o : Expr) (m : Str) (apos : Pos) (e f : Expr) (cpos : Pos) : Prop where
  base : attributeBase o m X.env (eval o X.env) = eval o X.env
  few : ((backTo cpos (starEach [e, f] X.env)).all (fun x => !x.1) && (backToKw cpos (keywordEach [] X.env)).all (fun x => x.1.isSome)
    && decide (([e, f] : List Expr).length + ([] : List Keyword).length + (if ([] : List Keyword).isEmpty then 0 else 1) < 30)) = true
  line : (apos.endLine == cpos.line) = true
  trees : backTo cpos (starEach [e, f] X.env) = [(false, eval e X.env), (false, eval f X.env)]

/-- a is a dict, whatever its keys -/
def IsD (H : Hp) (a : Addr) : Prop := (∃ kvs, Rd H a (.dK kvs)) ∨ ∃ kvs, Rd H a (.dT kvs)
theorem isD_at {X : Cx} {pins : List (Addr × Obj)} {σ : St} {H : Hp} {s : Shared} {a : Addr} (I : Inv X pins σ H s) (d : IsD H a) :
    s.TypeIs (.ref a) "dict" ∧ (∀ b, Value.ref a = .ref b → ∃ ob, s.heap.get? b = some ob ∧ ob.dict = none) ∧ (a == sysModules) = false := by
  rcases d with ⟨kvs, e⟩ | ⟨kvs, e⟩
  · obtain ⟨_, hd, vs, _, dd⟩ := dk_rd I.hok e
    refine ⟨dd.typeIs, fun b q => ?_, hd⟩
    cases q
    obtain ⟨ob, _, _, h1, h2, _⟩ := dd
    exact ⟨ob, h1, h2.2.1⟩
  · obtain ⟨_, hd, xs, _, dd⟩ := dt_rd I.hok e
    refine ⟨dd.typeIs, fun b q => ?_, hd⟩
    cases q
    obtain ⟨ob, _, _, h1, h2, _⟩ := dd
    exact ⟨ob, h1, h2.2.1⟩

section
variable {X : Cx} {pins : List (Addr × Obj)} {σ : St} {H : Hp} {s : Shared} {a : Addr} {y d : V} {u r : Value} {o : Option V} {A : Around} {E : Value → Shared → Prop}
/-- d.get(y, x) -/
theorem d_get2 {Q : Value → Shared → Prop} (hu : A.units + 1 < cLine) (I : Inv X pins σ H s) (g : DGet H a y o) (ry : RelV y u) (rd : RelV d r) (h : ∀ w' s', Inv X pins σ H s' → RelV (o.getD d) w' → Q w' s') :
    wpAny (model X.prog X.w) A (call (.builtin "dict.get") [.ref a, u, r]) Q E s := by
  rcases g with ⟨kvs, k, e, ey, l⟩ | ⟨kvs, k, b, e, ey, eb, l⟩
  · subst ey
    obtain ⟨z, hd, vs, rel, dd⟩ := dk_rd I.hok e
    refine call_meetsIn PySem.F.slot_dict_get dd.typeIs PySem.F.entry_dict_get (PySem.F.args_dict_get_3 _ _ _) (meets_dict_get_default (mixKind X.prog X.w) a (kV_is ry) hd r) ⟨_, dd.mapOf, h _ _ (I.tok _) ?_⟩
    rw [l]
    exact (rel.val k).getD rd
  · subst ey
    cases (show u = Value.ref b from ry)
    obtain ⟨z, hd, xs, rel, dd⟩ := dt_rd I.hok e
    refine call_meetsIn PySem.F.slot_dict_get dd.typeIs PySem.F.entry_dict_get (PySem.F.args_dict_get_3 _ _ _) (meetsH_dict_get_default (tupleKind (mixKind X.prog X.w)) a b hd r) ⟨tupleKind_room_in1 hu, k, xs, key_of I.hok eb, dd, h _ _ (I.tok _) ?_⟩
    rw [l]
    exact (rel.val k).getD rd
end

def tDGet1 (td ty : TE) : TE := fun σ H Q => td σ H fun x H1 => ∃ a, x = .ref a ∧ IsD H1 a ∧ ty σ H1 fun y H2 => ∃ o, DGet H2 a y o ∧ Q (o.getD .non) H2
def tDGet2 (td ty tx : TE) : TE := fun σ H Q => td σ H fun x H1 => ∃ a, x = .ref a ∧ IsD H1 a ∧ ty σ H1 fun y H2 => tx σ H2 fun z H3 => ∃ o, DGet H3 a y o ∧ Q (o.getD z) H3
/-- d.pop(k): there; d.pop(k, x): there or not -/
def tDPop1 (td ty : TE) : TE := fun σ H Q => td σ H fun x H1 => ∃ a, x = .ref a ∧ IsD H1 a ∧ ty σ H1 fun y H2 => ∃ kvs k v, H2 a = some (.dK kvs) ∧ y = kV k ∧ valV kvs k = some v ∧ Q v (upd H2 a (.dK (dropK kvs k)))
def tDPop2 (td ty tx : TE) : TE := fun σ H Q => td σ H fun x H1 => ∃ a, x = .ref a ∧ IsD H1 a ∧ ty σ H1 fun y H2 => tx σ H2 fun z H3 => ∃ kvs k, H3 a = some (.dK kvs) ∧ y = kV k ∧
  (∀ v, valV kvs k = some v → Q v (upd H3 a (.dK (dropK kvs k)))) ∧ (valV kvs k = none → Q z H3)
section
variable {X : Cx} {o e f : Expr} {apos cpos : Pos} {td ty tx : TE}
theorem pe_dget2 (hu : X.A.units + 1 < cLine) (ho : PE X o td) (he : PE X e ty) (hf : PE X f tx) (m : M2 X o "get" apos e f cpos) : PE X (.Call (.Attribute o "get" apos) [e, f] [] cpos) (tDGet2 td ty tx) := by
  intro pins s σ H Q I h
  refine wpAny_Call_method m.base m.few m.line PySem.F.plainAttrs_dict PySem.F.slot_dict_get PySem.F.type_dict_get (thn (ho pins s σ H _ I h) fun u s1 ⟨x, H1, I1, rx, a, ex, d, q1⟩ => ?_)
  subst ex
  obtain rfl : u = Value.ref a := rx
  obtain ⟨t1, t2, _⟩ := isD_at I1 d
  refine ⟨t1, t2, ?_⟩
  rw [m.trees]
  refine Calls.callWith_builtin rfl (Calls.evalArgs_plain (Calls.spliced_cons (thn (he pins s1 σ H1 _ I1 q1) fun iv s2 ⟨y, H2, I2, ry, q2⟩ =>
    Calls.spliced_cons (thn (hf pins s2 σ H2 _ I2 q2) fun fv s3 ⟨z, H3, I3, rz, ov, g, q3⟩ => Calls.spliced_nil ?_))))
  exact d_get2 hu I3 g ry rz fun w' s4 I4 rw' => ⟨_, H3, I4, rw', q3⟩
end

/-! ### dict(d): a copy -/
section
variable {X : Cx} {pins : List (Addr × Obj)} {σ : St} {H : Hp} {s : Shared} {a : Addr} {kvs : List (Key × V)} {A : Around} {E : Value → Shared → Prop}
end


section
variable {X : Cx} {pins : List (Addr × Obj)} {σ : St} {H : Hp} {s : Shared} {a : Addr} {y : V} {u : Value} {A : Around} {E : Value → Shared → Prop}
end
end L2

namespace L2
open PySem PySem.Spec PyProof.Rows


section
variable {prog : Program} {w : World} {A : Around} {E : Value → Shared → Prop}


end

section
variable {X : Cx}
end
end L2

namespace L2
open PySem PySem.Spec PyProof.Rows


section
variable {X : Cx} {pins : List (Addr × Obj)} {σ : St} {H : Hp} {s : Shared} {h' : Heap}
/-- .. and one new object is laid -/
theorem Inv.turnedNew {t' : Nat} {ch : List Addr} {T : Addr} {ob : HO} (I : Inv X pins σ H s) (k : ∀ b o, b ∉ ch → s.heap.get? b = some o → h'.get? b = some o) (hf : ∀ b ∈ ch, FpOk X pins H b) (hT : s.heap.objs.size ≤ T)
    (new : ObjOk X.prog X.w (upd H T ob) h' T ob) : Inv X pins σ (upd H T ob) { s with heap := h', toks := t' } := by
  have hn : H T = none := I.hok.fresh hT
  have nit : ∀ b u, H b = some u → b ∉ ch := fun b u e z => by
    have q := (hf b z).1
    rw [q] at e; cases e
  refine I.step (g' := s.gens) (d' := s.drawn) (ch := ch) (fun b hb => ⟨(hf b hb).2.2.2.1, (hf b hb).2.1, (hf b hb).2.2.2.2.1, (hf b hb).2.2.2.2.2⟩) (fun b o _ _ hc e _ => k b o hc e) (fun b o _ _ hc e _ => ⟨o.slots, k b o hc e⟩)
    (fun b o _ e n => ?_) (fun b o hc e => ⟨o, k b o hc e⟩) (fun b xs e => ?_) (fun b o u e => ?_) (fun b ps e => ⟨#[], ?_⟩) (fun m hm => ?_) (fun b u e => ?_) I.bare
  · rw [upd_ne (Nat.ne_of_lt (Nat.lt_of_lt_of_le (Heap.lt_size e) hT))]; exact n
  · rw [upd_ne (ne_of_none e hn)]; exact e
  · rw [upd_ne (ne_of_none e hn)]; exact e
  · rw [upd_ne (ne_of_none e hn), e]; simp
  · obtain ⟨o, es, ep, ho, r⟩ := hm
    exact ⟨o, es, ep, k _ o (fun z => (hf _ z).2.1 rfl) ho, r⟩
  · by_cases hb : b = T
    · subst hb
      rw [upd_same] at e
      cases e
      exact new
    · rw [upd_ne hb] at e
      refine (I.hok b u e).stay (fun c v hc q => k c v ?_ q) (fun c q => by rw [upd_ne (ne_of_none q hn)]; exact q) fun c xs q => by rw [upd_ne (ne_of_none q hn)]; exact q
      rcases hc with z | z
      · rw [z]; exact nit b u e
      · exact nit c _ z

/-! ### locking a thing while a statement runs -/
end
/-- the statement runs while the thing at d is locked (read, not written); d and what stands there are the reading's choice -/
def tLock (t : TS) : TS := fun D σ H => ∃ d u, H d = some u ∧ Mut (some u) ∧ ∀ od, t ⟨fun σ' H' => H' d = some (.frz od u) ∧ D.nx σ' (upd H' d u), fun v H' => H' d = some (.frz od u) ∧ D.rt v (upd H' d u), fun σ' H' => H' d = some (.frz od u) ∧ D.bk σ' (upd H' d u), fun σ' H' => H' d = some (.frz od u) ∧ D.ct σ' (upd H' d u)⟩ σ (upd H d (.frz od u))
def tLockE (t : TE) : TE := fun σ H Q => ∃ d u, H d = some u ∧ Mut (some u) ∧ ∀ od, t σ (upd H d (.frz od u)) fun v H' => H' d = some (.frz od u) ∧ Q v (upd H' d u)
section
variable {X : Cx}

/-! ### one iterator just laid -/
end

/-! ### range with a step -/
/-- lo, lo + c, .. (n of them) -/
def Itc (lo c : Int) (n : Nat) : It := ⟨fun i _ => i < n, fun i H x H' => H' = H ∧ x = .int (lo + (i : Nat) * c), fun i _ => n ≤ i⟩
/-- range(i, j, c): small bounds, n items -/
def RgC (i j c : Int) (n : Nat) : Prop := c ≠ 0 ∧ c.natAbs < 1073741824 ∧ Builtin.Range.small i j c = true ∧ Builtin.Range.rangeSize i j c = n
def iRng3 (ta : TA) : TI := fun σ H R => ta σ H fun vs H1 => ∃ (i j c : Int) (n : Nat), vs = [.int i, .int j, .int c] ∧ RgC i j c n ∧ R (Itc i c n) H1
section
variable {X : Cx} {tg : Expr}
end

/-! ### reversed(list) -/
/-- the list at a (n items at the start, which the loop leaves there), from its end -/
def Itv (K : PySem.W.Frag) (a : Addr) (n : Nat) : It :=
  ⟨fun i H => i < n ∧ ∃ (xs : List V) (x : V), SqL K H a xs ∧ xs[n - 1 - i]? = some x, fun i H x H' => H' = H ∧ ∀ xs, SqL K H a xs → xs[n - 1 - i]? = some x, fun i _ => n ≤ i⟩
def iRev (K : PySem.W.Frag) (ta : TA) : TI := fun σ H R => ta σ H fun vs H1 => ∃ (a : Addr) (xs : List V), vs = [.ref a] ∧ SqL K H1 a xs ∧ R (Itv K a xs.length) H1
section
variable {X : Cx} {tg : Expr}
end

/-! ### a str -/
def Its (x : Str) : It := ⟨fun i _ => i < x.cps.size, fun i H v H' => H' = H ∧ ∃ c, x.cps[i]? = some c ∧ v = .str ⟨#[c]⟩, fun i _ => x.cps.size ≤ i⟩
def iStr (te : TE) : TI := fun σ H R => te σ H fun v H1 => ∃ x, v = .str x ∧ R (Its x) H1

/-! ### a dict's keys: any dict's entries -/
section
variable {prog : Program} {w : World} {A : Around} {E : Value → Shared → Prop} {s : Shared}
end

/-! ### a locked dict -/
section
variable {X : Cx} {pins : List (Addr × Obj)} {σ : St} {H : Hp} {s : Shared} {d : Addr} {o : Obj}
end

/-- the keys of the locked dict at d, in their order -/
def Itk (d : Addr) (o : Obj) (kvs : List (Key × V)) : It :=
  ⟨fun i H => H d = some (.frz o (.dK kvs)) ∧ i < kvs.length, fun i H x H' => H' = H ∧ ∃ k v, kvs[i]? = some (k, v) ∧ x = kV k, fun i H => H d = some (.frz o (.dK kvs)) ∧ kvs.length ≤ i⟩
/-- .. of tuple keys: the key's own tuple -/
def Itkt (d : Addr) (o : Obj) (kvs : List (List Key × V)) : It :=
  ⟨fun i H => H d = some (.frz o (.dT kvs)) ∧ i < kvs.length, fun i H x H' => H' = H ∧ ∃ (k : List Key) (v : V) (q : Addr), kvs[i]? = some (k, v) ∧ x = .ref q ∧ H q = some (.tup (k.map kV)), fun i H => H d = some (.frz o (.dT kvs)) ∧ kvs.length ≤ i⟩
/-- the values -/
def Itd (d : Addr) (o : Obj) (kvs : List (Key × V)) : It :=
  ⟨fun i H => H d = some (.frz o (.dK kvs)) ∧ i < kvs.length, fun i H x H' => H' = H ∧ ∃ k, kvs[i]? = some (k, x), fun i H => H d = some (.frz o (.dK kvs)) ∧ kvs.length ≤ i⟩
/-- the pairs, each a new tuple -/
def Iti (d : Addr) (o : Obj) (kvs : List (Key × V)) : It :=
  ⟨fun i H => H d = some (.frz o (.dK kvs)) ∧ i < kvs.length, fun i H x H' => ∃ T k v, kvs[i]? = some (k, v) ∧ x = .ref T ∧ H T = none ∧ H' = upd H T (.tup [kV k, v]), fun i H => H d = some (.frz o (.dK kvs)) ∧ kvs.length ≤ i⟩
section
variable {P : Program} {w : World} {K : PySem.W.Frag} {tg : Expr} {d : Addr} {o : Obj} {es : Array DictEntry} {ep : Nat}
end

/-! ### for k in d, d.keys(), d.values(), d.items() -/
/-- the dict is locked (tLock, or by the caller) -/
def iKeys (td : TE) : TI := fun σ H R => td σ H fun x H1 => ∃ d o, x = .ref d ∧ ((∃ kvs, H1 d = some (.frz o (.dK kvs)) ∧ R (Itk d o kvs) H1) ∨ ∃ kvs, H1 d = some (.frz o (.dT kvs)) ∧ R (Itkt d o kvs) H1)
def iVals (td : TE) : TI := fun σ H R => td σ H fun x H1 => ∃ d o kvs, x = .ref d ∧ H1 d = some (.frz o (.dK kvs)) ∧ R (Itd d o kvs) H1
def iItems (td : TE) : TI := fun σ H R => td σ H fun x H1 => ∃ d o kvs, x = .ref d ∧ H1 d = some (.frz o (.dK kvs)) ∧ R (Iti d o kvs) H1
def iKeysM (td : TE) : TI := fun σ H R => td σ H fun x H1 => ∃ d o kvs, x = .ref d ∧ H1 d = some (.frz o (.dK kvs)) ∧ R (Itk d o kvs) H1
section
variable {X : Cx} {tg e : Expr} {td : TE} {apos cpos : Pos}
end

/-! ### enumerate(list) -/
/-- the list at a as it stands at each turn, each item in a new pair -/
def Ite (K : PySem.W.Frag) (a : Addr) : It :=
  ⟨fun i H => ∃ (xs : List V) (x : V), SqL K H a xs ∧ xs[i]? = some x, fun i H v H' => ∃ T x, v = .ref T ∧ H T = none ∧ H' = upd H T (.tup [.int (i : Nat), x]) ∧ ∀ xs, SqL K H a xs → xs[i]? = some x, fun i H => ∃ xs : List V, SqL K H a xs ∧ xs.length ≤ i⟩
theorem turn_enum {P : Program} {w : World} {K : PySem.W.Frag} {elts : List Expr} {kk : Nat} {tpos : Pos} (a e it : Addr) :
    Turn P w K (.Tuple elts kk tpos) (Ite K a) [e, it] e (fun i h => (∃ old, IsEnum h e it ((i : Nat) : Int) old) ∧ h.IsListIter it a i ∧ e ≠ it) where
  mem := by simp
  obj := fun i h st b hb => by
    obtain ⟨⟨old, he⟩, ⟨o, ho, hc, hd⟩, _⟩ := st
    have e' : b = e ∨ b = it := by simpa using hb
    rcases e' with z | z
    · rw [z]; exact ⟨_, he, fun v q => nomatch q⟩
    · rw [z]; exact ⟨o, ho, fun v q => by rw [hd] at q; cases q⟩
  keep := fun i h h' st k => let ⟨⟨old, he⟩, hi, hne⟩ := st; ⟨⟨old, k e (by simp) _ he⟩, hi.at fun o q => k it (by simp) o q, hne⟩
  item := by
    intro X hP hw hK hc i pins s σ H E I hf st hg
    subst hP hw hK
    obtain ⟨⟨old, he⟩, hit, hne⟩ := st
    obtain ⟨xs, x, hq, hx⟩ := hg
    obtain ⟨its, rv, p, hz⟩ := I.list hq
    obtain ⟨u, hu, ru⟩ := rv.get hx
    have hel : e < s.heap.objs.size := Heap.lt_size he
    have hil : it < s.heap.objs.size := by obtain ⟨_, q, _⟩ := hit; exact Heap.lt_size q
    refine wpAny_pyNext_enum_item he hit p.isList (x := u) (by simpa using hu) hne fun h' ho hit' hT hsz hk => ?_
    refine ⟨_, rfl, wpAny_letOwnedTupleGo_enum (s := { s with heap := h', toks := s.toks + 1 }) ho fun h'' he' sb => ?_⟩
    have hT2 : h''.get? s.heap.objs.size = some { cls := .type "tuple", data := .seq #[.int i s.toks, u] } := (sb.2 _ (Nat.ne_of_gt hel)).trans hT
    have new : ObjOk X.prog X.w (upd H s.heap.objs.size (.tup [.int (i : Nat), x])) h'' s.heap.objs.size (.tup [.int (i : Nat), x]) :=
      ⟨by show 2 ≤ sizeLine; decide, [.int i s.toks, u], .cons ⟨_, rfl⟩ (.cons ru .nil), ⟨_, hT2, rfl, _, rfl⟩⟩
    have I1 : Inv X pins σ (upd H s.heap.objs.size (.tup [.int (i : Nat), x])) { s with heap := h'', toks := s.toks + 1 } :=
      I.turnedNew (ch := [e, it]) (fun b ob hb q => (sb.2 b (fun z => hb (by simp [z]))).trans (hk b ob (fun z => hb (by simp [z])) (fun z => hb (by simp [z])) q)) hf (Nat.le_refl _) new
    refine ⟨.ref s.heap.objs.size, _, I1, rfl, ⟨_, x, rfl, I.hok.fresh (Nat.le_refl _), rfl, fun ys hy => by rw [I.list_inj hy hq]; exact hx⟩, ⟨⟨u, ?_⟩, hit'.at fun o q => (sb.2 it (Ne.symm hne)).trans q, hne⟩, fun b hb => ?_⟩
    · have e1 : ((i + 1 : Nat) : Int) = (i : Int) + 1 := by omega
      rw [e1]; exact he'
    · have hb' : b < s.heap.objs.size := by
        have e' : b = e ∨ b = it := by simpa using hb
        rcases e' with z | z
        · rw [z]; exact hel
        · rw [z]; exact hil
      rw [upd_ne (Nat.ne_of_lt hb')]
      exact (hf b hb).1
  done := by
    intro X hP hw hK hc i pins s σ H E I hf st hg
    subst hP hw hK
    obtain ⟨⟨old, he⟩, hit, hne⟩ := st
    obtain ⟨xs, hq, hx⟩ := hg
    obtain ⟨its, rv, p, hz⟩ := I.list hq
    obtain ⟨f0, f1, f2, f3, f4, f5⟩ := hf it (by simp)
    have hl := rv.length
    exact wpAny_pyNext_enum_end (I.ok.hd hc) he hit p.isList (by simp; omega) fun h' eb => ⟨rfl, I.turned (t' := s.toks) (fun b o hb q => eb b o hb q) f0 f1 f3 f4 f5⟩
  self := fun A i s Q E st h => let ⟨⟨_, he⟩, _⟩ := st; wpAny_pyIter_enum he h
def iEnum (K : PySem.W.Frag) (ta : TA) : TI := fun σ H R => ta σ H fun vs H1 => ∃ a xs, vs = [.ref a] ∧ SqL K H1 a xs ∧ R (Ite K a) H1
theorem pi_enum {X : Cx} {e : Expr} {ta : TA} {p pos tpos : Pos} {elts : List Expr} {kk : Nat} (hg : Gl X "enumerate") (hm : X.mg "enumerate" = none) (ha : PA X [e] ta) (hs : starEach [e] X.env = [(false, eval e X.env)] := by rfl) :
    PI X (.Tuple elts kk tpos) (.Call (.Name "enumerate" p) [e] [] pos) (iEnum X.K ta) := by
  intro pins s σ H R I h
  refine Call_ (ld_blt I hg hm boot_enumerate (PyProof.Rows.callWith_type1 (thn (ha pos pins s σ H _ I h) fun us s1 ⟨vs, H1, I1, r1, q1⟩ => ?_) hs rfl))
  obtain ⟨a, xs, ex, hq, q⟩ := q1
  subst ex
  cases r1 with
  | cons r rr =>
    cases rr
    cases r
    obtain ⟨its, rv, p', hz⟩ := I1.list hq
    refine call_enumerate_list p'.isList fun h' he hit hsz hk => wpAny_pyIter_enum he ?_
    have I2 : Inv X pins σ H1 { s1 with heap := h' } := I1.kept (t' := s1.toks) hk
    refine ⟨s1.heap.objs.size + 1, [s1.heap.objs.size + 1, s1.heap.objs.size], _, _, H1, rfl, I2, turn_enum a (s1.heap.objs.size + 1) s1.heap.objs.size, ⟨⟨.none, he⟩, hit, Nat.succ_ne_self _⟩, fun b hb => ?_, q⟩
    have e' : b = s1.heap.objs.size + 1 ∨ b = s1.heap.objs.size := by simpa using hb
    have hle : s1.heap.objs.size ≤ b := by
      rcases e' with z | z
      · rw [z]; exact Nat.le_add_right _ _
      · rw [z]; exact Nat.le_refl _
    exact I1.fpOk hle (I1.hok.fresh hle)
/-! ### zip(list, list) -/
/-- the lists at a and b as they stand at each turn, the items in new pairs -/
def Itz (K : PySem.W.Frag) (a b : Addr) : It :=
  ⟨fun i H => ∃ (xs ys : List V) (x y : V), SqL K H a xs ∧ SqL K H b ys ∧ xs[i]? = some x ∧ ys[i]? = some y,
    fun i H v H' => ∃ T x y, v = .ref T ∧ H T = none ∧ H' = upd H T (.tup [x, y]) ∧ (∀ xs, SqL K H a xs → xs[i]? = some x) ∧ ∀ ys, SqL K H b ys → ys[i]? = some y,
    fun i H => ∃ xs ys : List V, SqL K H a xs ∧ SqL K H b ys ∧ (xs.length ≤ i ∨ ys.length ≤ i)⟩
def iZip (K : PySem.W.Frag) (ta : TA) : TI := fun σ H R => ta σ H fun vs H1 => ∃ a b xs ys, vs = [.ref a, .ref b] ∧ SqL K H1 a xs ∧ SqL K H1 b ys ∧ R (Itz K a b) H1
end L2

section 
namespace Bits
open PySem PyProof.Rows








end Bits
end 

section 
namespace TL
open PySem PySem.Builtin PySem.Builtin.Str PySem.StrLaws

abbrev tl (x : Str) : List Nat := x.cps.toList

/-! ### the list functions -/
/-- S stands at the head of l -/
def pre (S l : List Nat) : Bool := l.take S.length == S
/-- l cut at each S from the left; k signs are still to be passed over -/
def spl (S : List Nat) : Nat → List Nat → List Nat → List (List Nat)
  | _, acc, [] => [acc]
  | 0, acc, c :: r => if pre S (c :: r) = true then acc :: spl S (S.length - 1) [] r else spl S 0 (acc ++ [c]) r
  | k + 1, acc, _ :: r => spl S k acc r
/-- what stands before the first S, and behind it -/
def par (S : List Nat) : List Nat → List Nat → Option (List Nat × List Nat)
  | _, [] => none
  | acc, c :: r => if pre S (c :: r) = true then some (acc, (c :: r).drop S.length) else par S (acc ++ [c]) r




/-! ### the model's split and partition are these -/




/-! ### computing spl and par -/

/-- joined lists -/
def joinL (S : List Nat) : List (List Nat) → List Nat
  | [] => []
  | [p] => p
  | p :: q :: r => p ++ (S ++ joinL S (q :: r))

/-! ### digits -/
/-- the signs of a number -/
def numL (n : Nat) : List Nat := (Nat.toDigits 10 n).map Char.toNat

/-! ### words: x.split() -/
def wstep (st : List (List Nat) × List Nat) (c : Nat) : List (List Nat) × List Nat :=
  if Unicode.isSpace c = true then (if st.2 = [] then st else (st.1 ++ [st.2], [])) else (st.1, st.2 ++ [c])
def wfin (st : List (List Nat) × List Nat) : List (List Nat) := if st.2 = [] then st.1 else st.1 ++ [st.2]
end TL
end 

namespace L2
open PySem PySem.Spec PyProof.Rows



/-- a new list of texts, tracked -/
def rNewStrs (ys : List Str) : Hp → VK → Prop := fun H Q => ∀ p, H p = none → Q (.ref p) (upd H p (.lst (ys.map V.str)))

section
variable {X : Cx} {pins : List (Addr × Obj)} {σ : St} {H : Hp} {s : Shared} {Q : VK}
end

section
variable {X : Cx}





/-! ### of a text alone -/

/-! ### of a text and a text -/

end

section
variable {X : Cx} {o e : Expr} {to te : TE}
def tM0 (r : V → List V → Hp → VK → Prop) (to : TE) : TE := fun σ H Q => to σ H fun x H1 => (∃ a, x = .str a) ∧ r x [] H1 Q
def tM1 (r : V → List V → Hp → VK → Prop) (to te : TE) : TE := fun σ H Q => to σ H fun x H1 => (∃ a, x = .str a) ∧ te σ H1 fun y H2 => r x [y] H2 Q

end
end L2

namespace L2
open PySem PySem.Spec PyProof.Rows

section
variable {X : Cx}
end

/-! ### slices of a text -/

/-- a part, clipped, as the text's slice reckons it -/
def clipS (n d : Nat) : Option Int → Int
  | none => (d : Int)
  | some i => max 0 (min (if i < 0 then i + (n : Int) else i) (n : Int))

/-- z[lo:hi] -/
def cutS (z : Str) (lo hi : Option Int) : Str :=
  ⟨((z.cps.toList.drop (HT.sIx z.length 0 lo)).take (HT.sIx z.length z.length hi - HT.sIx z.length 0 lo)).toArray⟩
def rSlS : V → Option Int → Option Int → Hp → VK → Prop := fun x lo hi H Q => ∃ z, x = .str z ∧ z.length ≤ sizeLine ∧ Q (.str (cutS z lo hi)) H
end L2

namespace Att
open PySem PySem.W PySem.Calls PyProof.Rows

/-! ### the script -/
theorem ints_of_wellAll {P : Params} {h : Heap} : ∀ (ns : List Int) (vs : List Value), WellAll P h vs (ns.map WData.int) → IntsAre vs ns := by
  intro ns
  induction ns with
  | nil =>
    intro vs w
    rw [List.map_nil] at w
    cases w
    exact .nil
  | cons n ns ih =>
    intro vs w
    rw [List.map_cons] at w
    cases w with
    | cons a b =>
      cases a
      exact .cons _ _ (ih _ b)



/-! ### the attachment: holds_open's last premise (the goal 'hc' behind k_head) from a wpAny of the law's body -/



/-! ### rules over ANY heap (no ledger) from facts about the written part K: the library's own take a ledger (News) for what they write -/
section
variable {prog : Program} {w : World} {A : Around} {E : Value → Shared → Prop} {s : Shared} {K : Frag}





/-! the whole heap as the ledger: makes every rule that writes through a ledger a rule over any heap -/
def noObjs (h : Heap) : Heap := { h with objs := #[] }
def ledger (h : Heap) (L d : Addr) : List (Addr × Obj) := (List.range h.objs.size).filterMap fun a => if a = L ∨ a = d then none else (h.get? a).map fun o => (a, o)

end
end Att

namespace L2
open PySem PySem.Spec PyProof.Rows

theorem vals_ints : ∀ {vs : List Value} {ns : List Int}, IntsAre vs ns → Vals (ns.map V.int) vs
  | _, _, .nil => .nil
  | _, _, .cons n t h => .cons ⟨t, rfl⟩ (vals_ints h)

/-- nothing is tracked but the script, known to the object (or it is an object of the module) -/
def Only (H : Hp) : Prop := ∀ b, H b = none ∨ ∃ o xs, H b = some (.frz o (.lst xs))

end L2

namespace L2
open PySem PySem.Spec PyProof.Rows

abbrev KOf {K : PySem.W.Frag} {h : Heap} (_ : K.In h) : PySem.W.Frag := K

end L2

/- THE LAST THEOREM (shape; LID, My.* are yours):
   My.Adr: a structure of the addresses that your layer names (classes, functions); My.Txt K t: a structure (Prop) of the equations over K;
   My.txt_mk : {K} {implicit addresses ..} (e1 : nsIn K mainGlobals "law" = some (some (.ref f))) (e2 : K.lookup f = some ⟨oc, od, .func (fnOf "law" "law" params body scope dV kV doc pm an cdv ct), sl⟩) (e3 : codeIn K cdv "law" = true) .. : ∃ t, My.Txt K t

set_option maxRecDepth 100000 in
set_option maxHeartbeats 0 in
theorem PySem.Challenge.cw_LID_holds : PySem.Challenge.rw_LID.Holds := by
  w_on; o_law; k_head; (case hw => w_witness2)
  k_fill
  refine L2.walk_of (l := PySem.Challenge.rw_LID) (n := 63) (k := 40) (x := "script") (CX := fun w => ..) (sp := fun _ => My.sp_law) rfl (by decide) rfl ⟨rfl, by decide, by decide⟩ (fun w h Y => PySem.W.kIn_of Y) ?F ?S ?C
  case F =>
    intro w mg fa h KX G hmg
    have T : ∃ t, My.Txt (L2.KOf KX) t := by
      dsimp only [L2.KOf]                          -- K must stand as «<heap const> w.params» for k_is
      refine' My.txt_mk ?e1 ?e2 ?e3 ..
      (case e1 => PySem.W.k_is)                    -- in the order: a name -> its address -> its object -> its parts
      (case e2 => PySem.W.k_is)
      ..
    obtain ⟨t, T⟩ := T
    have e0 := hmg.symm.trans (PySem.W.mg_of KX G T.law)
    cases e0                                       -- fa is the law's own address
    exact ⟨_, fun s u => .of_eq rfl, fun base kb nb => My.law_fn T kb nb⟩     -- if «.of_eq rfl» comes too early: refine' ⟨_, ?b, fun base kb nb => My.law_fn T kb nb⟩; exact fun s u => .of_eq rfl
  case S => exact fun w H a ns hl hO hS => ..
  case C => exact ..
(the tactic k_is has no namespace: write k_is) -/

/-! SHORT WORDS over the layer: a def of the text, its body, what a loop and a test want. -/
namespace L2
open PySem PySem.Spec PyProof.Rows

/-! ### the text by places -/
/-- the j-th statement of a class's body -/
def inClass (s : Stmt) (j : Nat) : Stmt := match s with
  | .ClassDef _ _ _ body _ _ _ _ _ _ _ => body.getD j (.Pass ⟨0, 0, 0, 0⟩)
  | _ => .Pass ⟨0, 0, 0, 0⟩
def defArgs (s : Stmt) : Arguments := match s with
  | .FunctionDef _ a _ _ _ _ _ _ _ _ => a
  | _ => { posonlyargs := [], args := [], vararg := none, kwonlyargs := [], kw_defaults := [], kwarg := none, defaults := [] }
def defBody (s : Stmt) : List Stmt := match s with
  | .FunctionDef _ _ b _ _ _ _ _ _ _ => b
  | _ => []
def defScope (s : Stmt) : Scope := match s with
  | .FunctionDef _ _ _ _ _ _ sc _ _ _ => sc
  | _ => { kind := .function, names := [], isGenerator := false, isCoroutine := false }

/-! ### no exception leaves a def -/
abbrev CX0 : CXT := fun _ _ _ _ _ _ => False
abbrev E0 : XK := fun _ _ _ => False
theorem pass0 {X : Cx} : Passes CX0 X E0 := fun _ _ _ _ _ _ _ h => h.elim

/-! ### a def (or method) of the text as it stands behind the top -/
structure Fun (K : PySem.W.Frag) (x qual : Str) (st : Stmt) (f : Addr) (fd : FuncData) : Prop where
  ex : ∃ (oc : Value) (od : Option Addr) (kV doc pm : Value) (an : Option Addr) (cdv ct : Value) (osl : Array (Option Value)),
    fd = PySem.W.fnOf x qual (defArgs st) (defBody st) (defScope st) .none kV doc pm an cdv ct ∧ K.lookup f = some ⟨oc, od, .func fd, osl⟩ ∧ PySem.W.codeIn K cdv qual = true
  kp : PySem.W.keepIn K (.ref f) = true
section
variable {P : Program} {w : World} {K : PySem.W.Frag} {mg : Str → Option Value} {base : Heap}
/-- THE RULE for a def: its body as a term of rules, and the reading of that term -/
theorem Fun.ok {x qual : Str} {st : Stmt} {f : Addr} {fd : FuncData} {N ps : List Str} {k : Nat} {sp : Sp} (F : Fun K x qual st f fd) (S : FnScope N ps (defScope st)) (len : ∀ vs H Q E, sp vs H Q E → vs.length = ps.length)
    (hbody : ∀ (cdv : Value) (A : Around) (outer : List Env) (s : Shared) (H : Hp) (vs : List V) (Q : VK) (E : XK), Room k (A.deeper (envOfC qual (defScope st) s.heap.objs.size f cdv)) → sp vs H Q E →
      ∃ t, PSs (cxOf CX0 P w K mg base N qual (defScope st) f cdv A outer s H E).nox (defBody st) t ∧ t { nx := fun _ H' => Q .non H', rt := Q } (start N vs) H) : FnOk P w K mg base CX0 (k + 1) f fd ps sp := by
  obtain ⟨oc, od, kV, doc, pm, an, cdv, ct, osl, rfl, lk, hcd⟩ := F.ex
  refine fn_of lk hcd S len fun A outer s H vs Q E hr hsp => ?_
  obtain ⟨t, h, q⟩ := hbody cdv A outer s H vs Q E hr hsp
  exact ⟨t, h.nox, q⟩
/-- how its arguments bind (no defaults): h is «fun _ _ _ _ _ _ us hl => match us, hl with | [_, _], _ => rfl», one _ a parameter -/
theorem Fun.binds {x qual : Str} {st : Stmt} {f : Addr} {fd : FuncData} {ps : List Str} (F : Fun K x qual st f fd)
    (h : ∀ (kV doc pm : Value) (an : Option Addr) (cdv ct : Value) (us : List Value), us.length = ps.length → bindArgs (PySem.W.fnOf x qual (defArgs st) (defBody st) (defScope st) .none kV doc pm an cdv ct) ⟨us, []⟩ = pure (ps.zip us)) : Binds K fd ps [] := by
  obtain ⟨oc, od, kV, doc, pm, an, cdv, ct, osl, rfl, lk, hcd⟩ := F.ex
  exact .all (h kV doc pm an cdv ct)
theorem fun_mk {x qual : Str} {st : Stmt} {f : Addr} {oc : Value} {od an : Option Addr} {osl : Array (Option Value)} {kV doc pm cdv ct : Value} (l : K.lookup f = some ⟨oc, od, .func (PySem.W.fnOf x qual (defArgs st) (defBody st) (defScope st) .none kV doc pm an cdv ct), osl⟩)
    (c : PySem.W.codeIn K cdv qual = true) (k : PySem.W.keepIn K (.ref f) = true) : Fun K x qual st f (PySem.W.fnOf x qual (defArgs st) (defBody st) (defScope st) .none kV doc pm an cdv ct) := ⟨⟨oc, od, kV, doc, pm, an, cdv, ct, osl, rfl, l, c⟩, k⟩
end
theorem hu_of {A : Around} {k : Nat} (hr : Room k A) : A.units + 1 < cLine := Nat.lt_of_le_of_lt (Nat.add_le_add_left (by decide : 1 ≤ 64) _) hr.units

/-! ### expressions in short: the name that stands in the i-th slot -/
section
variable {X : Cx}
theorem pv (i : Nat) {x : Str} {pos : Pos} (hN : X.N[i]? = some x := by rfl) (hv : Vis X.env.scope x := by first | exact Or.inl rfl | exact Or.inr (Or.inl rfl) | exact Or.inr (Or.inr rfl)) (hd : (x == ("__debug__" : Str)) = false := by decide)
    (hcd : (x == ("__classdict__" : Str)) = false := by decide) : PE X (.Name x pos) (tVar i) := pe_var hN hv hd hcd
end

/-! ### tests -/
theorem iteF {A B : Prop} (h : B) : if false = true then A else B := by
  rw [if_neg Bool.false_ne_true]
  exact h
theorem iteT {A B : Prop} (h : A) : if true = true then A else B := by
  rw [if_pos rfl]
  exact h
theorem ite2 {c A B : Prop} [Decidable c] (h1 : c → A) (h2 : ¬ c → B) : if c then A else B := by
  by_cases h : c
  · rw [if_pos h]
    exact h1 h
  · rw [if_neg h]
    exact h2 h

/-! ### heaps -/
/-- all that was tracked is as it was -/
def Same (H H' : Hp) : Prop := ∀ b o, H b = some o → H' b = some o
theorem Same.refl (H : Hp) : Same H H := fun _ _ h => h
theorem Same.trans {H H1 H2 : Hp} (a : Same H H1) (b : Same H1 H2) : Same H H2 := fun c o h => b c o (a c o h)
theorem Same.free {H H' : Hp} (e : Same H H') {l : Addr} (h : H' l = Option.none) : H l = Option.none := by
  cases q : H l with
  | none => rfl
  | some o =>
    rw [e l o q] at h
    cases h
theorem Same.seq {K : PySem.W.Frag} {H H' : Hp} {a : Addr} {xs : List V} (e : Same H H') (h : SqL K H a xs) : SqL K H' a xs := by
  rcases h with (h | ⟨o, h⟩) | h
  · exact .inl (.inl (e _ _ h))
  · exact .inl (.inr ⟨o, e _ _ h⟩)
  · exact .inr h

/-! ### a dict's pairs: keys that differ -/
section
variable {κ : Type} [DecidableEq κ]
end
/-! ### lists -/
end L2
/-! THE ENTRY: a promise of the hand layer, of a def that is held against a function of plain Lean -/
namespace L2
open PySem PySem.Spec PyProof.Rows
/-- an argument as it is handed in -/
inductive Arg where
  | int (z : Int)
  | lst (ns : List Int)
def Arg.w : Arg → PySem.W.WData
  | .int z => .int z
  | .lst ns => .list (ns.map .int)
/-- the arguments as they stand in a heap -/
inductive ArgsAt (h : Heap) : List Arg → List Value → List V → Prop
  | nil : ArgsAt h [] [] []
  | int {z : Int} {t : Tok} {as us vs} (r : ArgsAt h as us vs) : ArgsAt h (.int z :: as) (.int z t :: us) (.int z :: vs)
  | lst {ns : List Int} {a : Addr} {its : List Value} {as us vs} (ho : h.get? a = some { cls := .type "list", data := .seq its.toArray }) (hi : IntsAre its ns) (r : ArgsAt h as us vs) :
      ArgsAt h (.lst ns :: as) (.ref a :: us) (.ref a :: vs)
/-- the arguments as the layer tells them -/
inductive ArgsIn (K : PySem.W.Frag) (H : Hp) : List Arg → List V → Prop
  | nil : ArgsIn K H [] []
  | int {z : Int} {as vs} (r : ArgsIn K H as vs) : ArgsIn K H (.int z :: as) (.int z :: vs)
  | lst {ns : List Int} {a : Addr} {as vs} (h : SqL K H a (ns.map V.int)) (r : ArgsIn K H as vs) : ArgsIn K H (.lst ns :: as) (.ref a :: vs)
theorem ArgsAt.of_well {P : Params} {h : Heap} : ∀ {as : List Arg} {us : List Value}, PySem.W.WellAll P h us (as.map Arg.w) → ∃ vs, ArgsAt h as us vs
  | [], us, q => by
    cases q
    exact ⟨_, .nil⟩
  | .int z :: as, us, q => by
    have q' : PySem.W.WellAll P h us (.int z :: as.map Arg.w) := q
    cases q' with
    | cons a b =>
      cases a
      obtain ⟨vs, r⟩ := ArgsAt.of_well b
      exact ⟨_, .int r⟩
  | .lst ns :: as, us, q => by
    have q' : PySem.W.WellAll P h us (.list (ns.map .int) :: as.map Arg.w) := q
    cases q' with
    | cons a b =>
      obtain ⟨vs, r⟩ := ArgsAt.of_well b
      cases a with
      | list ho hall => exact ⟨_, .lst ho (Att.ints_of_wellAll ns _ hall) r⟩
theorem ArgsAt.vals {h : Heap} : ∀ {as : List Arg} {us : List Value} {vs : List V}, ArgsAt h as us vs → Vals vs us
  | _, _, _, .nil => .nil
  | _, _, _, .int r => .cons ⟨_, rfl⟩ r.vals
  | _, _, _, .lst _ _ r => .cons rfl r.vals
/-- the lists among them -/
def ListAt (h : Heap) (a : Addr) : Prop := ∃ (its : List Value) (ns : List Int), h.get? a = some { cls := .type "list", data := .seq its.toArray } ∧ IntsAre its ns ∧ ns.length ≤ sizeLine
def refs : List V → List Addr := fun vs => vs.filterMap fun v => match v with
  | .ref a => some a
  | _ => none
theorem ArgsAt.lists {h : Heap} : ∀ {as : List Arg} {us : List Value} {vs : List V}, ArgsAt h as us vs → (∀ ns, Arg.lst ns ∈ as → ns.length ≤ sizeLine) → ∀ a ∈ refs vs, ListAt h a
  | _, _, _, .nil, _, a, ha => by simp [refs] at ha
  | _, _, _, .int r, hl, a, ha => ArgsAt.lists r (fun ns hn => hl ns (List.mem_cons_of_mem _ hn)) a (by simpa [refs] using ha)
  | _, _, _, .lst (ns := ns) (a := b) (vs := vs) ho hi r, hl, a, ha => by
    have ha' : a = b ∨ a ∈ refs vs := by simpa [refs] using ha
    rcases ha' with e | ha'
    · subst e
      exact ⟨_, ns, ho, hi, hl ns (List.mem_cons_self ..)⟩
    · exact ArgsAt.lists r (fun ns hn => hl ns (List.mem_cons_of_mem _ hn)) a ha'
def absL (us : List Value) : List V := us.filterMap absV
theorem absL_of : ∀ {xs : List V} {us : List Value}, Vals xs us → absL us = xs
  | _, _, .nil => rfl
  | _, _, .cons r t => by
    unfold absL
    rw [List.filterMap_cons, r.abs]
    exact congrArg _ (absL_of t)
/-- what is tracked at the entry: the lists that were handed in, known to the object -/
def hIn (K : PySem.W.Frag) (h : Heap) (S : List Addr) : Hp := fun b => if b ∈ S ∧ K.lookup b = none then (match h.get? b with
  | some o => (match o.data with
    | .seq its _ => some (.frz o (.lst (absL its.toList)))
    | _ => none)
  | none => none) else none
theorem hIn_at {K : PySem.W.Frag} {h : Heap} {S : List Addr} {b : Addr} {its : List Value} {ns : List Int} (hb : b ∈ S) (hk : K.lookup b = none) (ho : h.get? b = some { cls := .type "list", data := .seq its.toArray }) (hi : IntsAre its ns) :
    hIn K h S b = some (.frz { cls := .type "list", data := .seq its.toArray } (.lst (ns.map V.int))) := by
  unfold hIn
  rw [if_pos ⟨hb, hk⟩, ho]
  have e : absL its = ns.map V.int := absL_of (vals_ints hi)
  show some (HO.frz _ (.lst (absL its.toArray.toList))) = _
  rw [show its.toArray.toList = its from rfl, e]
theorem hIn_some {K : PySem.W.Frag} {h : Heap} {S : List Addr} {b : Addr} {u : HO} (hS : ∀ a ∈ S, ListAt h a) (e : hIn K h S b = some u) :
    ∃ (its : List Value) (ns : List Int), b ∈ S ∧ K.lookup b = none ∧ h.get? b = some { cls := .type "list", data := .seq its.toArray } ∧ IntsAre its ns ∧ ns.length ≤ sizeLine ∧ u = .frz { cls := .type "list", data := .seq its.toArray } (.lst (ns.map V.int)) := by
  by_cases q : b ∈ S ∧ K.lookup b = none
  · obtain ⟨its, ns, ho, hi, hl⟩ := hS b q.1
    rw [hIn_at q.1 q.2 ho hi] at e
    exact ⟨its, ns, q.1, q.2, ho, hi, hl, (Option.some.inj e).symm⟩
  · unfold hIn at e
    rw [if_neg q] at e
    cases e
theorem ArgsAt.told {K : PySem.W.Frag} {h : Heap} (KX : K.In h) {S : List Addr} : ∀ {as : List Arg} {us : List Value} {vs : List V}, ArgsAt h as us vs → (∀ ns, Arg.lst ns ∈ as → ns.length ≤ sizeLine) → (∀ a ∈ refs vs, a ∈ S) → ArgsIn K (hIn K h S) as vs
  | _, _, _, .nil, _, _ => .nil
  | _, _, _, .int r, hl, hS => .int (ArgsAt.told KX r (fun ns hn => hl ns (List.mem_cons_of_mem _ hn)) fun a ha => hS a (by simpa [refs] using ha))
  | _, _, _, .lst (ns := ns) (a := b) (its := its) ho hi r, hl, hS => by
    refine .lst ?_ (ArgsAt.told KX r (fun ns hn => hl ns (List.mem_cons_of_mem _ hn)) fun a ha => hS a (by simp only [refs, List.filterMap_cons]; exact List.mem_cons_of_mem _ ha))
    have hb : b ∈ S := hS b (by simp [refs])
    cases hk : K.lookup b with
    | none => exact .inl (.inr ⟨_, hIn_at hb hk ho hi⟩)
    | some o =>
      have e := KX b o hk
      rw [ho] at e
      cases e
      exact .inr ⟨_, its.toArray, _, hk, rfl, rfl, rfl, by rw [List.size_toArray, hi.length]; exact hl ns (List.mem_cons_self ..), by simpa using vals_ints hi⟩
theorem reads_ints {R : PySem.W.WRecords} {cl : Str → Option Addr} {h : Heap} : ∀ {us : List Value} {ns : List Int}, IntsAre us ns → PySem.W.ReadsAllW R cl h us (ns.map .int) []
  | _, _, .nil => .nil
  | _, _, .cons n t r => PySem.W.ReadsAllW.cons (as := []) (bs := []) (.int n t) (reads_ints r)
/-- the answer: a list of whole numbers -/
def Told (ys : List Int) : VK := fun v H' => ∃ p, v = .ref p ∧ Rd H' p (.lst (ys.map V.int))
theorem spec_call {P : Program} {w : World} {K : PySem.W.Frag} {mg mb : Str → Option Value} {CX : CXT} {k : Nat} {fa : Addr} {fd : FuncData} {ps : List Str} {sp : Sp} {s₁ : Shared} {as : List Arg} {us : List Value} {vs : List V} {ys : List Int}
    (KX : K.In s₁.heap) (hns : s₁.heap.Ns mainGlobals mg) (hb : s₁.heap.Ns builtinsNs mb) (hbb : ∀ x : Str, x ≠ "__name__" → mb x = bootBuiltins x) (hlim : s₁.heap.NoLimit) (hg : s₁.gens = #[])
    (ha : ArgsAt s₁.heap as us vs) (hl : ∀ ns, Arg.lst ns ∈ as → ns.length ≤ sizeLine) (hr : Room k callerA)
    (F : ∀ base : Heap, K.In base → base.Ns mainGlobals mg → FnOk P w K mg base CX k fa fd ps sp) (hbind : Binds K fd ps [])
    (hsp : ∀ H : Hp, Only H → ArgsIn K H as vs → sp vs H (Told ys) fun _ _ _ => False)
    (hCX : ∀ H e s', CX [] H s₁ (fun _ _ _ => False) e s' → False) :
    codeAny (model P w) callerA (.call (.ref fa) ⟨us, []⟩) (fun r s' => (∃ (p : Addr) (its : List Value) (n : Nat), r = .ok (.ret (.ref p)) ∧ s'.heap.get? p = some { cls := .type "list", data := .seq its.toArray n } ∧ IntsAre its ys) ∧ OldK s₁.heap s'.heap ∧ s'.os = s₁.os ∧ AllBare s'.gens) s₁ := by
  have hS := ha.lists hl
  generalize hSd : refs vs = S at hS
  have hO : Only (hIn K s₁.heap S) := fun b => by
    cases e : hIn K s₁.heap S b with
    | none => exact .inl rfl
    | some u =>
      obtain ⟨its, ns, _, _, _, _, _, rfl⟩ := hIn_some hS e
      exact .inr ⟨_, _, rfl⟩
  have hA : ArgsIn K (hIn K s₁.heap S) as vs := ha.told KX hl fun a q => by rw [← hSd]; exact q
  generalize hH : hIn K s₁.heap S = H at hO hA
  have sm : ∀ b u, H b = some u → ∃ (its : List Value) (ns : List Int), K.lookup b = none ∧ s₁.heap.get? b = some { cls := .type "list", data := .seq its.toArray } ∧ IntsAre its ns ∧ ns.length ≤ sizeLine ∧ u = .frz { cls := .type "list", data := .seq its.toArray } (.lst (ns.map V.int)) := fun b u e => by
    rw [← hH] at e
    obtain ⟨its, ns, _, q⟩ := hIn_some hS e
    exact ⟨its, ns, q⟩
  have hok : HOk P w H s₁.heap := fun b u e => by
    obtain ⟨its, ns, _, ho, hi, hn, rfl⟩ := sm b u e
    exact ⟨ho, by rw [List.length_map]; exact hn, its, _, vals_ints hi, ho⟩
  have base_of : ∀ {b : Addr} {o : Obj}, s₁.heap.get? b = some o → H b = none → (hidT s₁.heap H).get? b = some o := fun e n => hidT_get e n
  have noA : ∀ {b : Addr} {o : Obj} {es : Array DictEntry} {ep : Nat}, s₁.heap.get? b = some o → o.data = .dict es ep → H b = none := fun {b o es ep} e d => by
    cases q : H b with
    | none => rfl
    | some u =>
      obtain ⟨its, ns, _, ho, _⟩ := sm b u q
      rw [ho] at e; cases e
      have d' : Data.seq its.toArray _ = Data.dict es ep := d
      cases d'
  have nsK : ∀ {b : Addr} {m : Str → Option Value}, s₁.heap.Ns b m → (hidT s₁.heap H).Ns b m := fun {b m} ⟨o, es, ep, e, d, r⟩ => ⟨o, es, ep, base_of e (noA e d), d, r⟩
  have hKb : K.In (hidT s₁.heap H) := fun b o e => base_of (KX b o e) (by
    cases q : H b with
    | none => rfl
    | some u =>
      obtain ⟨its, ns, hk, _⟩ := sm b u q
      rw [hk] at e; cases e)
  have hM : Mod K mg (hidT s₁.heap H) := ⟨hKb, nsK hns, ⟨mb, nsK hb, hbb⟩, let ⟨mc, h1, h2⟩ := hlim; ⟨mc, nsK h1, h2⟩⟩
  have e0 : Env0 P w K mg (hidT s₁.heap H) callerA [] s₁ H := ⟨rfl, hM, fun b o e => of_hidT e, Nat.le_of_eq (hidT_size _ _), trivial, fun b hb => absurd (show b ∈ ([] : List Addr) from hb) (by simp), hok, .of_eq hg⟩
  have FF := F _ hKb (nsK hns)
  have hsp' := hsp H hO hA
  have hlen : us.length = ps.length := by rw [← ha.vals.length]; exact FF.len _ _ _ _ hsp'
  have hbd : BindsTo s₁ fd ⟨us, []⟩ (ps.zip us) := by
    have q := hbind s₁ us KX (by rw [List.append_nil]; exact hlen)
    rw [List.append_nil] at q
    exact q
  refine codeAny_mono (FF.run callerA [] s₁ H ⟨us, []⟩ us vs _ _ hr e0 hbd ha.vals hsp') fun r s' h => ?_
  cases r with
  | error e => exact (hCX H e s' h).elim
  | ok fl =>
    cases fl with
    | next => exact False.elim h
    | brk => exact False.elim h
    | cont => exact False.elim h
    | ret u =>
      obtain ⟨v, H', os, bare, un, hok', r', p, ev, hp⟩ := h
      subst ev
      obtain rfl : u = Value.ref p := r'
      obtain ⟨_, its, n, rv, ho⟩ := hp.ok hok'
      refine ⟨⟨p, its, n, rfl, ho, rv.ints⟩, OldK.of_keep fun b o e => ?_, os, bare⟩
      cases q : H b with
      | none => exact un.keep b o e q (by intro z; exact absurd (show b ∈ ([] : List Addr) from z) (by simp)) (by simp)
      | some u =>
        rcases hO b with z | ⟨ob, xs, z⟩
        · rw [q] at z; cases z
        · have z2 := un.frzs b ob _ z
          obtain ⟨e1, _⟩ := hok b _ z
          obtain ⟨e2, _⟩ := hok' b _ z2
          rw [e] at e1; cases e1
          exact e2
/-- the goal that k_headS leaves (case hc), from the def's promise -/
theorem walk_spec {r : PySem.W.OpenSpec} {k : Nat} {q : Program} {loose : List Str} {XP : (Str → Option Value) → Heap → Prop} {YP : World → Heap → Prop} {d : DefRec} {K : Params → PySem.W.Frag} {ps : List Str} {sp : PySem.W.Frag → Sp}
    (Pa : List Arg → Prop) (due : List Arg → List Int)
    (hargs : ∀ args, r.pre args = true → ∃ as, args = as.map Arg.w ∧ Pa as ∧ r.post args (.list ((due as).map PySem.W.WData.int)) = true)
    (hlen : ∀ as, Pa as → ∀ ns, Arg.lst ns ∈ as → ns.length ≤ sizeLine) (hr : Room k callerA)
    (hY : ∀ (w : World) (h : Heap), YP w h → (K w.params).In h)
    (F : ∀ (w : World) (mg : Str → Option Value) (fa : Addr) (h : Heap), (K w.params).In h → h.Ns mainGlobals mg → mg d.name = some (.ref fa) →
      ∃ fd : FuncData, Binds (K w.params) fd ps [] ∧ ∀ base : Heap, (K w.params).In base → base.Ns mainGlobals mg → FnOk r.prog w (K w.params) mg base CX0 k fa fd ps (sp (K w.params)))
    (hsp : ∀ (K : PySem.W.Frag) (H : Hp) (as : List Arg) (vs : List V), Pa as → Only H → ArgsIn K H as vs → sp K vs H (Told (due as)) fun _ _ _ => False) :
    PySem.W.WalkOS q loose XP YP r d [] (fun f vs => PySem.call f vs) := by
  intro w s₀ s₁ mg mb G Y fa o pm cd doc dV kV ho hd hcd hD hmg hg args vals as hpre hlay hrd hwl hlo
  have KX := hY w _ Y
  obtain ⟨fd, hb, hF⟩ := F w mg fa _ KX G.T.g hmg
  obtain ⟨as', rfl, hP, hpost⟩ := hargs args hpre
  obtain ⟨vs, ha⟩ := ArgsAt.of_well hwl
  refine PySem.W.enter_call (codeAny_mono (spec_call KX G.T.g G.T.b G.T.builtins G.T.nolimit hg ha (hlen as' hP) hr hF hb (fun H hO hS => hsp _ H as' vs hP hO hS) fun _ _ _ z => z) fun rr s' hq => ?_)
  obtain ⟨⟨p, its, n, rfl, hp, hi⟩, h2, h3, h4⟩ := hq
  exact ⟨.inl ⟨.ref p, .list ((due as').map .int), [p], rfl, fun _ => rfl, .list hp rfl rfl (by simpa using reads_ints hi), hpost, fun z => by cases z⟩, h2, h3, h4⟩
end L2
namespace L2
open PySem PySem.W
def dueT (f : List Int → List Int) : List Arg → List Int
  | [.lst ns] => f ns
  | _ => []
/-- one argument, a list of whole numbers -/
theorem text_args {p : Program} {nm : Str} {lo hi lo2 hi2 : Int} {m1 l2 m2 : Nat} {f : List Int → List Int} {ask : Codec.fn Bool [Codec.list 0 m1 (.int lo hi)]} {r : OpenSpec}
    (e : r = OpenSpec.mk p nm [Codec.list 0 m1 (.int lo hi)] (Codec.list l2 m2 (.int lo2 hi2)) ask f) (said : r.wellSaid = true) (args : List WData) (hpre : r.pre args = true) :
    ∃ as, args = as.map Arg.w ∧ (∃ ns, as = [.lst ns] ∧ ns.length ≤ m1) ∧ r.post args (.list ((dueT f as).map WData.int)) = true := by
  subst e
  obtain ⟨a, h1, _, rfl⟩ := (OpenSpec.pre_iff said args).mp hpre
  refine ⟨[.lst (show List Int × Unit from a).1], rfl, ⟨_, rfl, ?_⟩, ?_⟩
  · have h2 := (Codec.and_of (show (Codec.inList 0 m1 (Codec.inInt lo hi) (show List Int × Unit from a).1 && true) = true from h1)).1
    have h3 := (Codec.and_of (show (Codec.inLen 0 m1 (show List Int × Unit from a).1 && (show List Int × Unit from a).1.all (Codec.inInt lo hi)) = true from h2)).1
    exact (Codec.inNat_iff.mp h3).2
  · exact (OpenSpec.post_iff said h1 _ []).mpr rfl
end L2
namespace L2
open PySem PySem.W
/-- what a list within its codec is -/
theorem in_list {lo hi : Int} {m : Nat} {ns : List Int} (h : Codec.inList 0 m (Codec.inInt lo hi) ns = true) : ns.length ≤ m ∧ ∀ z ∈ ns, lo ≤ z ∧ z ≤ hi := by
  obtain ⟨h1, h2⟩ := Codec.and_of (show (Codec.inLen 0 m ns && ns.all (Codec.inInt lo hi)) = true from h)
  refine ⟨(Codec.inNat_iff.mp h1).2, fun z hz => ?_⟩
  have q := List.all_eq_true.mp h2 z hz
  exact Codec.inInt_iff.mp q
def dueLL (f : List Int → List Int → List Int) : List Arg → List Int
  | [.lst a, .lst b] => f a b
  | _ => []
def dueIL (f : Int → List Int → List Int) : List Arg → List Int
  | [.int i, .lst a] => f i a
  | _ => []
def dueILL (f : Int → List Int → List Int → List Int) : List Arg → List Int
  | [.int i, .lst a, .lst b] => f i a b
  | _ => []
/-- one list, its numbers within bounds -/
theorem args_l {p : Program} {nm : Str} {lo hi lo2 hi2 : Int} {m1 l2 m2 : Nat} {f : List Int → List Int} {ask : Codec.fn Bool [Codec.list 0 m1 (.int lo hi)]} {r : OpenSpec}
    (e : r = OpenSpec.mk p nm [Codec.list 0 m1 (.int lo hi)] (Codec.list l2 m2 (.int lo2 hi2)) ask f) (said : r.wellSaid = true) (args : List WData) (hpre : r.pre args = true) :
    ∃ as, args = as.map Arg.w ∧ (∃ ns, as = [.lst ns] ∧ ns.length ≤ m1 ∧ ∀ z ∈ ns, lo ≤ z ∧ z ≤ hi) ∧ r.post args (.list ((dueT f as).map WData.int)) = true := by
  subst e
  obtain ⟨a, h1, _, rfl⟩ := (OpenSpec.pre_iff said args).mp hpre
  refine ⟨[.lst (show List Int × Unit from a).1], rfl, ⟨_, rfl, ?_⟩, ?_⟩
  · exact in_list (Codec.and_of (show (Codec.inList 0 m1 (Codec.inInt lo hi) (show List Int × Unit from a).1 && true) = true from h1)).1
  · exact (OpenSpec.post_iff said h1 _ []).mpr rfl
/-- two lists -/
theorem args_ll {p : Program} {nm : Str} {lo hi lo' hi' lo2 hi2 : Int} {m1 m1' l2 m2 : Nat} {f : List Int → List Int → List Int} {ask : Codec.fn Bool [Codec.list 0 m1 (.int lo hi), Codec.list 0 m1' (.int lo' hi')]} {r : OpenSpec}
    (e : r = OpenSpec.mk p nm [Codec.list 0 m1 (.int lo hi), Codec.list 0 m1' (.int lo' hi')] (Codec.list l2 m2 (.int lo2 hi2)) ask f) (said : r.wellSaid = true) (args : List WData) (hpre : r.pre args = true) :
    ∃ as, args = as.map Arg.w ∧ (∃ ns ms, as = [.lst ns, .lst ms] ∧ (ns.length ≤ m1 ∧ ∀ z ∈ ns, lo ≤ z ∧ z ≤ hi) ∧ (ms.length ≤ m1' ∧ ∀ z ∈ ms, lo' ≤ z ∧ z ≤ hi')) ∧ r.post args (.list ((dueLL f as).map WData.int)) = true := by
  subst e
  obtain ⟨a, h1, _, rfl⟩ := (OpenSpec.pre_iff said args).mp hpre
  refine ⟨[.lst (show List Int × List Int × Unit from a).1, .lst (show List Int × List Int × Unit from a).2.1], rfl, ⟨_, _, rfl, ?_⟩, ?_⟩
  · obtain ⟨h2, h3⟩ := Codec.and_of (show (Codec.inList 0 m1 (Codec.inInt lo hi) (show List Int × List Int × Unit from a).1 && (Codec.inList 0 m1' (Codec.inInt lo' hi') (show List Int × List Int × Unit from a).2.1 && true)) = true from h1)
    exact ⟨in_list h2, in_list (Codec.and_of h3).1⟩
  · exact (OpenSpec.post_iff said h1 _ []).mpr rfl
/-- a number, a list -/
theorem args_il {p : Program} {nm : Str} {li hI lo hi lo2 hi2 : Int} {m1 l2 m2 : Nat} {f : Int → List Int → List Int} {ask : Codec.fn Bool [Codec.int li hI, Codec.list 0 m1 (.int lo hi)]} {r : OpenSpec}
    (e : r = OpenSpec.mk p nm [Codec.int li hI, Codec.list 0 m1 (.int lo hi)] (Codec.list l2 m2 (.int lo2 hi2)) ask f) (said : r.wellSaid = true) (args : List WData) (hpre : r.pre args = true) :
    ∃ as, args = as.map Arg.w ∧ (∃ i ns, as = [.int i, .lst ns] ∧ (li ≤ i ∧ i ≤ hI) ∧ (ns.length ≤ m1 ∧ ∀ z ∈ ns, lo ≤ z ∧ z ≤ hi)) ∧ r.post args (.list ((dueIL f as).map WData.int)) = true := by
  subst e
  obtain ⟨a, h1, _, rfl⟩ := (OpenSpec.pre_iff said args).mp hpre
  refine ⟨[.int (show Int × List Int × Unit from a).1, .lst (show Int × List Int × Unit from a).2.1], rfl, ⟨_, _, rfl, ?_⟩, ?_⟩
  · obtain ⟨h2, h3⟩ := Codec.and_of (show (Codec.inInt li hI (show Int × List Int × Unit from a).1 && (Codec.inList 0 m1 (Codec.inInt lo hi) (show Int × List Int × Unit from a).2.1 && true)) = true from h1)
    exact ⟨Codec.inInt_iff.mp h2, in_list (Codec.and_of h3).1⟩
  · exact (OpenSpec.post_iff said h1 _ []).mpr rfl
/-- a number, two lists -/
theorem args_ill {p : Program} {nm : Str} {li hI lo hi lo' hi' lo2 hi2 : Int} {m1 m1' l2 m2 : Nat} {f : Int → List Int → List Int → List Int} {ask : Codec.fn Bool [Codec.int li hI, Codec.list 0 m1 (.int lo hi), Codec.list 0 m1' (.int lo' hi')]} {r : OpenSpec}
    (e : r = OpenSpec.mk p nm [Codec.int li hI, Codec.list 0 m1 (.int lo hi), Codec.list 0 m1' (.int lo' hi')] (Codec.list l2 m2 (.int lo2 hi2)) ask f) (said : r.wellSaid = true) (args : List WData) (hpre : r.pre args = true) :
    ∃ as, args = as.map Arg.w ∧ (∃ i ns ms, as = [.int i, .lst ns, .lst ms] ∧ (li ≤ i ∧ i ≤ hI) ∧ (ns.length ≤ m1 ∧ ∀ z ∈ ns, lo ≤ z ∧ z ≤ hi) ∧ (ms.length ≤ m1' ∧ ∀ z ∈ ms, lo' ≤ z ∧ z ≤ hi')) ∧ r.post args (.list ((dueILL f as).map WData.int)) = true := by
  subst e
  obtain ⟨a, h1, _, rfl⟩ := (OpenSpec.pre_iff said args).mp hpre
  refine ⟨[.int (show Int × List Int × List Int × Unit from a).1, .lst (show Int × List Int × List Int × Unit from a).2.1, .lst (show Int × List Int × List Int × Unit from a).2.2.1], rfl, ⟨_, _, _, rfl, ?_⟩, ?_⟩
  · obtain ⟨h2, h3⟩ := Codec.and_of (show (Codec.inInt li hI (show Int × List Int × List Int × Unit from a).1 && (Codec.inList 0 m1 (Codec.inInt lo hi) (show Int × List Int × List Int × Unit from a).2.1 && (Codec.inList 0 m1' (Codec.inInt lo' hi') (show Int × List Int × List Int × Unit from a).2.2.1 && true))) = true from h1)
    obtain ⟨h4, h5⟩ := Codec.and_of h3
    exact ⟨Codec.inInt_iff.mp h2, in_list h4, in_list (Codec.and_of h5).1⟩
  · exact (OpenSpec.post_iff said h1 _ []).mpr rfl
end L2
namespace Ew
open Po
/-! ### words in order -/
theorem lessBytes_irrefl : ∀ a : Bytes, lessBytes a a = false
  | [] => rfl
  | x :: r => by
    have h : ¬ x < x := UInt8.lt_irrefl x
    simp [lessBytes, lessBytes_irrefl r, h]
theorem lessBytes_trans : ∀ {a b c : Bytes}, lessBytes a b = true → lessBytes b c = true → lessBytes a c = true
  | [], _, _, h, _ => by simp [lessBytes] at h
  | _ :: _, [], _, h, _ => by simp [lessBytes] at h
  | _ :: _, _ :: _, [], _, h => by simp [lessBytes] at h
  | x :: a, y :: b, z :: c, h1, h2 => by
    simp only [lessBytes, Bool.or_eq_true, decide_eq_true_eq, Bool.and_eq_true, beq_iff_eq] at h1 h2 ⊢
    rcases h1 with h1 | ⟨rfl, h1⟩
    · rcases h2 with h2 | ⟨rfl, h2⟩
      · exact .inl (UInt8.lt_trans h1 h2)
      · exact .inl h1
    · rcases h2 with h2 | ⟨rfl, h2⟩
      · exact .inl h2
      · exact .inr ⟨rfl, lessBytes_trans h1 h2⟩
theorem lessBytes_tri : ∀ {a b : Bytes}, a.length = b.length → lessBytes a b = false → lessBytes b a = false → a = b
  | [], [], _, _, _ => rfl
  | [], _ :: _, h, _, _ => by simp at h
  | _ :: _, [], h, _, _ => by simp at h
  | x :: a, y :: b, h, h1, h2 => by
    simp only [lessBytes, Bool.or_eq_false_iff, decide_eq_false_iff_not, Bool.and_eq_false_iff, beq_eq_false_iff_ne] at h1 h2
    have e : x = y := UInt8.le_antisymm (UInt8.not_lt.mp h2.1) (UInt8.not_lt.mp h1.1)
    subst e
    have l : a.length = b.length := by simpa using h
    rw [lessBytes_tri l (h1.2.resolve_left fun q => q rfl) (h2.2.resolve_left fun q => q rfl)]
theorem before_irrefl (a : Word) : before a a = false := by
  unfold before
  simp [lessBytes_irrefl]
theorem before_trans {a b c : Word} (h1 : before a b = true) (h2 : before b c = true) : before a c = true := by
  unfold before at *
  simp only [Bool.or_eq_true, decide_eq_true_eq, Bool.and_eq_true, beq_iff_eq] at *
  rcases h1 with h1 | ⟨e1, h1⟩
  · rcases h2 with h2 | ⟨e2, h2⟩
    · exact .inl (by omega)
    · exact .inl (by omega)
  · rcases h2 with h2 | ⟨e2, h2⟩
    · exact .inl (by omega)
    · exact .inr ⟨e1.trans e2, lessBytes_trans h1 h2⟩
theorem before_tri {a b : Word} (h1 : before a b = false) (h2 : before b a = false) : a = b := by
  unfold before at *
  simp only [Bool.or_eq_false_iff, decide_eq_false_iff_not, Bool.and_eq_false_iff, beq_eq_false_iff_ne] at h1 h2
  have l : a.length = b.length := by omega
  exact lessBytes_tri l (h1.2.resolve_left fun q => q l) (h2.2.resolve_left fun q => q l.symm)
theorem before_asymm {a b : Word} (h : before a b = true) : before b a = false := by
  cases e : before b a with
  | false => rfl
  | true =>
    have := before_trans h e
    rw [before_irrefl] at this
    cases this
/-- strictly in order -/
abbrev InOrder (l : List Word) : Prop := l.Pairwise fun x y => before x y = true
theorem inOrder_unique : ∀ {l m : List Word}, InOrder l → InOrder m → (∀ w, w ∈ l ↔ w ∈ m) → l = m
  | [], [], _, _, _ => rfl
  | [], y :: m, _, _, h => by
    have := (h y).mpr (by simp)
    cases this
  | x :: l, [], _, _, h => by
    have := (h x).mp (by simp)
    cases this
  | x :: l, y :: m, h1, h2, h => by
    obtain ⟨a1, b1⟩ := List.pairwise_cons.mp h1
    obtain ⟨a2, b2⟩ := List.pairwise_cons.mp h2
    have e : x = y := by
      have m1 := (h x).mp (by simp)
      have m2 := (h y).mpr (by simp)
      rcases List.mem_cons.mp m1 with e | m1
      · exact e
      rcases List.mem_cons.mp m2 with e | m2
      · exact e.symm
      have q1 := a2 x m1
      have q2 := a1 y m2
      rw [before_asymm q1] at q2
      cases q2
    subst e
    refine congrArg _ (inOrder_unique b1 b2 fun w => ?_)
    have hw := h w
    constructor
    · intro hm
      rcases List.mem_cons.mp (hw.mp (List.mem_cons_of_mem _ hm)) with e | q
      · subst e
        have := a1 w hm
        rw [before_irrefl] at this
        cases this
      · exact q
    · intro hm
      rcases List.mem_cons.mp (hw.mpr (List.mem_cons_of_mem _ hm)) with e | q
      · subst e
        have := a2 w hm
        rw [before_irrefl] at this
        cases this
      · exact q
/-- in order, equal ones together -/
abbrev Sorted (l : List Word) : Prop := l.Pairwise fun x y => (!before y x) = true
theorem once_mem : ∀ (l : List Word) (w : Word), w ∈ once l ↔ w ∈ l
  | [], w => by simp [once]
  | [a], w => by simp [once]
  | a :: b :: r, w => by
    have ih := once_mem (b :: r) w
    unfold once
    split
    · rename_i e
      rw [ih, e]
      simp
    · rw [List.mem_cons, ih, ← List.mem_cons]
theorem once_order : ∀ {l : List Word}, Sorted l → InOrder (once l)
  | [], _ => List.Pairwise.nil
  | [a], _ => by simp [once]
  | a :: b :: r, h => by
    obtain ⟨h1, h2⟩ := List.pairwise_cons.mp h
    have ih := once_order h2
    unfold once
    split
    · exact ih
    · rename_i ne
      refine List.pairwise_cons.mpr ⟨fun w hw => ?_, ih⟩
      have hw' := (once_mem (b :: r) w).mp hw
      have q := h1 w hw'
      have q' : before w a = false := by simpa using q
      cases e : before a w with
      | true => rfl
      | false =>
        exfalso
        have ew : a = w := before_tri e q'
        subst ew
        rcases List.mem_cons.mp hw' with e2 | hm
        · exact ne e2
        · have q2 : (!before a b) = true := (List.pairwise_cons.mp h2).1 a hm
          have q3 : before a b = false := by simpa using q2
          have q4 : before b a = false := by simpa using h1 b (by simp)
          exact ne (before_tri q3 q4)
theorem sort_sorted (l : List Word) : Sorted (l.mergeSort fun (x y : Word) => !before y x) := by
  apply List.pairwise_mergeSort
  · intro a b c h1 h2
    have h1' : before b a = false := by simpa using h1
    have h2' : before c b = false := by simpa using h2
    have : before c a = false := by
      cases e : before c a with
      | false => rfl
      | true =>
        cases e2 : before a b with
        | true =>
          have := before_trans e e2
          rw [h2'] at this
          cases this
        | false =>
          have ab := before_tri e2 h1'
          subst ab
          rw [h2'] at e
          cases e
    simpa using this
  · intro a b
    cases e : before b a with
    | false => simp
    | true => simp [before_asymm e]
theorem ones_order (a : Word) : InOrder (onesOf a) := once_order (sort_sorted _)
theorem ones_mem (a w : Word) : w ∈ onesOf a ↔ w ∈ slipped LETTERS a ∧ w.length ≤ 32 := by
  unfold onesOf
  rw [once_mem, List.mem_mergeSort, List.mem_filter, decide_eq_true_eq]
  exact Iff.rfl
/-- a list in order with these members is theirs -/
theorem ones_unique {a : Word} {l : List Word} (h : InOrder l) (hm : ∀ w, w ∈ l ↔ w ∈ slipped LETTERS a ∧ w.length ≤ 32) : l = onesOf a :=
  inOrder_unique h (ones_order a) fun w => by rw [hm, ones_mem]
end Ew
namespace Ew
open Po
/-! ### one slip, by places -/
theorem taken_mem : ∀ {a w : Word}, w ∈ takenOut a ↔ ∃ i, i < a.length ∧ w = a.take i ++ a.drop (i + 1)
  | [], w => by simp [takenOut]
  | c :: r, w => by
    unfold takenOut
    rw [List.mem_cons, List.mem_map]
    constructor
    · rintro (e | ⟨v, hv, e⟩)
      · exact ⟨0, by simp, by simpa using e⟩
      · obtain ⟨i, hi, rfl⟩ := taken_mem.mp hv
        exact ⟨i + 1, by simpa using hi, by simp [← e]⟩
    · rintro ⟨i, hi, e⟩
      cases i with
      | zero => exact .inl (by simpa using e)
      | succ i => exact .inr ⟨r.take i ++ r.drop (i + 1), taken_mem.mpr ⟨i, by simpa using hi, rfl⟩, by simp [e]⟩
theorem put_mem {ls : List UInt8} : ∀ {a w : Word}, w ∈ putIn ls a ↔ ∃ i d, i ≤ a.length ∧ d ∈ ls ∧ w = a.take i ++ d :: a.drop i
  | [], w => by
    unfold putIn
    rw [List.mem_map]
    constructor
    · rintro ⟨d, hd, e⟩
      exact ⟨0, d, Nat.le_refl _, hd, by simp [← e]⟩
    · rintro ⟨i, d, hi, hd, e⟩
      exact ⟨d, hd, by simp [e]⟩
  | c :: r, w => by
    unfold putIn
    rw [List.mem_append, List.mem_map, List.mem_map]
    constructor
    · rintro (⟨d, hd, e⟩ | ⟨v, hv, e⟩)
      · exact ⟨0, d, Nat.zero_le _, hd, by simp [← e]⟩
      · obtain ⟨i, d, hi, hd, rfl⟩ := put_mem.mp hv
        exact ⟨i + 1, d, by simpa using hi, hd, by simp [← e]⟩
    · rintro ⟨i, d, hi, hd, e⟩
      cases i with
      | zero => exact .inl ⟨d, hd, by simp [e]⟩
      | succ i => exact .inr ⟨r.take i ++ d :: r.drop i, put_mem.mpr ⟨i, d, by simpa using hi, hd, rfl⟩, by simp [e]⟩
theorem changed_mem {ls : List UInt8} : ∀ {a w : Word}, w ∈ changedFor ls a ↔ ∃ i d x, a[i]? = some x ∧ d ∈ ls ∧ d ≠ x ∧ w = a.take i ++ d :: a.drop (i + 1)
  | [], w => by simp [changedFor]
  | c :: r, w => by
    unfold changedFor
    rw [List.mem_append, List.mem_map, List.mem_map]
    constructor
    · rintro (⟨d, hd, e⟩ | ⟨v, hv, e⟩)
      · obtain ⟨h1, h2⟩ := List.mem_filter.mp hd
        exact ⟨0, d, c, rfl, h1, by simpa using h2, by simp [← e]⟩
      · obtain ⟨i, d, x, hi, hd, hx, rfl⟩ := changed_mem.mp hv
        exact ⟨i + 1, d, x, by simpa using hi, hd, hx, by simp [← e]⟩
    · rintro ⟨i, d, x, hi, hd, hx, e⟩
      cases i with
      | zero =>
        have ex : c = x := by simpa using hi
        subst ex
        exact .inl ⟨d, List.mem_filter.mpr ⟨hd, by simpa using hx⟩, by simp [e]⟩
      | succ i => exact .inr ⟨r.take i ++ d :: r.drop (i + 1), changed_mem.mpr ⟨i, d, x, by simpa using hi, hd, hx, rfl⟩, by simp [e]⟩
theorem exchanged_mem : ∀ {a w : Word}, w ∈ exchanged a ↔ ∃ i x y, a[i]? = some x ∧ a[i + 1]? = some y ∧ x ≠ y ∧ w = a.take i ++ y :: x :: a.drop (i + 2)
  | [], w => by simp [exchanged]
  | [c], w => by
    simp only [exchanged, List.not_mem_nil, false_iff]
    rintro ⟨i, x, y, h1, h2, _⟩
    simp at h2
  | c :: d :: r, w => by
    unfold exchanged
    rw [List.mem_append, List.mem_map]
    constructor
    · rintro (h | ⟨v, hv, e⟩)
      · split at h
        · cases h
        · rename_i ne
          exact ⟨0, c, d, rfl, rfl, ne, by simpa using h⟩
      · obtain ⟨i, x, y, h1, h2, hx, rfl⟩ := exchanged_mem.mp hv
        exact ⟨i + 1, x, y, by simpa using h1, by simpa using h2, hx, by simp [← e]⟩
    · rintro ⟨i, x, y, h1, h2, hx, e⟩
      cases i with
      | zero =>
        have e1 : c = x := by simpa using h1
        have e2 : d = y := by simpa using h2
        subst e1 e2
        refine .inl ?_
        rw [if_neg hx]
        simpa using e
      | succ i => exact .inr ⟨(d :: r).take i ++ y :: x :: (d :: r).drop (i + 2), exchanged_mem.mpr ⟨i, x, y, by simpa using h1, by simpa using h2, hx, rfl⟩, by simp [e]⟩
end Ew
namespace Ew
open Po
/-! ### how far apart: the table cell by cell -/
def tabTo (a b : Word) (k : Nat) : List (List Nat) := (List.range k).foldl (fun (rows : List (List Nat)) (i : Nat) => rows ++ [rowOf a b rows (i + 1)]) [List.range (b.length + 1)]
def rowTo (a b : Word) (rows : List (List Nat)) (i k : Nat) : List Nat := (List.range k).foldl (fun (cur : List Nat) (j : Nat) => cur ++ [cell a b rows cur i (j + 1)]) [i]
theorem tabTo_succ (a b : Word) (k : Nat) : tabTo a b (k + 1) = tabTo a b k ++ [rowOf a b (tabTo a b k) (k + 1)] := by
  unfold tabTo
  rw [List.range_succ (n := k), List.foldl_append]
  rfl
theorem rowTo_succ (a b : Word) (rows : List (List Nat)) (i k : Nat) : rowTo a b rows i (k + 1) = rowTo a b rows i k ++ [cell a b rows (rowTo a b rows i k) i (k + 1)] := by
  unfold rowTo
  rw [List.range_succ, List.foldl_append]
  rfl
theorem rowOf_eq (a b : Word) (rows : List (List Nat)) (i : Nat) : rowOf a b rows i = rowTo a b rows i b.length := rfl
theorem tabTo_len (a b : Word) : ∀ k, (tabTo a b k).length = k + 1
  | 0 => rfl
  | k + 1 => by rw [tabTo_succ, List.length_append, tabTo_len a b k]; rfl
theorem rowTo_len (a b : Word) (rows : List (List Nat)) (i : Nat) : ∀ k, (rowTo a b rows i k).length = k + 1
  | 0 => rfl
  | k + 1 => by rw [rowTo_succ, List.length_append, rowTo_len a b rows i k]; rfl
theorem getD_snoc_lt {α : Type} {l : List α} {x d : α} {i : Nat} (h : i < l.length) : (l ++ [x]).getD i d = l.getD i d := by
  rw [List.getD_eq_getElem?_getD, List.getD_eq_getElem?_getD, List.getElem?_append_left h]
theorem getD_snoc_eq {α : Type} {l : List α} {x d : α} : (l ++ [x]).getD l.length d = x := by
  rw [List.getD_eq_getElem?_getD, List.getElem?_append_right (Nat.le_refl _)]
  simp
theorem tabTo_stay (a b : Word) {i : Nat} : ∀ {k : Nat}, i ≤ k → (tabTo a b k).getD i [] = (tabTo a b i).getD i []
  | 0, h => by
    have : i = 0 := by omega
    subst this
    rfl
  | k + 1, h => by
    by_cases e : i = k + 1
    · subst e
      rfl
    · rw [tabTo_succ, getD_snoc_lt (by rw [tabTo_len]; omega)]
      exact tabTo_stay a b (by omega)
theorem rowTo_stay (a b : Word) (rows : List (List Nat)) (i : Nat) {j : Nat} : ∀ {k : Nat}, j ≤ k → (rowTo a b rows i k).getD j 0 = (rowTo a b rows i j).getD j 0
  | 0, h => by
    have : j = 0 := by omega
    subst this
    rfl
  | k + 1, h => by
    by_cases e : j = k + 1
    · subst e
      rfl
    · rw [rowTo_succ, getD_snoc_lt (by rw [rowTo_len]; omega)]
      exact rowTo_stay a b rows i (by omega)
/-- the first i letters of a from the first j of b -/
def dist (a b : Word) (i j : Nat) : Nat := ((tabTo a b i).getD i []).getD j 0
theorem apart_dist (a b : Word) : apartOf a b = dist a b a.length b.length := rfl
theorem dist_zero (a b : Word) {j : Nat} (h : j ≤ b.length) : dist a b 0 j = j := by
  show (List.range (b.length + 1)).getD j 0 = j
  rw [List.getD_eq_getElem?_getD, List.getElem?_range (by omega)]
  rfl
theorem row_at_succ (a b : Word) (i : Nat) : (tabTo a b (i + 1)).getD (i + 1) [] = rowTo a b (tabTo a b i) (i + 1) b.length := by
  rw [tabTo_succ]
  have e : i + 1 = (tabTo a b i).length := (tabTo_len a b i).symm
  rw [show (tabTo a b i ++ [rowOf a b (tabTo a b i) (i + 1)]).getD (i + 1) [] = (tabTo a b i ++ [rowOf a b (tabTo a b i) (i + 1)]).getD (tabTo a b i).length [] by rw [← e], getD_snoc_eq]
  rfl
theorem dist_left (a b : Word) : ∀ i, dist a b i 0 = i
  | 0 => dist_zero a b (Nat.zero_le _)
  | i + 1 => by
    unfold dist
    rw [row_at_succ, rowTo_stay a b _ _ (Nat.zero_le _)]
    rfl
/-- the cell, by the cells ahead of it -/
def cellD (a b : Word) (i j : Nat) : Nat :=
  let least := min (min (dist a b (i - 1) j + 1) (dist a b i (j - 1) + 1)) (dist a b (i - 1) (j - 1) + if a[i - 1]? = b[j - 1]? then 0 else 1)
  let k := ((b[j - 1]?).map fun (y : UInt8) => lastAt y (a.take (i - 1))).getD 0
  let l := ((a[i - 1]?).map fun (x : UInt8) => lastAt x (b.take (j - 1))).getD 0
  if k = 0 ∨ l = 0 then least else min least (dist a b (k - 1) (l - 1) + (i - k - 1) + 1 + (j - l - 1))
theorem lastAt_le (x : UInt8) (l : Word) : lastAt x l ≤ l.length := by
  unfold lastAt
  have h : ∀ n, n ≤ l.length → (List.range n).foldl (fun (k i : Nat) => if l[i]? = some x then i + 1 else k) 0 ≤ n := by
    intro n
    induction n with
    | zero => intro _; exact Nat.le_refl _
    | succ n ih =>
      intro hn
      rw [List.range_succ, List.foldl_append]
      simp only [List.foldl_cons, List.foldl_nil]
      have := ih (by omega)
      split <;> omega
  exact h _ (Nat.le_refl _)
theorem up_dist {a b : Word} {i r c : Nat} (h : r ≤ i) : ((tabTo a b i).getD r []).getD c 0 = dist a b r c := by
  unfold dist
  rw [tabTo_stay a b h]
theorem dist_succ {a b : Word} {i j : Nat} (hi : i < a.length) (hj : j < b.length) : dist a b (i + 1) (j + 1) = cellD a b (i + 1) (j + 1) := by
  have e1 : dist a b (i + 1) (j + 1) = cell a b (tabTo a b i) (rowTo a b (tabTo a b i) (i + 1) j) (i + 1) (j + 1) := by
    unfold dist
    rw [row_at_succ, rowTo_stay a b _ _ (by omega : j + 1 ≤ b.length), rowTo_succ]
    have e : j + 1 = (rowTo a b (tabTo a b i) (i + 1) j).length := (rowTo_len a b _ _ j).symm
    rw [show ∀ x : Nat, (rowTo a b (tabTo a b i) (i + 1) j ++ [x]).getD (j + 1) 0 = (rowTo a b (tabTo a b i) (i + 1) j ++ [x]).getD (rowTo a b (tabTo a b i) (i + 1) j).length 0 from fun x => by rw [← e], getD_snoc_eq]
  have e2 : (rowTo a b (tabTo a b i) (i + 1) j).getD j 0 = dist a b (i + 1) j := by
    unfold dist
    rw [row_at_succ, rowTo_stay a b _ _ (by omega : j ≤ b.length)]
  rw [e1]
  have hai : a[i]? = some a[i] := List.getElem?_eq_getElem hi
  have hbj : b[j]? = some b[j] := List.getElem?_eq_getElem hj
  have hk : lastAt b[j] (a.take i) ≤ i := Nat.le_trans (lastAt_le _ _) (by rw [List.length_take]; omega)
  unfold cell cellD
  simp only [Nat.add_sub_cancel, hai, hbj, Option.map_some, Option.getD_some]
  rw [up_dist (Nat.le_refl i), up_dist (Nat.le_refl i), e2, up_dist (by omega)]
end Ew
namespace Ew
open Po
/-! ### lines between two words: each letter has one at most; a line that joins unlike letters costs one, two that cross cost one -/
abbrev Ln := Nat × Nat
def crosses (x y : Ln) : Bool := (decide (x.1 < y.1) && decide (y.2 < x.2)) || (decide (y.1 < x.1) && decide (x.2 < y.2))
theorem crosses_symm (x y : Ln) : crosses x y = crosses y x := by
  unfold crosses
  rw [Bool.or_comm]
def crossW (x : Ln) (L : List Ln) : Nat := L.countP (crosses x)
def crossN : List Ln → Nat
  | [] => 0
  | x :: r => crossW x r + crossN r
def mis (a b : Word) (x : Ln) : Nat := if a[x.1]? = b[x.2]? then 0 else 1
def misN (a b : Word) : List Ln → Nat
  | [] => 0
  | x :: r => mis a b x + misN a b r
theorem crossW_cons (x y : Ln) (L : List Ln) : crossW x (y :: L) = crossW x L + if crosses x y = true then 1 else 0 := by
  unfold crossW
  rw [List.countP_cons]
theorem crossW_perm {x : Ln} {L M : List Ln} (h : L.Perm M) : crossW x L = crossW x M := h.countP_eq _
theorem crossN_perm {L M : List Ln} (h : L.Perm M) : crossN L = crossN M := by
  induction h with
  | nil => rfl
  | cons x h ih => simp only [crossN]; rw [crossW_perm h, ih]
  | swap x y l =>
    simp only [crossN, crossW_cons]
    rw [crosses_symm]
    omega
  | trans _ _ h1 h2 => exact h1.trans h2
theorem misN_perm {a b : Word} {L M : List Ln} (h : L.Perm M) : misN a b L = misN a b M := by
  induction h with
  | nil => rfl
  | cons x h ih => simp only [misN]; rw [ih]
  | swap x y l => simp only [misN]; omega
  | trans _ _ h1 h2 => exact h1.trans h2
def apartL (x y : Ln) : Prop := x.1 ≠ y.1 ∧ x.2 ≠ y.2
/-- lines between the first i letters of the one and the first j of the other -/
structure Tr (i j : Nat) (L : List Ln) : Prop where
  pw : L.Pairwise apartL
  lt : ∀ x ∈ L, x.1 < i ∧ x.2 < j
theorem Tr.perm {i j : Nat} {L M : List Ln} (h : Tr i j L) (p : L.Perm M) : Tr i j M :=
  ⟨(p.pairwise_iff fun h => ⟨fun e => h.1 e.symm, fun e => h.2 e.symm⟩).mp h.pw, fun x hx => h.lt x (p.mem_iff.mpr hx)⟩
theorem Tr.tail {i j : Nat} {x : Ln} {L : List Ln} (h : Tr i j (x :: L)) : Tr i j L := ⟨(List.pairwise_cons.mp h.pw).2, fun y hy => h.lt y (List.mem_cons_of_mem _ hy)⟩
theorem Tr.head {i j : Nat} {x : Ln} {L : List Ln} (h : Tr i j (x :: L)) : ∀ y ∈ L, apartL x y := (List.pairwise_cons.mp h.pw).1
theorem perm_front {x : Ln} {L : List Ln} (h : x ∈ L) : ∃ M, L.Perm (x :: M) := ⟨_, List.perm_cons_erase h⟩
/-- what lines cost, beside the letters that have none -/
def costL (a b : Word) (L : List Ln) : Nat := misN a b L + crossN L
theorem costL_perm {a b : Word} {L M : List Ln} (h : L.Perm M) : costL a b L = costL a b M := by
  unfold costL
  rw [misN_perm h, crossN_perm h]
theorem costL_cons (a b : Word) (x : Ln) (L : List Ln) : costL a b (x :: L) = mis a b x + crossW x L + costL a b L := by
  simp only [costL, misN, crossN]
  omega
/-! ### the table's steps -/
theorem dist_up {a b : Word} {i j : Nat} (hi : i < a.length) (hj : j ≤ b.length) : dist a b (i + 1) j ≤ dist a b i j + 1 := by
  cases j with
  | zero => rw [dist_left, dist_left]; exact Nat.le_refl _
  | succ j =>
    rw [dist_succ hi (by omega)]
    unfold cellD
    simp only [Nat.add_sub_cancel]
    split <;> omega
theorem dist_over {a b : Word} {i j : Nat} (hi : i ≤ a.length) (hj : j < b.length) : dist a b i (j + 1) ≤ dist a b i j + 1 := by
  cases i with
  | zero => rw [dist_zero a b (by omega), dist_zero a b (by omega)]; exact Nat.le_refl _
  | succ i =>
    rw [dist_succ (by omega) hj]
    unfold cellD
    simp only [Nat.add_sub_cancel]
    split <;> omega
theorem dist_both {a b : Word} {i j : Nat} (hi : i < a.length) (hj : j < b.length) : dist a b (i + 1) (j + 1) ≤ dist a b i j + mis a b (i, j) := by
  rw [dist_succ hi hj]
  unfold cellD mis
  simp only [Nat.add_sub_cancel]
  split <;> omega
theorem dist_ups {a b : Word} {i j : Nat} (hj : j ≤ b.length) : ∀ n, i + n ≤ a.length → dist a b (i + n) j ≤ dist a b i j + n
  | 0, _ => Nat.le_refl _
  | n + 1, h => by
    have h1 := dist_ups (a := a) (b := b) (i := i) hj n (by omega)
    have h2 := dist_up (a := a) (b := b) (i := i + n) (j := j) (by omega) hj
    rw [show i + (n + 1) = i + n + 1 by omega]
    omega
theorem dist_overs {a b : Word} {i j : Nat} (hi : i ≤ a.length) : ∀ n, j + n ≤ b.length → dist a b i (j + n) ≤ dist a b i j + n
  | 0, _ => Nat.le_refl _
  | n + 1, h => by
    have h1 := dist_overs (a := a) (b := b) (j := j) hi n (by omega)
    have h2 := dist_over (a := a) (b := b) (i := i) (j := j + n) hi (by omega)
    rw [show j + (n + 1) = j + n + 1 by omega]
    omega
/-! ### where a letter stands last -/
def lastTo (x : UInt8) (l : Word) (n : Nat) : Nat := (List.range n).foldl (fun (k i : Nat) => if l[i]? = some x then i + 1 else k) 0
theorem lastTo_succ (x : UInt8) (l : Word) (n : Nat) : lastTo x l (n + 1) = if l[n]? = some x then n + 1 else lastTo x l n := by
  unfold lastTo
  rw [List.range_succ, List.foldl_append]
  rfl
theorem lastAt_to (x : UInt8) (l : Word) : lastAt x l = lastTo x l l.length := rfl
theorem lastTo_le (x : UInt8) (l : Word) : ∀ n, lastTo x l n ≤ n
  | 0 => Nat.le_refl _
  | n + 1 => by
    rw [lastTo_succ]
    have := lastTo_le x l n
    split <;> omega
theorem lastTo_ge {x : UInt8} {l : Word} {k : Nat} (hk : l[k]? = some x) : ∀ n, k < n → k + 1 ≤ lastTo x l n
  | 0, h => absurd h (Nat.not_lt_zero _)
  | n + 1, h => by
    rw [lastTo_succ]
    split
    · omega
    · rename_i ne
      have : k ≠ n := fun e => ne (e ▸ hk)
      exact lastTo_ge hk n (by omega)
theorem lastTo_at {x : UInt8} {l : Word} : ∀ {n k : Nat}, lastTo x l n = k + 1 → l[k]? = some x
  | 0, k, h => by cases h
  | n + 1, k, h => by
    rw [lastTo_succ] at h
    split at h
    · rename_i e
      have : n = k := by omega
      exact this ▸ e
    · exact lastTo_at h
theorem lastTo_take {x : UInt8} {l : Word} {m : Nat} : ∀ n, n ≤ m → lastTo x (l.take m) n = lastTo x l n
  | 0, _ => rfl
  | n + 1, h => by
    rw [lastTo_succ, lastTo_succ, lastTo_take n (by omega), List.getElem?_take_of_lt (by omega)]
theorem lastAt_take {x : UInt8} {l : Word} {m : Nat} (h : m ≤ l.length) : lastAt x (l.take m) = lastTo x l m := by
  rw [lastAt_to, List.length_take, Nat.min_eq_left h, lastTo_take m (Nat.le_refl _)]
/-- two that change places, whatever is between them taken away and put in -/
theorem dist_swap {a b : Word} {i j k l : Nat} (hi : i < a.length) (hj : j < b.length) (hk : k < i) (hl : l < j) (e1 : a[k]? = b[j]?) (e2 : a[i]? = b[l]?) : dist a b (i + 1) (j + 1) + k + l + 1 ≤ dist a b k l + i + j := by
  have hai : a[i]? = some a[i] := List.getElem?_eq_getElem hi
  have hbj : b[j]? = some b[j] := List.getElem?_eq_getElem hj
  have q1 : k + 1 ≤ lastTo b[j] a i := lastTo_ge (e1.trans hbj) i hk
  have q2 : l + 1 ≤ lastTo a[i] b j := lastTo_ge (e2.symm.trans hai) j hl
  have r1 := lastTo_le b[j] a i
  have r2 := lastTo_le a[i] b j
  rw [dist_succ hi hj]
  unfold cellD
  simp only [Nat.add_sub_cancel, hai, hbj, Option.map_some, Option.getD_some]
  rw [lastAt_take (Nat.le_of_lt hi), lastAt_take (Nat.le_of_lt hj)]
  rw [if_neg (by omega)]
  have u := dist_ups (a := a) (b := b) (i := k) (j := l) (by omega) (lastTo b[j] a i - 1 - k) (by omega)
  have v := dist_overs (a := a) (b := b) (i := k + (lastTo b[j] a i - 1 - k)) (j := l) (by omega) (lastTo a[i] b j - 1 - l) (by omega)
  rw [show k + (lastTo b[j] a i - 1 - k) = lastTo b[j] a i - 1 by omega] at u v
  rw [show l + (lastTo a[i] b j - 1 - l) = lastTo a[i] b j - 1 by omega] at v
  omega
/-- **no lines cost less than the table says** -/
theorem dist_le_cost {a b : Word} : ∀ (N i j : Nat) (L : List Ln), i + j ≤ N → i ≤ a.length → j ≤ b.length → Tr i j L → dist a b i j + 2 * L.length ≤ i + j + costL a b L
  | N, 0, j, L, _, _, hj, t => by
    cases L with
    | nil => rw [dist_zero a b hj]; simp
    | cons x r => exact absurd (t.lt x (by simp)).1 (Nat.not_lt_zero _)
  | N, i + 1, 0, L, _, _, _, t => by
    cases L with
    | nil => rw [dist_left]; simp
    | cons x r => exact absurd (t.lt x (by simp)).2 (Nat.not_lt_zero _)
  | 0, i + 1, j + 1, L, h, _, _, _ => by omega
  | N + 1, i + 1, j + 1, L, h, hi, hj, t => by
    by_cases hr : ∃ l, (i, l) ∈ L
    · obtain ⟨l, hr⟩ := hr
      by_cases hc : ∃ k, (k, j) ∈ L
      · obtain ⟨k, hc⟩ := hc
        obtain ⟨M, pM⟩ := perm_front hr
        have tM := t.perm pM
        have lM : L.length = M.length + 1 := pM.length_eq
        have hM := tM.head
        rcases List.mem_cons.mp (pM.mem_iff.mp hc) with e | hcM
        · -- one line joins the two last
          have e1 : k = i := congrArg Prod.fst e
          have e2 : j = l := congrArg Prod.snd e
          subst e1 e2
          have tr : Tr k j M := ⟨tM.tail.pw, fun x hx => by
            obtain ⟨h1, h2⟩ := tM.tail.lt x hx
            obtain ⟨n1, n2⟩ := hM x hx
            simp only [ne_eq] at n1 n2
            omega⟩
          have ih := dist_le_cost (a := a) (b := b) N k j M (by omega) (by omega) (by omega) tr
          have st := dist_both (a := a) (b := b) (i := k) (j := j) (by omega) (by omega)
          rw [costL_perm pM, costL_cons]
          omega
        · obtain ⟨M', pM'⟩ := perm_front hcM
          have pL : L.Perm ((i, l) :: (k, j) :: M') := pM.trans (pM'.cons _)
          have tL := t.perm pL
          have lL : L.length = M'.length + 2 := pL.length_eq
          have h1 := tL.head
          have h2 := tL.tail.head
          have h12 := h1 (k, j) (by simp)
          have ki : k < i := by
            have := (tL.lt (k, j) (by simp)).1
            have := h12.1
            simp only [ne_eq] at *
            omega
          have lj : l < j := by
            have := (tL.lt (i, l) (by simp)).2
            have := h12.2
            simp only [ne_eq] at *
            omega
          have cr : crosses (i, l) (k, j) = true := by
            unfold crosses
            simp [ki, lj]
          have eC : costL a b L = mis a b (i, l) + (crossW (i, l) M' + 1) + (mis a b (k, j) + crossW (k, j) M' + costL a b M') := by
            rw [costL_perm pL, costL_cons, costL_cons, crossW_cons, if_pos cr]
          by_cases z1 : 1 ≤ mis a b (i, l) + crossW (i, l) M'
          · have tr : Tr i (j + 1) ((k, j) :: M') := ⟨tL.tail.pw, fun x hx => by
              obtain ⟨g1, g2⟩ := tL.tail.lt x hx
              obtain ⟨n1, n2⟩ := h1 x hx
              simp only [ne_eq] at n1
              omega⟩
            have ih := dist_le_cost (a := a) (b := b) N i (j + 1) _ (by omega) (by omega) hj tr
            have st := dist_up (a := a) (b := b) (i := i) (j := j + 1) (by omega) hj
            rw [costL_cons] at ih
            simp only [List.length_cons] at ih
            omega
          by_cases z2 : 1 ≤ mis a b (k, j) + crossW (k, j) M'
          · have tr : Tr (i + 1) j ((i, l) :: M') := by
              have pS : ((i, l) :: (k, j) :: M').Perm ((k, j) :: (i, l) :: M') := List.Perm.swap _ _ _
              have tS := tL.perm pS
              refine ⟨tS.tail.pw, fun x hx => ?_⟩
              obtain ⟨g1, g2⟩ := tS.tail.lt x hx
              obtain ⟨n1, n2⟩ := tS.head x hx
              simp only [ne_eq] at n2
              omega
            have ih := dist_le_cost (a := a) (b := b) N (i + 1) j _ (by omega) hi (by omega) tr
            have st := dist_over (a := a) (b := b) (i := i + 1) (j := j) hi (by omega)
            rw [costL_cons] at ih
            simp only [List.length_cons] at ih
            omega
          have m1 : a[i]? = b[l]? := by
            refine Decidable.byContradiction fun q => ?_
            have : mis a b (i, l) = 1 := if_neg q
            omega
          have m2 : a[k]? = b[j]? := by
            refine Decidable.byContradiction fun q => ?_
            have : mis a b (k, j) = 1 := if_neg q
            omega
          have w1 : crossW (i, l) M' = 0 := by omega
          have w2 : crossW (k, j) M' = 0 := by omega
          have tr : Tr k l M' := ⟨tL.tail.tail.pw, fun x hx => by
            obtain ⟨g1, g2⟩ := tL.tail.tail.lt x hx
            obtain ⟨n1, n2⟩ := h1 x (List.mem_cons_of_mem _ hx)
            obtain ⟨n3, n4⟩ := h2 x hx
            have c1 := (List.countP_eq_zero.mp w1) x hx
            have c2 := (List.countP_eq_zero.mp w2) x hx
            unfold crosses at c1 c2
            simp only [Bool.or_eq_true, Bool.and_eq_true, decide_eq_true_eq, not_or, ne_eq] at c1 c2 n1 n2 n3 n4
            omega⟩
          have ih := dist_le_cost (a := a) (b := b) N k l M' (by omega) (by omega) (by omega) tr
          have st := dist_swap (a := a) (b := b) (i := i) (j := j) (k := k) (l := l) (by omega) (by omega) ki lj m2 m1
          omega
      · have tr : Tr (i + 1) j L := ⟨t.pw, fun x hx => by
          obtain ⟨h1, h2⟩ := t.lt x hx
          have : x.2 ≠ j := fun e => hc ⟨x.1, by rw [← e]; exact hx⟩
          omega⟩
        have ih := dist_le_cost (a := a) (b := b) N (i + 1) j L (by omega) hi (by omega) tr
        have st := dist_over (a := a) (b := b) (i := i + 1) (j := j) hi (by omega)
        omega
    · have tr : Tr i (j + 1) L := ⟨t.pw, fun x hx => by
        obtain ⟨h1, h2⟩ := t.lt x hx
        have : x.1 ≠ i := fun e => hr ⟨x.2, by rw [← e]; exact hx⟩
        omega⟩
      have ih := dist_le_cost (a := a) (b := b) N i (j + 1) L (by omega) (by omega) hj tr
      have st := dist_up (a := a) (b := b) (i := i) (j := j + 1) (by omega) hj
      omega
end Ew
namespace Ew
open Po
/-- **the table's number is reached by lines** -/
theorem lines_of {a b : Word} : ∀ (N i j : Nat), i + j ≤ N → i ≤ a.length → j ≤ b.length → ∃ L, Tr i j L ∧ i + j + costL a b L ≤ dist a b i j + 2 * L.length
  | N, 0, j, _, _, hj => ⟨[], ⟨List.Pairwise.nil, fun x hx => by cases hx⟩, by rw [dist_zero a b hj]; simp [costL, misN, crossN]⟩
  | N, i + 1, 0, _, _, _ => ⟨[], ⟨List.Pairwise.nil, fun x hx => by cases hx⟩, by rw [dist_left]; simp [costL, misN, crossN]⟩
  | 0, i + 1, j + 1, h, _, _ => by omega
  | N + 1, i + 1, j + 1, h, hi, hj => by
    have hai : a[i]? = some a[i] := List.getElem?_eq_getElem hi
    have hbj : b[j]? = some b[j] := List.getElem?_eq_getElem hj
    have wide : ∀ {p q : Nat} {L : List Ln}, Tr p q L → p ≤ i + 1 → q ≤ j + 1 → Tr (i + 1) (j + 1) L := fun t h1 h2 => ⟨t.pw, fun x hx => by
      obtain ⟨g1, g2⟩ := t.lt x hx
      omega⟩
    have one : dist a b i (j + 1) + 1 ≤ dist a b (i + 1) (j + 1) → ∃ L, Tr (i + 1) (j + 1) L ∧ i + 1 + (j + 1) + costL a b L ≤ dist a b (i + 1) (j + 1) + 2 * L.length := fun e => by
      obtain ⟨L, t, c⟩ := lines_of (a := a) (b := b) N i (j + 1) (by omega) (by omega) hj
      exact ⟨L, wide t (by omega) (by omega), by omega⟩
    have two : dist a b (i + 1) j + 1 ≤ dist a b (i + 1) (j + 1) → ∃ L, Tr (i + 1) (j + 1) L ∧ i + 1 + (j + 1) + costL a b L ≤ dist a b (i + 1) (j + 1) + 2 * L.length := fun e => by
      obtain ⟨L, t, c⟩ := lines_of (a := a) (b := b) N (i + 1) j (by omega) hi (by omega)
      exact ⟨L, wide t (by omega) (by omega), by omega⟩
    have three : dist a b i j + mis a b (i, j) ≤ dist a b (i + 1) (j + 1) → ∃ L, Tr (i + 1) (j + 1) L ∧ i + 1 + (j + 1) + costL a b L ≤ dist a b (i + 1) (j + 1) + 2 * L.length := fun e => by
      obtain ⟨L, t, c⟩ := lines_of (a := a) (b := b) N i j (by omega) (by omega) (by omega)
      refine ⟨(i, j) :: L, ⟨List.pairwise_cons.mpr ⟨fun x hx => ?_, t.pw⟩, fun x hx => ?_⟩, ?_⟩
      · obtain ⟨g1, g2⟩ := t.lt x hx
        constructor <;> (simp only [ne_eq]; omega)
      · rcases List.mem_cons.mp hx with e | hx
        · subst e
          exact ⟨Nat.lt_succ_self _, Nat.lt_succ_self _⟩
        · obtain ⟨g1, g2⟩ := t.lt x hx
          omega
      · have w : crossW (i, j) L = 0 := List.countP_eq_zero.mpr fun x hx => by
          obtain ⟨g1, g2⟩ := t.lt x hx
          unfold crosses
          simp only [Bool.or_eq_true, Bool.and_eq_true, decide_eq_true_eq, not_or]
          omega
        rw [costL_cons, w]
        simp only [List.length_cons]
        omega
    have e := dist_succ (a := a) (b := b) hi hj
    unfold cellD at e
    simp only [Nat.add_sub_cancel, hai, hbj, Option.map_some, Option.getD_some] at e
    rw [lastAt_take (Nat.le_of_lt hi), lastAt_take (Nat.le_of_lt hj)] at e
    have em : (if some a[i] = some b[j] then 0 else 1) = mis a b (i, j) := by
      unfold mis
      simp only [hai, hbj]
    rw [em] at e
    have r1 := lastTo_le b[j] a i
    have r2 := lastTo_le a[i] b j
    by_cases z : lastTo b[j] a i = 0 ∨ lastTo a[i] b j = 0
    · rw [if_pos z] at e
      by_cases q1 : dist a b i (j + 1) + 1 ≤ dist a b (i + 1) (j + 1)
      · exact one q1
      by_cases q2 : dist a b (i + 1) j + 1 ≤ dist a b (i + 1) (j + 1)
      · exact two q2
      exact three (by omega)
    · rw [if_neg z] at e
      by_cases q1 : dist a b i (j + 1) + 1 ≤ dist a b (i + 1) (j + 1)
      · exact one q1
      by_cases q2 : dist a b (i + 1) j + 1 ≤ dist a b (i + 1) (j + 1)
      · exact two q2
      by_cases q3 : dist a b i j + mis a b (i, j) ≤ dist a b (i + 1) (j + 1)
      · exact three q3
      obtain ⟨k, hk⟩ : ∃ k, lastTo b[j] a i = k + 1 := ⟨lastTo b[j] a i - 1, by omega⟩
      obtain ⟨l, hl⟩ : ∃ l, lastTo a[i] b j = l + 1 := ⟨lastTo a[i] b j - 1, by omega⟩
      have ak := lastTo_at hk
      have bl := lastTo_at hl
      rw [hk, hl] at e
      rw [hk] at r1
      rw [hl] at r2
      simp only [Nat.add_sub_cancel] at e
      obtain ⟨L, t, c⟩ := lines_of (a := a) (b := b) N k l (by omega) (by omega) (by omega)
      have w1 : crossW (k, j) L = 0 := List.countP_eq_zero.mpr fun x hx => by
        obtain ⟨g1, g2⟩ := t.lt x hx
        unfold crosses
        simp only [Bool.or_eq_true, Bool.and_eq_true, decide_eq_true_eq, not_or]
        omega
      have w2 : crossW (i, l) L = 0 := List.countP_eq_zero.mpr fun x hx => by
        obtain ⟨g1, g2⟩ := t.lt x hx
        unfold crosses
        simp only [Bool.or_eq_true, Bool.and_eq_true, decide_eq_true_eq, not_or]
        omega
      refine ⟨(i, l) :: (k, j) :: L, ⟨List.pairwise_cons.mpr ⟨fun x hx => ?_, List.pairwise_cons.mpr ⟨fun x hx => ?_, t.pw⟩⟩, fun x hx => ?_⟩, ?_⟩
      · rcases List.mem_cons.mp hx with e | hx
        · subst e
          constructor <;> (simp only [ne_eq]; omega)
        · obtain ⟨g1, g2⟩ := t.lt x hx
          constructor <;> (simp only [ne_eq]; omega)
      · obtain ⟨g1, g2⟩ := t.lt x hx
        constructor <;> (simp only [ne_eq]; omega)
      · rcases List.mem_cons.mp hx with e | hx
        · subst e
          exact ⟨Nat.lt_succ_self _, by simp only []; omega⟩
        · rcases List.mem_cons.mp hx with e | hx
          · subst e
            exact ⟨by simp only []; omega, Nat.lt_succ_self _⟩
          · obtain ⟨g1, g2⟩ := t.lt x hx
            omega
      · have m1 : mis a b (i, l) = 0 := if_pos (by simp only [hai, bl])
        have m2 : mis a b (k, j) = 0 := if_pos (by simp only [hbj, ak])
        have cr : crosses (i, l) (k, j) = true := by
          unfold crosses
          simp only [Bool.or_eq_true, Bool.and_eq_true, decide_eq_true_eq]
          omega
        rw [costL_cons, costL_cons, crossW_cons, if_pos cr, w1, w2, m1, m2]
        simp only [List.length_cons]
        omega
theorem apart_lines (a b : Word) : ∃ L, Tr a.length b.length L ∧ a.length + b.length + costL a b L ≤ apartOf a b + 2 * L.length := by
  rw [apart_dist]
  exact lines_of _ _ _ (Nat.le_refl _) (Nat.le_refl _) (Nat.le_refl _)
theorem apart_le {a b : Word} {L : List Ln} (t : Tr a.length b.length L) : apartOf a b + 2 * L.length ≤ a.length + b.length + costL a b L := by
  rw [apart_dist]
  exact dist_le_cost _ _ _ _ (Nat.le_refl _) (Nat.le_refl _) (Nat.le_refl _) t
/-! ### lines handed on to another word by where its letters went -/
def shift (f : Nat → Nat) (x : Ln) : Ln := (f x.1, x.2)
theorem misN_shift {a a' b : Word} {f : Nat → Nat} : ∀ {L : List Ln}, (∀ x ∈ L, a[f x.1]? = a'[x.1]?) → misN a b (L.map (shift f)) = misN a' b L
  | [], _ => rfl
  | x :: r, h => by
    simp only [List.map_cons, misN]
    rw [misN_shift fun y hy => h y (List.mem_cons_of_mem _ hy)]
    have e : mis a b (shift f x) = mis a' b x := by
      unfold mis shift
      simp only [h x (List.mem_cons_self ..)]
    rw [e]
theorem crossW_shift {f : Nat → Nat} {x : Ln} : ∀ {L : List Ln}, (∀ y ∈ L, crosses (shift f x) (shift f y) = crosses x y) → crossW (shift f x) (L.map (shift f)) = crossW x L
  | [], _ => rfl
  | y :: r, h => by
    rw [List.map_cons, crossW_cons, crossW_cons, crossW_shift fun z hz => h z (List.mem_cons_of_mem _ hz), h y (List.mem_cons_self ..)]
theorem crossN_shift {f : Nat → Nat} : ∀ {L : List Ln}, L.Pairwise (fun x y => crosses (shift f x) (shift f y) = crosses x y) → crossN (L.map (shift f)) = crossN L
  | [], _ => rfl
  | x :: r, h => by
    obtain ⟨h1, h2⟩ := List.pairwise_cons.mp h
    simp only [List.map_cons, crossN]
    rw [crossW_shift h1, crossN_shift h2]
theorem crosses_mono {f : Nat → Nat} {x y : Ln} (h1 : x.1 < y.1 → f x.1 < f y.1) (h2 : y.1 < x.1 → f y.1 < f x.1) (ne : x.1 ≠ y.1) : crosses (shift f x) (shift f y) = crosses x y := by
  unfold crosses shift
  rcases Nat.lt_or_ge x.1 y.1 with h | h
  · have q := h1 h
    have n1 : ¬ y.1 < x.1 := by omega
    have n2 : ¬ f y.1 < f x.1 := by omega
    simp [h, q, n1, n2]
  · have h' : y.1 < x.1 := by omega
    have q := h2 h'
    have n1 : ¬ x.1 < y.1 := by omega
    have n2 : ¬ f x.1 < f y.1 := by omega
    simp [h', q, n1, n2]
/-- lines handed on where the order of the letters stays -/
theorem tr_shift {i i' j : Nat} {f : Nat → Nat} {L : List Ln} (t : Tr i j L) (hm : ∀ x ∈ L, ∀ y ∈ L, x.1 < y.1 → f x.1 < f y.1) (hl : ∀ x ∈ L, f x.1 < i') : Tr i' j (L.map (shift f)) ∧ crossN (L.map (shift f)) = crossN L := by
  constructor
  · refine ⟨?_, fun x hx => ?_⟩
    · rw [List.pairwise_map]
      refine List.Pairwise.imp_of_mem (fun {x y} hx hy h => ?_) t.pw
      obtain ⟨h1, h2⟩ := h
      refine ⟨fun e => ?_, h2⟩
      have e' : f x.1 = f y.1 := e
      rcases Nat.lt_or_ge x.1 y.1 with q | q
      · have := hm x hx y hy q
        omega
      · have := hm y hy x hx (by omega)
        omega
    · obtain ⟨y, hy, rfl⟩ := List.mem_map.mp hx
      exact ⟨hl y hy, (t.lt y hy).2⟩
  · refine crossN_shift (List.Pairwise.imp_of_mem (fun {x y} hx hy h => ?_) t.pw)
    exact crosses_mono (hm x hx y hy) (hm y hy x hx) h.1
theorem row_free {i j p : Nat} {L : List Ln} (t : Tr i j L) : (∀ x ∈ L, x.1 ≠ p) ∨ ∃ q M, L.Perm ((p, q) :: M) ∧ ∀ x ∈ M, x.1 ≠ p := by
  by_cases h : ∃ q, (p, q) ∈ L
  · obtain ⟨q, h⟩ := h
    obtain ⟨M, pM⟩ := perm_front h
    exact .inr ⟨q, M, pM, fun x hx e => ((t.perm pM).head x hx).1 e.symm⟩
  · exact .inl fun x hx e => h ⟨x.2, by rw [← e]; exact hx⟩
theorem mis_le (a b : Word) (x : Ln) : mis a b x ≤ 1 := by
  unfold mis
  split <;> omega
/-! ### one slip, and how far it leads -/
/-- a letter taken away: a' lacks the p-th of a -/
theorem apart_taken {a b : Word} {p : Nat} (hp : p < a.length) : apartOf a b ≤ apartOf (a.take p ++ a.drop (p + 1)) b + 1 := by
  obtain ⟨L, t, c⟩ := apart_lines (a.take p ++ a.drop (p + 1)) b
  have ll : (a.take p ++ a.drop (p + 1)).length + 1 = a.length := by
    rw [List.length_append, List.length_take, List.length_drop]
    omega
  have sh := tr_shift (i' := a.length) (f := fun r => if r < p then r else r + 1) t (fun x _ y _ h => by split <;> split <;> omega) (fun x hx => by
    have := (t.lt x hx).1
    split <;> omega)
  have hle := apart_le (a := a) (b := b) sh.1
  have em : misN a b (L.map (shift fun r => if r < p then r else r + 1)) = misN (a.take p ++ a.drop (p + 1)) b L := misN_shift fun x _ => by
    have lt : (a.take p).length = p := by rw [List.length_take]; omega
    split
    · rename_i h
      rw [List.getElem?_append_left (by omega), List.getElem?_take_of_lt h]
    · rw [List.getElem?_append_right (by omega), List.getElem?_drop, lt]
      congr 1
      omega
  unfold costL at hle c
  rw [em, sh.2, List.length_map] at hle
  omega
/-- a letter put in at the place p -/
theorem apart_put_lines {a b : Word} {p : Nat} {d : UInt8} (hp : p ≤ a.length) : (apartOf a b + 1 ≤ apartOf (a.take p ++ d :: a.drop p) b) ∨ ∃ q, q < b.length ∧ apartOf a b + mis (a.take p ++ d :: a.drop p) b (p, q) ≤ apartOf (a.take p ++ d :: a.drop p) b + 1 := by
  obtain ⟨L, t, c⟩ := apart_lines (a.take p ++ d :: a.drop p) b
  have ll : (a.take p ++ d :: a.drop p).length = a.length + 1 := by
    rw [List.length_append, List.length_take, List.length_cons, List.length_drop]
    omega
  have lt : (a.take p).length = p := by rw [List.length_take]; omega
  have key : ∀ M : List Ln, Tr (a.length + 1) b.length M → (∀ x ∈ M, x.1 ≠ p) → apartOf a b + 2 * M.length ≤ a.length + b.length + costL (a.take p ++ d :: a.drop p) b M := by
    intro M tM hM
    have sh := tr_shift (i' := a.length) (f := fun r => if r < p then r else r - 1) tM (fun x hx y hy h => by
      have := hM x hx
      have := hM y hy
      split <;> split <;> omega) (fun x hx => by
      have := (tM.lt x hx).1
      have := hM x hx
      split <;> omega)
    have hle := apart_le (a := a) (b := b) sh.1
    have em : misN a b (M.map (shift fun r => if r < p then r else r - 1)) = misN (a.take p ++ d :: a.drop p) b M := misN_shift fun x hx => by
      have := hM x hx
      split
      · rename_i h
        rw [List.getElem?_append_left (by omega), List.getElem?_take_of_lt h]
      · rw [List.getElem?_append_right (by omega), lt, show x.1 - p = (x.1 - p - 1) + 1 by omega, List.getElem?_cons_succ, List.getElem?_drop]
        congr 1
        omega
    unfold costL at hle ⊢
    rw [em, sh.2, List.length_map] at hle
    omega
  rw [ll] at t c
  rcases row_free (p := p) t with h | ⟨q, M, pM, hM⟩
  · have := key L t h
    left
    omega
  · right
    have tM := t.perm pM
    refine ⟨q, (tM.lt (p, q) (by simp)).2, ?_⟩
    have := key M tM.tail hM
    have lM := pM.length_eq
    rw [costL_perm pM, costL_cons] at c
    simp only [List.length_cons] at lM
    omega
theorem apart_put {a b : Word} {p : Nat} {d : UInt8} (hp : p ≤ a.length) : apartOf a b ≤ apartOf (a.take p ++ d :: a.drop p) b + 1 := by
  rcases apart_put_lines (b := b) (d := d) hp with h | ⟨q, _, h⟩ <;> omega
theorem at_put {a : Word} {p : Nat} {d : UInt8} (hp : p ≤ a.length) : (a.take p ++ d :: a.drop p)[p]? = some d := by
  have lt : (a.take p).length = p := by rw [List.length_take]; omega
  rw [List.getElem?_append_right (by omega), lt]
  simp
/-- a letter that the other word has not leads no nearer -/
theorem apart_put_alien {a b : Word} {p : Nat} {d : UInt8} (hp : p ≤ a.length) (hd : d ∉ b) : apartOf a b ≤ apartOf (a.take p ++ d :: a.drop p) b := by
  rcases apart_put_lines (b := b) (d := d) hp with h | ⟨q, hq, h⟩
  · omega
  · have e : mis (a.take p ++ d :: a.drop p) b (p, q) = 1 := if_neg fun e => by
      simp only [at_put hp] at e
      exact hd (List.mem_of_getElem? e.symm)
    omega
theorem changed_at {a : Word} {p r : Nat} {d : UInt8} (hp : p < a.length) (h : r ≠ p) : (a.take p ++ d :: a.drop (p + 1))[r]? = a[r]? := by
  have lt : (a.take p).length = p := by rw [List.length_take]; omega
  rcases Nat.lt_or_ge r p with q | q
  · rw [List.getElem?_append_left (by omega), List.getElem?_take_of_lt q]
  · rw [List.getElem?_append_right (by omega), lt, show r - p = (r - p - 1) + 1 by omega, List.getElem?_cons_succ, List.getElem?_drop]
    congr 1
    omega
theorem changed_new {a : Word} {p : Nat} {d : UInt8} (hp : p < a.length) : (a.take p ++ d :: a.drop (p + 1))[p]? = some d := by
  have lt : (a.take p).length = p := by rw [List.length_take]; omega
  rw [List.getElem?_append_right (by omega), lt]
  simp
theorem misN_ext {a a' b : Word} : ∀ {L : List Ln}, (∀ x ∈ L, a[x.1]? = a'[x.1]?) → misN a b L = misN a' b L
  | [], _ => rfl
  | x :: r, h => by
    simp only [misN]
    rw [misN_ext fun y hy => h y (List.mem_cons_of_mem _ hy)]
    have e : mis a b x = mis a' b x := by
      unfold mis
      rw [h x (List.mem_cons_self ..)]
    rw [e]
theorem apart_changed_lines {a b : Word} {p : Nat} {d : UInt8} (hp : p < a.length) : apartOf a b ≤ apartOf (a.take p ++ d :: a.drop (p + 1)) b ∨ ∃ q, q < b.length ∧ apartOf a b + mis (a.take p ++ d :: a.drop (p + 1)) b (p, q) ≤ apartOf (a.take p ++ d :: a.drop (p + 1)) b + 1 := by
  obtain ⟨L, t, c⟩ := apart_lines (a.take p ++ d :: a.drop (p + 1)) b
  have ll : (a.take p ++ d :: a.drop (p + 1)).length = a.length := by
    rw [List.length_append, List.length_take, List.length_cons, List.length_drop]
    omega
  rw [ll] at t c
  have hle := apart_le (a := a) (b := b) t
  rcases row_free (p := p) t with h | ⟨q, M, pM, hM⟩
  · left
    have em : misN a b L = misN (a.take p ++ d :: a.drop (p + 1)) b L := misN_ext fun x hx => (changed_at hp (h x hx)).symm
    unfold costL at hle c
    omega
  · right
    refine ⟨q, ((t.perm pM).lt (p, q) (by simp)).2, ?_⟩
    have em : misN a b M = misN (a.take p ++ d :: a.drop (p + 1)) b M := misN_ext fun x hx => (changed_at hp (hM x hx)).symm
    rw [costL_perm pM, costL_cons] at hle c
    unfold costL at hle c
    have := mis_le a b (p, q)
    omega
theorem apart_changed {a b : Word} {p : Nat} {d : UInt8} (hp : p < a.length) : apartOf a b ≤ apartOf (a.take p ++ d :: a.drop (p + 1)) b + 1 := by
  rcases apart_changed_lines (b := b) (d := d) hp with h | ⟨q, _, h⟩ <;> omega
theorem apart_changed_alien {a b : Word} {p : Nat} {d : UInt8} (hp : p < a.length) (hd : d ∉ b) : apartOf a b ≤ apartOf (a.take p ++ d :: a.drop (p + 1)) b := by
  rcases apart_changed_lines (b := b) (d := d) hp with h | ⟨q, hq, h⟩
  · exact h
  · have e : mis (a.take p ++ d :: a.drop (p + 1)) b (p, q) = 1 := if_neg fun e => by
      simp only [changed_new hp] at e
      exact hd (List.mem_of_getElem? e.symm)
    omega
/-- two neighbours change places -/
def swapAt (p r : Nat) : Nat := if r = p then p + 1 else if r = p + 1 then p else r
theorem swapped_at {a : Word} {p : Nat} {x y : UInt8} (hx : a[p]? = some x) (hy : a[p + 1]? = some y) (r : Nat) : a[swapAt p r]? = (a.take p ++ y :: x :: a.drop (p + 2))[r]? := by
  have hp : p + 1 < a.length := (List.getElem?_eq_some_iff.mp hy).1
  have lt : (a.take p).length = p := by rw [List.length_take]; omega
  unfold swapAt
  split
  · rename_i e
    subst e
    rw [hy, List.getElem?_append_right (by omega), lt]
    simp
  · split
    · rename_i e
      subst e
      rw [hx, List.getElem?_append_right (by omega), lt]
      simp
    · rcases Nat.lt_or_ge r p with q | q
      · rw [List.getElem?_append_left (by omega), List.getElem?_take_of_lt q]
      · rw [List.getElem?_append_right (by omega), lt, show r - p = (r - p - 2) + 1 + 1 by omega, List.getElem?_cons_succ, List.getElem?_cons_succ, List.getElem?_drop]
        congr 1
        omega
theorem swap_pair {p : Nat} {x y : Ln} (ne : x.1 ≠ y.1) (h : ¬ (x.1 = p ∧ y.1 = p + 1) ∧ ¬ (x.1 = p + 1 ∧ y.1 = p)) : crosses (shift (swapAt p) x) (shift (swapAt p) y) = crosses x y := by
  refine crosses_mono (fun q => ?_) (fun q => ?_) ne
  · unfold swapAt
    split <;> split <;> (try split) <;> (try split) <;> omega
  · unfold swapAt
    split <;> split <;> (try split) <;> (try split) <;> omega
theorem swap_inj {p r s : Nat} (h : swapAt p r = swapAt p s) : r = s := by
  unfold swapAt at h
  split at h <;> split at h <;> (try split at h) <;> (try split at h) <;> omega
theorem swap_lt {p r n : Nat} (hp : p + 1 < n) (h : r < n) : swapAt p r < n := by
  unfold swapAt
  split <;> (try split) <;> omega
theorem crossN_swap {p i j : Nat} {L : List Ln} (t : Tr i j L) : crossN (L.map (shift (swapAt p))) ≤ crossN L + 1 := by
  have plain : ∀ M : List Ln, M.Pairwise apartL → ((∀ x ∈ M, x.1 ≠ p) ∨ (∀ x ∈ M, x.1 ≠ p + 1)) → crossN (M.map (shift (swapAt p))) = crossN M := by
    intro M pw h
    refine crossN_shift (List.Pairwise.imp_of_mem (fun {x y} hx hy hh => ?_) pw)
    refine swap_pair hh.1 ?_
    rcases h with h | h
    · exact ⟨fun q => h x hx q.1, fun q => h y hy q.2⟩
    · exact ⟨fun q => h y hy q.2, fun q => h x hx q.1⟩
  rcases row_free (p := p) t with h | ⟨q, M, pM, hM⟩
  · rw [plain L t.pw (.inl h)]
    omega
  · have tM := t.perm pM
    rcases row_free (p := p + 1) tM.tail with h | ⟨q', M', pM', hM'⟩
    · refine Nat.le_trans (Nat.le_of_eq (plain L t.pw (.inr fun x hx => ?_))) (by omega)
      rcases List.mem_cons.mp (pM.mem_iff.mp hx) with e | hx
      · subst e
        simp
      · exact h x hx
    · have pL : L.Perm ((p, q) :: (p + 1, q') :: M') := pM.trans (pM'.cons _)
      have tL := t.perm pL
      have hp0 : ∀ x ∈ M', x.1 ≠ p := fun x hx => hM x (pM'.mem_iff.mpr (List.mem_cons_of_mem _ hx))
      rw [crossN_perm (pL.map _), crossN_perm pL]
      simp only [List.map_cons, crossN, crossW_cons]
      have e1 : crossW (shift (swapAt p) (p, q)) (M'.map (shift (swapAt p))) = crossW (p, q) M' := crossW_shift fun y hy => swap_pair (fun e => hp0 y hy e.symm) ⟨fun z => hM' y hy z.2, fun z => hp0 y hy z.2⟩
      have e2 : crossW (shift (swapAt p) (p + 1, q')) (M'.map (shift (swapAt p))) = crossW (p + 1, q') M' := crossW_shift fun y hy => swap_pair (fun e => hM' y hy e.symm) ⟨fun z => hM' y hy z.2, fun z => hp0 y hy z.2⟩
      have e3 := plain M' tL.tail.tail.pw (.inl hp0)
      rw [e1, e2, e3]
      split <;> split <;> omega
theorem apart_exchanged {a b : Word} {p : Nat} {x y : UInt8} (hx : a[p]? = some x) (hy : a[p + 1]? = some y) : apartOf a b ≤ apartOf (a.take p ++ y :: x :: a.drop (p + 2)) b + 1 := by
  have hp : p + 1 < a.length := (List.getElem?_eq_some_iff.mp hy).1
  obtain ⟨L, t, c⟩ := apart_lines (a.take p ++ y :: x :: a.drop (p + 2)) b
  have ll : (a.take p ++ y :: x :: a.drop (p + 2)).length = a.length := by
    rw [List.length_append, List.length_take, List.length_cons, List.length_cons, List.length_drop]
    omega
  rw [ll] at t c
  have t' : Tr a.length b.length (L.map (shift (swapAt p))) := by
    refine ⟨?_, fun z hz => ?_⟩
    · rw [List.pairwise_map]
      exact t.pw.imp fun h => ⟨fun e => h.1 (swap_inj e), h.2⟩
    · obtain ⟨u, hu, rfl⟩ := List.mem_map.mp hz
      exact ⟨swap_lt hp (t.lt u hu).1, (t.lt u hu).2⟩
  have hle := apart_le (a := a) (b := b) t'
  have em : misN a b (L.map (shift (swapAt p))) = misN (a.take p ++ y :: x :: a.drop (p + 2)) b L := misN_shift fun z _ => swapped_at hx hy z.1
  have ec := crossN_swap (p := p) t
  unfold costL at hle c
  rw [em, List.length_map] at hle
  omega
theorem slipped_mem {ls : List UInt8} {a w : Word} : w ∈ slipped ls a ↔ w ∈ takenOut a ∨ w ∈ putIn ls a ∨ w ∈ changedFor ls a ∨ w ∈ exchanged a := by
  unfold slipped
  rw [List.mem_append, List.mem_append, List.mem_append]
/-- **a slip changes how far apart they are by one at most** -/
theorem apart_slip {ls : List UInt8} {a b c : Word} (h : c ∈ slipped ls a) : apartOf a b ≤ apartOf c b + 1 := by
  rcases slipped_mem.mp h with h | h | h | h
  · obtain ⟨i, hi, rfl⟩ := taken_mem.mp h
    exact apart_taken hi
  · obtain ⟨i, d, hi, _, rfl⟩ := put_mem.mp h
    exact apart_put hi
  · obtain ⟨i, d, x, hi, _, _, rfl⟩ := changed_mem.mp h
    exact apart_changed (List.getElem?_eq_some_iff.mp hi).1
  · obtain ⟨i, x, y, h1, h2, _, rfl⟩ := exchanged_mem.mp h
    exact apart_exchanged h1 h2
/-- **one that leads nearer takes its letters from the other word** -/
theorem slip_near {ls : List UInt8} {a b c : Word} (h : c ∈ slipped ls a) (hn : apartOf c b < apartOf a b) : c ∈ slipped b a := by
  rcases slipped_mem.mp h with h | h | h | h
  · exact slipped_mem.mpr (.inl h)
  · obtain ⟨i, d, hi, _, rfl⟩ := put_mem.mp h
    refine slipped_mem.mpr (.inr (.inl (put_mem.mpr ⟨i, d, hi, ?_, rfl⟩)))
    refine Decidable.byContradiction fun hd => ?_
    have := apart_put_alien hi hd
    omega
  · obtain ⟨i, d, x, hi, _, hx, rfl⟩ := changed_mem.mp h
    refine slipped_mem.mpr (.inr (.inr (.inl (changed_mem.mpr ⟨i, d, x, hi, ?_, hx, rfl⟩))))
    refine Decidable.byContradiction fun hd => ?_
    have := apart_changed_alien (List.getElem?_eq_some_iff.mp hi).1 hd
    omega
  · exact slipped_mem.mpr (.inr (.inr (.inr h)))
end Ew
namespace Ew
open Po
/-- n slips at most, by these letters, lead from the one to the other -/
inductive Reach (ls : List UInt8) : Nat → Word → Word → Prop
  | zero {n : Nat} {a : Word} : Reach ls n a a
  | step {n : Nat} {a c b : Word} (h : c ∈ slipped ls a) (r : Reach ls n c b) : Reach ls (n + 1) a b
theorem Reach.mono {ls : List UInt8} {n : Nat} {a b : Word} (h : Reach ls n a b) : ∀ {m : Nat}, n ≤ m → Reach ls m a b := by
  induction h with
  | zero => intro m _; exact .zero
  | @step n a c b h r ih =>
    intro m hm
    obtain ⟨k, rfl⟩ : ∃ k, m = k + 1 := ⟨m - 1, by omega⟩
    exact .step h (ih (by omega))
theorem Reach.trans {ls : List UInt8} {n m : Nat} {a b c : Word} (h1 : Reach ls n a b) (h2 : Reach ls m b c) : Reach ls (n + m) a c := by
  induction h1 with
  | zero => exact h2.mono (by omega)
  | @step n a c b h r ih =>
    rw [show n + 1 + m = (n + m) + 1 by omega]
    exact .step h (ih h2)
theorem take_w {u a v : Word} {i : Nat} (h : i ≤ a.length) : (u ++ a ++ v).take (u.length + i) = u ++ a.take i := by
  rw [List.append_assoc, List.take_length_add_append, List.take_append_of_le_length h]
theorem drop_w {u a v : Word} {i : Nat} (h : i ≤ a.length) : (u ++ a ++ v).drop (u.length + i) = a.drop i ++ v := by
  rw [List.append_assoc, List.drop_length_add_append, List.drop_append_of_le_length h]
/-- a slip within a longer word -/
theorem slip_within {ls : List UInt8} {u v a c : Word} (h : c ∈ slipped ls a) : u ++ c ++ v ∈ slipped ls (u ++ a ++ v) := by
  rcases slipped_mem.mp h with h | h | h | h
  · obtain ⟨i, hi, rfl⟩ := taken_mem.mp h
    refine slipped_mem.mpr (.inl (taken_mem.mpr ⟨u.length + i, by simp; omega, ?_⟩))
    rw [take_w (by omega), show u.length + i + 1 = u.length + (i + 1) by omega, drop_w (by omega)]
    simp
  · obtain ⟨i, d, hi, hd, rfl⟩ := put_mem.mp h
    refine slipped_mem.mpr (.inr (.inl (put_mem.mpr ⟨u.length + i, d, by simp; omega, hd, ?_⟩)))
    rw [take_w (by omega), drop_w (by omega)]
    simp
  · obtain ⟨i, d, x, hi, hd, hx, rfl⟩ := changed_mem.mp h
    have hl : i < a.length := (List.getElem?_eq_some_iff.mp hi).1
    refine slipped_mem.mpr (.inr (.inr (.inl (changed_mem.mpr ⟨u.length + i, d, x, ?_, hd, hx, ?_⟩))))
    · rw [List.append_assoc, List.getElem?_append_right (by omega), Nat.add_sub_cancel_left, List.getElem?_append_left hl]
      exact hi
    · rw [take_w (by omega), show u.length + i + 1 = u.length + (i + 1) by omega, drop_w (by omega)]
      simp
  · obtain ⟨i, x, y, h1, h2, hx, rfl⟩ := exchanged_mem.mp h
    have hl : i + 1 < a.length := (List.getElem?_eq_some_iff.mp h2).1
    refine slipped_mem.mpr (.inr (.inr (.inr (exchanged_mem.mpr ⟨u.length + i, x, y, ?_, ?_, hx, ?_⟩))))
    · rw [List.append_assoc, List.getElem?_append_right (by omega), Nat.add_sub_cancel_left, List.getElem?_append_left (by omega)]
      exact h1
    · rw [List.append_assoc, List.getElem?_append_right (by omega), show u.length + i + 1 - u.length = i + 1 by omega, List.getElem?_append_left hl]
      exact h2
    · rw [take_w (by omega), show u.length + i + 2 = u.length + (i + 2) by omega, drop_w (by omega)]
      simp
theorem Reach.within {ls : List UInt8} {n : Nat} {a b : Word} (u v : Word) (h : Reach ls n a b) : Reach ls n (u ++ a ++ v) (u ++ b ++ v) := by
  induction h with
  | zero => exact .zero
  | step h r ih => exact .step (slip_within h) ih
theorem Reach.snoc {ls : List UInt8} {n : Nat} {a b : Word} (v : Word) (h : Reach ls n a b) : Reach ls n (a ++ v) (b ++ v) := by
  simpa using h.within [] v
theorem reach_drop {ls : List UInt8} : ∀ m : Word, Reach ls m.length m []
  | [] => .zero
  | x :: r => .step (slipped_mem.mpr (.inl (by simp [takenOut]))) (reach_drop r)
theorem reach_put {ls : List UInt8} : ∀ m : Word, (∀ x ∈ m, x ∈ ls) → Reach ls m.length [] m
  | [], _ => .zero
  | x :: r, h => by
    have h1 := reach_put r fun y hy => h y (List.mem_cons_of_mem _ hy)
    have h2 : Reach ls 1 r (x :: r) := .step (slipped_mem.mpr (.inr (.inl (put_mem.mpr ⟨0, x, Nat.zero_le _, h x (List.mem_cons_self ..), by simp⟩)))) .zero
    exact h1.trans h2
theorem take_snoc {a : Word} {i : Nat} {x : UInt8} (h : a[i]? = some x) : a.take (i + 1) = a.take i ++ [x] := by
  rw [List.take_add_one, h]
  rfl
theorem take_mid {a : Word} {k i : Nat} {y : UInt8} (hk : a[k]? = some y) (h : k < i) : a.take i = a.take k ++ [y] ++ (a.drop (k + 1)).take (i - k - 1) := by
  have e : i = k + 1 + (i - k - 1) := by omega
  rw [← take_snoc hk]
  conv => lhs; rw [e]
  rw [List.take_add]
/-- **so many slips do lead there**, by letters of the second word alone -/
theorem reach_dist {a b : Word} : ∀ (N i j : Nat), i + j ≤ N → i ≤ a.length → j ≤ b.length → Reach b (dist a b i j) (a.take i) (b.take j)
  | N, 0, j, _, _, hj => by
    rw [dist_zero a b hj]
    have := reach_put (ls := b) (b.take j) fun x hx => List.mem_of_mem_take hx
    rw [List.length_take, Nat.min_eq_left hj] at this
    exact this
  | N, i + 1, 0, _, hi, _ => by
    rw [dist_left]
    have := reach_drop (ls := b) (a.take (i + 1))
    rw [List.length_take, Nat.min_eq_left hi] at this
    exact this
  | 0, i + 1, j + 1, h, _, _ => by omega
  | N + 1, i + 1, j + 1, h, hi, hj => by
    have hai : a[i]? = some a[i] := List.getElem?_eq_getElem hi
    have hbj : b[j]? = some b[j] := List.getElem?_eq_getElem hj
    have ta := take_snoc hai
    have tb := take_snoc hbj
    have mb : b[j] ∈ b := List.getElem_mem hj
    have one : dist a b i (j + 1) + 1 ≤ dist a b (i + 1) (j + 1) → Reach b (dist a b (i + 1) (j + 1)) (a.take (i + 1)) (b.take (j + 1)) := fun e => by
      have ih := reach_dist (a := a) (b := b) N i (j + 1) (by omega) (by omega) hj
      have st : Reach b 1 (a.take (i + 1)) (a.take i) := by
        rw [ta]
        have := (reach_drop (ls := b) [a[i]]).within (a.take i) []
        simpa using this
      exact (st.trans ih).mono (by omega)
    have two : dist a b (i + 1) j + 1 ≤ dist a b (i + 1) (j + 1) → Reach b (dist a b (i + 1) (j + 1)) (a.take (i + 1)) (b.take (j + 1)) := fun e => by
      have ih := reach_dist (a := a) (b := b) N (i + 1) j (by omega) hi (by omega)
      have st : Reach b 1 (b.take j) (b.take (j + 1)) := by
        rw [tb]
        have := (reach_put (ls := b) [b[j]] (by simp)).within (b.take j) []
        simpa using this
      exact (ih.trans st).mono (by omega)
    have three : dist a b i j + mis a b (i, j) ≤ dist a b (i + 1) (j + 1) → Reach b (dist a b (i + 1) (j + 1)) (a.take (i + 1)) (b.take (j + 1)) := fun e => by
      have ih := reach_dist (a := a) (b := b) N i j (by omega) (by omega) (by omega)
      have st : Reach b (mis a b (i, j)) [a[i]] [b[j]] := by
        unfold mis
        simp only [hai, hbj]
        split
        · rename_i q
          rw [Option.some.inj q]
          exact .zero
        · rename_i q
          have q' : b[j] ≠ a[i] := fun e => q (by rw [e])
          exact .step (slipped_mem.mpr (.inr (.inr (.inl (changed_mem.mpr ⟨0, b[j], a[i], rfl, mb, q', by simp⟩))))) .zero
      rw [ta, tb]
      have st' : Reach b (mis a b (i, j)) (b.take j ++ [a[i]]) (b.take j ++ [b[j]]) := by
        have := st.within (b.take j) []
        rw [List.append_nil, List.append_nil] at this
        exact this
      exact ((ih.snoc [a[i]]).trans st').mono (by omega)
    have e := dist_succ (a := a) (b := b) hi hj
    unfold cellD at e
    simp only [Nat.add_sub_cancel, hai, hbj, Option.map_some, Option.getD_some] at e
    rw [lastAt_take (Nat.le_of_lt hi), lastAt_take (Nat.le_of_lt hj)] at e
    have em : (if some a[i] = some b[j] then 0 else 1) = mis a b (i, j) := by
      unfold mis
      simp only [hai, hbj]
    rw [em] at e
    have r1 := lastTo_le b[j] a i
    have r2 := lastTo_le a[i] b j
    by_cases q1 : dist a b i (j + 1) + 1 ≤ dist a b (i + 1) (j + 1)
    · exact one q1
    by_cases q2 : dist a b (i + 1) j + 1 ≤ dist a b (i + 1) (j + 1)
    · exact two q2
    by_cases q3 : dist a b i j + mis a b (i, j) ≤ dist a b (i + 1) (j + 1)
    · exact three q3
    by_cases z : lastTo b[j] a i = 0 ∨ lastTo a[i] b j = 0
    · rw [if_pos z] at e
      omega
    · rw [if_neg z] at e
      obtain ⟨k, hk⟩ : ∃ k, lastTo b[j] a i = k + 1 := ⟨lastTo b[j] a i - 1, by omega⟩
      obtain ⟨l, hl⟩ : ∃ l, lastTo a[i] b j = l + 1 := ⟨lastTo a[i] b j - 1, by omega⟩
      have ak := lastTo_at hk
      have bl := lastTo_at hl
      rw [hk, hl] at e
      rw [hk] at r1
      rw [hl] at r2
      simp only [Nat.add_sub_cancel] at e
      have ih := reach_dist (a := a) (b := b) N k l (by omega) (by omega) (by omega)
      have ea : a.take (i + 1) = a.take k ++ [b[j]] ++ (a.drop (k + 1)).take (i - k - 1) ++ [a[i]] := by rw [ta, take_mid ak (by omega)]
      have eb : b.take (j + 1) = b.take l ++ [a[i]] ++ (b.drop (l + 1)).take (j - l - 1) ++ [b[j]] := by rw [tb, take_mid bl (by omega)]
      rw [ea, eb]
      generalize hm : (a.drop (k + 1)).take (i - k - 1) = m
      generalize hm' : (b.drop (l + 1)).take (j - l - 1) = m'
      have lm : m.length = i - k - 1 := by rw [← hm, List.length_take, List.length_drop]; omega
      have lm' : m'.length = j - l - 1 := by rw [← hm', List.length_take, List.length_drop]; omega
      have im' : ∀ x ∈ m', x ∈ b := fun x hx => by
        rw [← hm'] at hx
        exact List.mem_of_mem_drop (List.mem_of_mem_take hx)
      have s1 : Reach b m.length (a.take k ++ [b[j]] ++ m ++ [a[i]]) (a.take k ++ [b[j]] ++ [a[i]]) := by
        have := (reach_drop (ls := b) m).within (a.take k ++ [b[j]]) [a[i]]
        simpa using this
      have s2 : Reach b 1 (a.take k ++ [b[j]] ++ [a[i]]) (a.take k ++ [a[i]] ++ [b[j]]) := by
        by_cases q : b[j] = a[i]
        · rw [q]
          exact .zero
        · have st : Reach b 1 [b[j], a[i]] [a[i], b[j]] := .step (slipped_mem.mpr (.inr (.inr (.inr (by simp [exchanged, q]))))) .zero
          have := st.within (a.take k) []
          simpa using this
      have s3 : Reach b m'.length (a.take k ++ [a[i]] ++ [b[j]]) (a.take k ++ [a[i]] ++ m' ++ [b[j]]) := by
        have := (reach_put (ls := b) m' im').within (a.take k ++ [a[i]]) [b[j]]
        simpa using this
      have s4 : Reach b (dist a b k l) (a.take k ++ [a[i]] ++ m' ++ [b[j]]) (b.take l ++ [a[i]] ++ m' ++ [b[j]]) := by
        have := ih.snoc ([a[i]] ++ m' ++ [b[j]])
        simpa using this
      refine (((s1.trans s2).trans s3).trans s4).mono ?_
      omega
theorem reach_apart (a b : Word) : Reach b (apartOf a b) a b := by
  have := reach_dist (a := a) (b := b) _ _ _ (Nat.le_refl _) (Nat.le_refl _) (Nat.le_refl _)
  rw [← apart_dist] at this
  simpa using this
theorem apart_self (a : Word) : apartOf a a = 0 := by
  -- all lines straight
  have h : ∀ n, n ≤ a.length → dist a a n n = 0 := by
    intro n
    induction n with
    | zero => intro _; exact dist_left a a 0
    | succ n ih =>
      intro hn
      have := dist_both (a := a) (b := a) (i := n) (j := n) (by omega) (by omega)
      have e : mis a a (n, n) = 0 := if_pos rfl
      have := ih (by omega)
      omega
  rw [apart_dist]
  exact h _ (Nat.le_refl _)
theorem apart_le_reach {ls : List UInt8} {n : Nat} {a b : Word} (h : Reach ls n a b) : apartOf a b ≤ n := by
  induction h with
  | zero => rw [apart_self]; exact Nat.zero_le _
  | @step n a c b h r ih =>
    have := apart_slip (b := b) h
    omega
/-- **how far apart is how many slips at least** -/
theorem apart_iff {a b : Word} {n : Nat} : apartOf a b ≤ n ↔ Reach b n a b := ⟨fun h => (reach_apart a b).mono h, apart_le_reach⟩
theorem apart_zero {a b : Word} (h : apartOf a b = 0) : a = b := by
  have := reach_apart a b
  rw [h] at this
  cases this
  rfl
/-- **there is a next word** -/
theorem next_ex {a b : Word} {n : Nat} (h : apartOf a b = n + 1) : ∃ c, c ∈ slipped b a ∧ apartOf c b = n := by
  have r := reach_apart a b
  rw [h] at r
  cases r with
  | zero => rw [apart_self] at h; cases h
  | step hc r =>
    rename_i c
    have h1 := apart_le_reach r
    have h2 := apart_slip (b := b) hc
    exact ⟨c, hc, by omega⟩
/-! ### slips both ways -/
theorem slip_back {a c : Word} {ls : List UInt8} (h : c ∈ slipped ls a) : a ∈ slipped (a ++ c) c := by
  rcases slipped_mem.mp h with h | h | h | h
  · obtain ⟨i, hi, rfl⟩ := taken_mem.mp h
    refine slipped_mem.mpr (.inr (.inl (put_mem.mpr ⟨i, a[i], by simp; omega, List.mem_append.mpr (.inl (List.getElem_mem hi)), ?_⟩)))
    have l : (a.take i).length = i := by rw [List.length_take]; omega
    rw [List.take_append_of_le_length (by omega), List.take_of_length_le (by omega)]
    have e : (a.take i ++ a.drop (i + 1)).drop i = a.drop (i + 1) := by
      conv => lhs; arg 1; rw [← l]
      rw [List.drop_left]
    rw [e, ← List.drop_eq_getElem_cons hi, List.take_append_drop]
  · obtain ⟨i, d, hi, hd, rfl⟩ := put_mem.mp h
    have l : (a.take i).length = i := by rw [List.length_take]; omega
    refine slipped_mem.mpr (.inl (taken_mem.mpr ⟨i, by simp; omega, ?_⟩))
    rw [List.take_append_of_le_length (by omega), List.take_of_length_le (by omega), List.drop_append]
    rw [List.drop_of_length_le (by omega), l, show i + 1 - i = 1 by omega]
    simp
  · obtain ⟨i, d, x, hi, hd, hx, rfl⟩ := changed_mem.mp h
    have hl : i < a.length := (List.getElem?_eq_some_iff.mp hi).1
    have l : (a.take i).length = i := by rw [List.length_take]; omega
    have ex : a[i] = x := by
      have := List.getElem?_eq_getElem hl
      rw [hi] at this
      exact (Option.some.inj this).symm
    refine slipped_mem.mpr (.inr (.inr (.inl (changed_mem.mpr ⟨i, x, d, changed_new hl, List.mem_append.mpr (.inl (List.mem_of_getElem? hi)), fun e => hx e.symm, ?_⟩))))
    rw [List.take_append_of_le_length (by omega), List.take_of_length_le (by omega), List.drop_append]
    rw [List.drop_of_length_le (by omega), l, show i + 1 - i = 1 by omega]
    simp only [List.drop_succ_cons, List.drop_zero, List.nil_append]
    rw [← ex, ← List.drop_eq_getElem_cons hl, List.take_append_drop]
  · obtain ⟨i, x, y, h1, h2, hx, rfl⟩ := exchanged_mem.mp h
    have hl : i + 1 < a.length := (List.getElem?_eq_some_iff.mp h2).1
    have l : (a.take i).length = i := by rw [List.length_take]; omega
    have ex : a[i] = x := by
      have := List.getElem?_eq_getElem (show i < a.length by omega)
      rw [h1] at this
      exact (Option.some.inj this).symm
    have ey : a[i + 1] = y := by
      have := List.getElem?_eq_getElem hl
      rw [h2] at this
      exact (Option.some.inj this).symm
    refine slipped_mem.mpr (.inr (.inr (.inr (exchanged_mem.mpr ⟨i, y, x, ?_, ?_, fun e => hx e.symm, ?_⟩))))
    · rw [List.getElem?_append_right (by omega), l]
      simp
    · rw [List.getElem?_append_right (by omega), l, show i + 1 - i = 1 by omega]
      simp
    · rw [List.take_append_of_le_length (by omega), List.take_of_length_le (by omega), List.drop_append]
      rw [List.drop_of_length_le (by omega), l, show i + 2 - i = 2 by omega]
      simp only [List.drop_succ_cons, List.drop_zero, List.nil_append]
      rw [← ex, ← ey, show i + 2 = i + 1 + 1 from rfl, ← List.drop_eq_getElem_cons hl, ← List.drop_eq_getElem_cons (show i < a.length by omega), List.take_append_drop]
theorem slip_more {ls ms : List UInt8} {a c : Word} (h : c ∈ slipped ls a) (hm : ∀ x ∈ ls, x ∈ ms) : c ∈ slipped ms a := by
  rcases slipped_mem.mp h with h | h | h | h
  · exact slipped_mem.mpr (.inl h)
  · obtain ⟨i, d, hi, hd, rfl⟩ := put_mem.mp h
    exact slipped_mem.mpr (.inr (.inl (put_mem.mpr ⟨i, d, hi, hm d hd, rfl⟩)))
  · obtain ⟨i, d, x, hi, hd, hx, rfl⟩ := changed_mem.mp h
    exact slipped_mem.mpr (.inr (.inr (.inl (changed_mem.mpr ⟨i, d, x, hi, hm d hd, hx, rfl⟩))))
  · exact slipped_mem.mpr (.inr (.inr (.inr h)))
theorem Reach.rev {ls : List UInt8} {n : Nat} {a b : Word} (h : Reach ls n a b) : ∃ ms, Reach ms n b a := by
  induction h with
  | zero => exact ⟨[], .zero⟩
  | @step n a c b h r ih =>
    obtain ⟨ms, ih⟩ := ih
    have up : ∀ {k : Nat} {u v : Word}, Reach ms k u v → Reach (ms ++ (a ++ c)) k u v := fun h => by
      induction h with
      | zero => exact .zero
      | step h r ih => exact .step (slip_more h fun x hx => List.mem_append.mpr (.inl hx)) ih
    have st : Reach (ms ++ (a ++ c)) 1 c a := .step (slip_more (slip_back h) fun x hx => List.mem_append.mpr (.inr hx)) .zero
    exact ⟨_, (up ih).trans st⟩
/-- **the same both ways** -/
theorem apart_symm (a b : Word) : apartOf a b = apartOf b a := by
  have one : ∀ a b : Word, apartOf a b ≤ apartOf b a := fun a b => by
    obtain ⟨ms, r⟩ := (reach_apart b a).rev
    exact apart_le_reach r
  have := one a b
  have := one b a
  omega
theorem slip_any {ls : List UInt8} {a b : Word} {n : Nat} (h : Reach ls n a b) (ms : List UInt8) : Reach (ls ++ ms) n a b := by
  induction h with
  | zero => exact .zero
  | step h r ih => exact .step (slip_more h fun x hx => List.mem_append.mpr (.inl hx)) ih
/-- **never more than by way of a third** -/
theorem apart_tri (a b c : Word) : apartOf a c ≤ apartOf a b + apartOf b c := by
  have h1 := slip_any (reach_apart a b) c
  have h2 : Reach (b ++ c) (apartOf b c) b c := by
    have h := reach_apart b c
    generalize apartOf b c = n at h
    revert h
    generalize hcc : c = cc
    intro h
    have hl : ∀ x ∈ cc, x ∈ b ++ cc := fun x hx => List.mem_append.mpr (.inr hx)
    generalize b ++ cc = ms at hl
    revert hl
    have : ∀ {ls : List UInt8} {n : Nat} {u v : Word}, Reach ls n u v → (∀ x ∈ ls, x ∈ ms) → Reach ms n u v := fun h hl => by
      induction h with
      | zero => exact .zero
      | step h r ih => exact .step (slip_more h hl) ih
    exact this h
  exact apart_le_reach (h1.trans h2)
end Ew
namespace Ew
open Po
/-! ### the last, the first letter that both have -/
theorem crossW_le {x y z : Ln} : ∀ {M : List Ln}, (∀ w ∈ M, crosses z w = true → crosses x w = true ∨ crosses y w = true) → crossW z M ≤ crossW x M + crossW y M
  | [], _ => by simp [crossW]
  | w :: r, h => by
    have ih := crossW_le (x := x) (y := y) (z := z) (M := r) fun v hv => h v (List.mem_cons_of_mem _ hv)
    have hw := h w (List.mem_cons_self ..)
    rw [crossW_cons, crossW_cons, crossW_cons]
    by_cases q : crosses z w = true
    · rcases hw q with e | e
      · rw [if_pos q, if_pos e]
        omega
      · rw [if_pos q, if_pos e]
        omega
    · rw [if_neg q]
      omega
theorem costL_ext {a a' b b' : Word} : ∀ {L : List Ln}, (∀ x ∈ L, a[x.1]? = a'[x.1]? ∧ b[x.2]? = b'[x.2]?) → costL a b L = costL a' b' L := by
  intro L h
  unfold costL
  congr 1
  induction L with
  | nil => rfl
  | cons x r ih =>
    simp only [misN]
    rw [ih fun y hy => h y (List.mem_cons_of_mem _ hy)]
    obtain ⟨e1, e2⟩ := h x (List.mem_cons_self ..)
    have e : mis a b x = mis a' b' x := by
      unfold mis
      rw [e1, e2]
    rw [e]
theorem apart_snoc (a b : Word) (x : UInt8) : apartOf (a ++ [x]) (b ++ [x]) = apartOf a b := by
  apply Nat.le_antisymm
  · exact apart_le_reach ((reach_apart a b).snoc [x])
  · obtain ⟨L, t, c⟩ := apart_lines (a ++ [x]) (b ++ [x])
    have la : (a ++ [x]).length = a.length + 1 := by simp
    have lb : (b ++ [x]).length = b.length + 1 := by simp
    rw [la, lb] at t c
    have key : ∀ M : List Ln, Tr a.length b.length M → apartOf a b + 2 * M.length ≤ a.length + b.length + costL (a ++ [x]) (b ++ [x]) M := fun M tM => by
      have := apart_le (a := a) (b := b) tM
      rw [costL_ext (a' := a ++ [x]) (b' := b ++ [x]) fun y hy => ?_] at this
      · exact this
      · obtain ⟨h1, h2⟩ := tM.lt y hy
        exact ⟨(List.getElem?_append_left h1).symm, (List.getElem?_append_left h2).symm⟩
    by_cases hr : ∃ l, (a.length, l) ∈ L
    · obtain ⟨l, hr⟩ := hr
      obtain ⟨M, pM⟩ := perm_front hr
      have tM := t.perm pM
      have lM : L.length = M.length + 1 := pM.length_eq
      have hM := tM.head
      have cM := costL_perm (a := a ++ [x]) (b := b ++ [x]) pM
      rw [costL_cons] at cM
      by_cases hc : ∃ k, (k, b.length) ∈ M
      · obtain ⟨k, hc⟩ := hc
        obtain ⟨M', pM'⟩ := perm_front hc
        have pL : L.Perm ((a.length, l) :: (k, b.length) :: M') := pM.trans (pM'.cons _)
        have tL := t.perm pL
        have lL : L.length = M'.length + 2 := pL.length_eq
        have h1 := tL.head
        have h2 := tL.tail.head
        have h12 := h1 (k, b.length) (by simp)
        have ki : k < a.length := by
          have := (tL.lt (k, b.length) (by simp)).1
          have := h12.1
          simp only [ne_eq] at *
          omega
        have lj : l < b.length := by
          have := (tL.lt (a.length, l) (by simp)).2
          have := h12.2
          simp only [ne_eq] at *
          omega
        have cr : crosses (a.length, l) (k, b.length) = true := by
          unfold crosses
          simp [ki, lj]
        have eC := costL_perm (a := a ++ [x]) (b := b ++ [x]) pL
        rw [costL_cons, costL_cons, crossW_cons, if_pos cr] at eC
        have tr : Tr a.length b.length ((k, l) :: M') := by
          have low : ∀ y ∈ M', y.1 < a.length ∧ y.2 < b.length := fun y hy => by
            obtain ⟨g1, g2⟩ := tL.tail.tail.lt y hy
            obtain ⟨n1, n2⟩ := h1 y (List.mem_cons_of_mem _ hy)
            obtain ⟨n3, n4⟩ := h2 y hy
            simp only [ne_eq] at n1 n2 n3 n4
            omega
          refine ⟨List.pairwise_cons.mpr ⟨fun y hy => ⟨(h2 y hy).1, (h1 y (List.mem_cons_of_mem _ hy)).2⟩, tL.tail.tail.pw⟩, fun y hy => ?_⟩
          rcases List.mem_cons.mp hy with e | hy
          · subst e
            exact ⟨ki, lj⟩
          · exact low y hy
        have kk := key _ tr
        rw [costL_cons] at kk
        have w : crossW (k, l) M' ≤ crossW (a.length, l) M' + crossW (k, b.length) M' := crossW_le fun y hy q => by
          obtain ⟨g1, g2⟩ := tL.tail.tail.lt y hy
          obtain ⟨n1, n2⟩ := h1 y (List.mem_cons_of_mem _ hy)
          obtain ⟨n3, n4⟩ := h2 y hy
          unfold crosses at q ⊢
          simp only [Bool.or_eq_true, Bool.and_eq_true, decide_eq_true_eq, ne_eq] at q n1 n2 n3 n4 ⊢
          omega
        have m : mis (a ++ [x]) (b ++ [x]) (k, l) ≤ mis (a ++ [x]) (b ++ [x]) (a.length, l) + mis (a ++ [x]) (b ++ [x]) (k, b.length) := by
          have ea : (a ++ [x])[a.length]? = some x := by simp
          have eb : (b ++ [x])[b.length]? = some x := by simp
          unfold mis
          simp only [ea, eb]
          split
          · omega
          · rename_i q
            split
            · rename_i q1
              split
              · rename_i q2
                exact absurd (q2.trans q1) q
              · omega
            · omega
        simp only [List.length_cons] at kk
        omega
      · have tr : Tr a.length b.length M := ⟨tM.tail.pw, fun y hy => by
          obtain ⟨g1, g2⟩ := tM.tail.lt y hy
          obtain ⟨n1, n2⟩ := hM y hy
          have n3 : y.2 ≠ b.length := fun e => hc ⟨y.1, by rw [← e]; exact hy⟩
          simp only [ne_eq] at n1
          omega⟩
        have kk := key M tr
        omega
    · by_cases hc : ∃ k, (k, b.length) ∈ L
      · obtain ⟨k, hc⟩ := hc
        obtain ⟨M, pM⟩ := perm_front hc
        have tM := t.perm pM
        have lM : L.length = M.length + 1 := pM.length_eq
        have hM := tM.head
        have cM := costL_perm (a := a ++ [x]) (b := b ++ [x]) pM
        rw [costL_cons] at cM
        have tr : Tr a.length b.length M := ⟨tM.tail.pw, fun y hy => by
          obtain ⟨g1, g2⟩ := tM.tail.lt y hy
          obtain ⟨n1, n2⟩ := hM y hy
          have n3 : y.1 ≠ a.length := fun e => hr ⟨y.2, by rw [← e]; exact pM.mem_iff.mpr (List.mem_cons_of_mem _ hy)⟩
          simp only [ne_eq] at n2
          omega⟩
        have kk := key M tr
        omega
      · have tr : Tr a.length b.length L := ⟨t.pw, fun y hy => by
          obtain ⟨g1, g2⟩ := t.lt y hy
          have n1 : y.1 ≠ a.length := fun e => hr ⟨y.2, by rw [← e]; exact hy⟩
          have n2 : y.2 ≠ b.length := fun e => hc ⟨y.1, by rw [← e]; exact hy⟩
          omega⟩
        have kk := key L tr
        omega
/-! ### a slip by what stands before and behind it -/
inductive Slip (ls : List UInt8) : Word → Word → Prop
  | taken (u v : Word) (x : UInt8) : Slip ls (u ++ x :: v) (u ++ v)
  | put (u v : Word) {d : UInt8} (hd : d ∈ ls) : Slip ls (u ++ v) (u ++ d :: v)
  | changed (u v : Word) {d x : UInt8} (hd : d ∈ ls) (ne : d ≠ x) : Slip ls (u ++ x :: v) (u ++ d :: v)
  | exchanged (u v : Word) {x y : UInt8} (ne : x ≠ y) : Slip ls (u ++ x :: y :: v) (u ++ y :: x :: v)
theorem drop_at' {a : Word} {i : Nat} {x : UInt8} (h : a[i]? = some x) : a.drop i = x :: a.drop (i + 1) := by
  obtain ⟨hl, e⟩ := List.getElem?_eq_some_iff.mp h
  rw [← e, List.drop_eq_getElem_cons hl]
theorem slip_iff {ls : List UInt8} {a c : Word} : c ∈ slipped ls a ↔ Slip ls a c := by
  constructor
  · intro h
    rcases slipped_mem.mp h with h | h | h | h
    · obtain ⟨i, hi, rfl⟩ := taken_mem.mp h
      have e : a = a.take i ++ a[i] :: a.drop (i + 1) := by rw [← List.drop_eq_getElem_cons hi, List.take_append_drop]
      have := Slip.taken (ls := ls) (a.take i) (a.drop (i + 1)) a[i]
      rw [← e] at this
      exact this
    · obtain ⟨i, d, hi, hd, rfl⟩ := put_mem.mp h
      have := Slip.put (ls := ls) (a.take i) (a.drop i) hd
      rw [List.take_append_drop] at this
      exact this
    · obtain ⟨i, d, x, hi, hd, hx, rfl⟩ := changed_mem.mp h
      have e : a = a.take i ++ x :: a.drop (i + 1) := by rw [← drop_at' hi, List.take_append_drop]
      have := Slip.changed (ls := ls) (a.take i) (a.drop (i + 1)) hd hx
      rw [← e] at this
      exact this
    · obtain ⟨i, x, y, h1, h2, hx, rfl⟩ := exchanged_mem.mp h
      have e : a = a.take i ++ x :: y :: a.drop (i + 2) := by rw [← drop_at' h2, ← drop_at' h1, List.take_append_drop]
      have := Slip.exchanged (ls := ls) (a.take i) (a.drop (i + 2)) hx
      rw [← e] at this
      exact this
  · intro h
    cases h with
    | taken u v x => exact slipped_mem.mpr (.inl (taken_mem.mpr ⟨u.length, by simp, by simp⟩))
    | put u v hd => exact slipped_mem.mpr (.inr (.inl (put_mem.mpr ⟨u.length, _, by simp, hd, by simp⟩)))
    | changed u v hd ne => exact slipped_mem.mpr (.inr (.inr (.inl (changed_mem.mpr ⟨u.length, _, _, by simp, hd, ne, by simp⟩))))
    | exchanged u v ne => exact slipped_mem.mpr (.inr (.inr (.inr (exchanged_mem.mpr ⟨u.length, _, _, by simp, by simp, ne, by simp⟩))))
theorem slip_rev {ls : List UInt8} {a c : Word} (h : c ∈ slipped ls a) : c.reverse ∈ slipped ls a.reverse := by
  rw [slip_iff] at h ⊢
  cases h with
  | taken u v x => simpa using Slip.taken (ls := ls) v.reverse u.reverse x
  | put u v hd => simpa using Slip.put (ls := ls) v.reverse u.reverse hd
  | changed u v hd ne => simpa using Slip.changed (ls := ls) v.reverse u.reverse hd ne
  | exchanged u v ne => simpa using Slip.exchanged (ls := ls) v.reverse u.reverse (Ne.symm ne)
theorem Reach.mirror {ls : List UInt8} {n : Nat} {a b : Word} (h : Reach ls n a b) : Reach ls n a.reverse b.reverse := by
  induction h with
  | zero => exact .zero
  | step h r ih => exact .step (slip_rev h) ih
theorem apart_mirror (a b : Word) : apartOf a.reverse b.reverse = apartOf a b := by
  have one : ∀ a b : Word, apartOf a.reverse b.reverse ≤ apartOf a b := fun a b => apart_le_reach (reach_apart a b).mirror
  have h1 := one a b
  have h2 := one a.reverse b.reverse
  rw [List.reverse_reverse, List.reverse_reverse] at h2
  omega
theorem apart_cons (a b : Word) (x : UInt8) : apartOf (x :: a) (x :: b) = apartOf a b := by
  rw [← apart_mirror, List.reverse_cons, List.reverse_cons, apart_snoc, apart_mirror]
end Ew
namespace Ew
open Po
/-! ### the next word of the chain: the first of those that are nearer -/
def firstOf (o : Option Word) (c : Word) : Option Word := match o with
  | none => some c
  | some d => if before c d = true then some c else some d
theorem firstOf_fold : ∀ (L : List Word) (d : Word), ∃ m, L.foldl firstOf (some d) = some m ∧ (m = d ∨ m ∈ L) ∧ before d m = false ∧ ∀ c ∈ L, before c m = false
  | [], d => ⟨d, rfl, .inl rfl, before_irrefl d, fun c h => by cases h⟩
  | c :: r, d => by
    rw [List.foldl_cons]
    unfold firstOf
    simp only []
    by_cases h : before c d = true
    · rw [if_pos h]
      obtain ⟨m, e, hm, h1, h2⟩ := firstOf_fold r c
      refine ⟨m, e, .inr ?_, ?_, fun x hx => ?_⟩
      · rcases hm with q | q
        · exact List.mem_cons.mpr (.inl q)
        · exact List.mem_cons_of_mem _ q
      · cases q : before d m with
        | false => rfl
        | true =>
          rw [before_trans h q] at h1
          cases h1
      · rcases List.mem_cons.mp hx with q | q
        · rw [q]; exact h1
        · exact h2 x q
    · rw [if_neg h]
      obtain ⟨m, e, hm, h1, h2⟩ := firstOf_fold r d
      refine ⟨m, e, ?_, h1, fun x hx => ?_⟩
      · rcases hm with q | q
        · exact .inl q
        · exact .inr (List.mem_cons_of_mem _ q)
      · rcases List.mem_cons.mp hx with q | q
        · rw [q]
          cases q' : before c m with
          | false => rfl
          | true =>
            -- c before m, not before d: then d is not before m only if d = m or m before d
            exfalso
            cases z : before m d with
            | true => exact h (before_trans q' z)
            | false =>
              have : d = m := before_tri h1 z
              subst this
              exact h q'
        · exact h2 x q
theorem firstOf_none (L : List Word) (h : L ≠ []) : ∃ m, L.foldl firstOf none = some m ∧ m ∈ L ∧ ∀ c ∈ L, before c m = false := by
  cases L with
  | nil => exact absurd rfl h
  | cons c r =>
    obtain ⟨m, e, hm, h1, h2⟩ := firstOf_fold r c
    refine ⟨m, e, ?_, fun x hx => ?_⟩
    · rcases hm with q | q
      · exact List.mem_cons.mpr (.inl q)
      · exact List.mem_cons_of_mem _ q
    · rcases List.mem_cons.mp hx with q | q
      · rw [q]; exact h1
      · exact h2 x q
theorem nextOf_eq (b : Word) (n : Nat) (a : Word) : nextOf b n a = (((slipped b a).filter fun (c : Word) => apartOf c b == n).foldl firstOf none).getD b := rfl
theorem next_spec {a b : Word} {n : Nat} (h : apartOf a b = n + 1) : nextOf b n a ∈ slipped b a ∧ apartOf (nextOf b n a) b = n ∧ ∀ c ∈ slipped b a, apartOf c b = n → before c (nextOf b n a) = false := by
  obtain ⟨c, hc, hn⟩ := next_ex h
  have hm : c ∈ (slipped b a).filter fun (c : Word) => apartOf c b == n := List.mem_filter.mpr ⟨hc, by simp [hn]⟩
  obtain ⟨m, e, h1, h2⟩ := firstOf_none ((slipped b a).filter fun (c : Word) => apartOf c b == n) (fun q => by rw [q] at hm; cases hm)
  have en : nextOf b n a = m := by
    rw [nextOf_eq, e]
    rfl
  rw [en]
  obtain ⟨g1, g2⟩ := List.mem_filter.mp h1
  exact ⟨g1, by simpa using g2, fun d hd q => h2 d (List.mem_filter.mpr ⟨hd, by simp [q]⟩)⟩
/-- **the first of all that are nearer**, whatever the letters they were sought with -/
theorem next_unique {ls : List UInt8} {a b c : Word} {n : Nat} (h : apartOf a b = n + 1) (hl : ∀ x ∈ b, x ∈ ls) (hc : c ∈ slipped ls a) (hn : apartOf c b = n) (hf : ∀ d ∈ slipped ls a, apartOf d b = n → before d c = false) : nextOf b n a = c := by
  obtain ⟨h1, h2, h3⟩ := next_spec h
  have c' : c ∈ slipped b a := slip_near hc (by omega)
  exact before_tri (hf _ (slip_more h1 hl) h2) (h3 c c' hn)
theorem chain_zero {a b : Word} (h : apartOf a b = 0) : chainOf a b = [b] := by
  unfold chainOf
  rw [h]
  rfl
theorem chain_len (b : Word) : ∀ (n : Nat) (a : Word), (chainFrom b n a).length = n + 1
  | 0, _ => rfl
  | n + 1, a => by
    unfold chainFrom
    rw [List.length_cons, chain_len b n]
end Ew
namespace Ew
open Po
/-! ### the near ones: nearer first, of equally near ones the lesser number -/
/-- how far the i-th of a list is -/
def farAt (l : List Word) (a : Word) (i : Nat) : Nat := apartOf (l.getD i []) a
def nearer (l : List Word) (a : Word) (i j : Nat) : Prop := farAt l a i < farAt l a j ∨ (farAt l a i = farAt l a j ∧ i < j)
theorem nearer_irrefl {l : List Word} {a : Word} {i : Nat} : ¬ nearer l a i i := by
  unfold nearer
  omega
theorem nearer_asymm {l : List Word} {a : Word} {i j : Nat} (h : nearer l a i j) : ¬ nearer l a j i := by
  unfold nearer at *
  omega
theorem pairwise_unique {r : Nat → Nat → Prop} (irr : ∀ i, ¬ r i i) (asy : ∀ i j, r i j → ¬ r j i) : ∀ {l m : List Nat}, l.Pairwise r → m.Pairwise r → (∀ w, w ∈ l ↔ w ∈ m) → l = m
  | [], [], _, _, _ => rfl
  | [], y :: m, _, _, h => by
    have := (h y).mpr (by simp)
    cases this
  | x :: l, [], _, _, h => by
    have := (h x).mp (by simp)
    cases this
  | x :: l, y :: m, h1, h2, h => by
    obtain ⟨a1, b1⟩ := List.pairwise_cons.mp h1
    obtain ⟨a2, b2⟩ := List.pairwise_cons.mp h2
    have e : x = y := by
      have m1 := (h x).mp (by simp)
      have m2 := (h y).mpr (by simp)
      rcases List.mem_cons.mp m1 with e | m1
      · exact e
      rcases List.mem_cons.mp m2 with e | m2
      · exact e.symm
      exact absurd (a1 y m2) (asy _ _ (a2 x m1))
    subst e
    refine congrArg _ (pairwise_unique irr asy b1 b2 fun w => ?_)
    have hw := h w
    constructor
    · intro hm
      rcases List.mem_cons.mp (hw.mp (List.mem_cons_of_mem _ hm)) with e | q
      · subst e
        exact absurd (a1 w hm) (irr w)
      · exact q
    · intro hm
      rcases List.mem_cons.mp (hw.mpr (List.mem_cons_of_mem _ hm)) with e | q
      · subst e
        exact absurd (a2 w hm) (irr w)
      · exact q
theorem near_mem {l : List Word} {a : Word} {most i : Nat} : i ∈ nearOf l a most ↔ i < l.length ∧ farAt l a i ≤ most := by
  unfold nearOf
  rw [List.mem_map]
  constructor
  · rintro ⟨x, hx, rfl⟩
    rw [List.mem_mergeSort, List.mem_filter, List.mem_map] at hx
    obtain ⟨⟨j, hj, rfl⟩, hd⟩ := hx
    exact ⟨List.mem_range.mp hj, of_decide_eq_true hd⟩
  · rintro ⟨h1, h2⟩
    refine ⟨(i, farAt l a i), ?_, rfl⟩
    rw [List.mem_mergeSort, List.mem_filter, List.mem_map]
    exact ⟨⟨i, List.mem_range.mpr h1, rfl⟩, decide_eq_true h2⟩
theorem near_order (l : List Word) (a : Word) (most : Nat) : (nearOf l a most).Pairwise (nearer l a) := by
  unfold nearOf
  rw [List.pairwise_map]
  generalize hL : (((List.range l.length).map fun (i : Nat) => (i, apartOf (l.getD i []) a)).filter fun (x : Nat × Nat) => decide (x.2 ≤ most)) = L
  have hd : ∀ x ∈ L, x.2 = farAt l a x.1 := by
    intro x hx
    rw [← hL, List.mem_filter, List.mem_map] at hx
    obtain ⟨⟨j, _, rfl⟩, _⟩ := hx
    rfl
  have nd : L.Pairwise fun x y => x.1 ≠ y.1 := by
    rw [← hL]
    refine List.Pairwise.filter _ ?_
    rw [List.pairwise_map]
    exact List.nodup_range.imp fun h => h
  have s : (L.mergeSort fun (x y : Nat × Nat) => decide (x.2 < y.2) || (x.2 == y.2 && decide (x.1 ≤ y.1))).Pairwise fun x y => (decide (x.2 < y.2) || (x.2 == y.2 && decide (x.1 ≤ y.1))) = true := by
    apply List.pairwise_mergeSort
    · intro x y z h1 h2
      simp only [Bool.or_eq_true, decide_eq_true_eq, Bool.and_eq_true, beq_iff_eq] at *
      omega
    · intro x y
      simp only [Bool.or_eq_true, decide_eq_true_eq, Bool.and_eq_true, beq_iff_eq]
      omega
  have nd2 : (L.mergeSort fun (x y : Nat × Nat) => decide (x.2 < y.2) || (x.2 == y.2 && decide (x.1 ≤ y.1))).Pairwise fun x y => x.1 ≠ y.1 := by
    have p := List.mergeSort_perm L fun (x y : Nat × Nat) => decide (x.2 < y.2) || (x.2 == y.2 && decide (x.1 ≤ y.1))
    exact (p.pairwise_iff fun h => fun e => h e.symm).mpr nd
  have both := s.and nd2
  refine List.Pairwise.imp_of_mem (fun {x y} hx hy h => ?_) both
  have ex := hd x (List.mem_mergeSort.mp hx)
  have ey := hd y (List.mem_mergeSort.mp hy)
  obtain ⟨h1, h2⟩ := h
  simp only [Bool.or_eq_true, decide_eq_true_eq, Bool.and_eq_true, beq_iff_eq] at h1
  unfold nearer
  rw [← ex, ← ey]
  omega
theorem near_unique {l : List Word} {a : Word} {most : Nat} {ys : List Nat} (h : ys.Pairwise (nearer l a)) (hm : ∀ i, i ∈ ys ↔ i < l.length ∧ farAt l a i ≤ most) : ys = nearOf l a most :=
  pairwise_unique (fun _ => nearer_irrefl) (fun _ _ => nearer_asymm) h (near_order l a most) fun i => by rw [hm, near_mem]
end Ew
namespace Ew
open Po WqatckNeutral
/-! ### bytes as whole numbers -/
def wz (l : Bytes) : List Int := l.map fun (b : UInt8) => (b.toNat : Int)
def IsBytes (ns : List Int) : Prop := ∀ z ∈ ns, 0 ≤ z ∧ z ≤ 255
theorem wz_bytes : ∀ {ns : List Int}, IsBytes ns → wz (bytes ns) = ns
  | [], _ => rfl
  | z :: r, h => by
    have hz := h z (List.mem_cons_self ..)
    have ih := wz_bytes (ns := r) fun y hy => h y (List.mem_cons_of_mem _ hy)
    show ((UInt8.ofNat z.toNat).toNat : Int) :: wz (bytes r) = z :: r
    rw [ih]
    have e : (UInt8.ofNat z.toNat).toNat = z.toNat := UInt8.toNat_ofNat_of_lt' (by show z.toNat < 256; omega)
    rw [e]
    congr 1
    omega
theorem bytes_wz : ∀ (l : Bytes), bytes (wz l) = l
  | [] => rfl
  | b :: r => by
    show UInt8.ofNat ((b.toNat : Int)).toNat :: bytes (wz r) = b :: r
    rw [bytes_wz r, Int.toNat_natCast, UInt8.ofNat_toNat]
theorem wz_isBytes (l : Bytes) : IsBytes (wz l) := by
  intro z hz
  obtain ⟨b, _, rfl⟩ := List.mem_map.mp hz
  have := UInt8.toNat_lt b
  omega
theorem bytes_len (ns : List Int) : (bytes ns).length = ns.length := List.length_map _
theorem wz_len (l : Bytes) : (wz l).length = l.length := List.length_map _
theorem wz_inj {l m : Bytes} (h : wz l = wz m) : l = m := by rw [← bytes_wz l, h, bytes_wz]
theorem bytes_inj {l m : List Int} (hl : IsBytes l) (hm : IsBytes m) (h : bytes l = bytes m) : l = m := by rw [← wz_bytes hl, h, wz_bytes hm]
theorem wz_nums (l : Bytes) : (Wqatck.nums l).map WqatckNeutral.int = wz l := by
  unfold Wqatck.nums wz
  rw [List.map_map]
  rfl
/-! ### what is a word -/
def letterZ (z : Int) : Bool := (decide (48 ≤ z) && decide (z ≤ 57)) || (decide (97 ≤ z) && decide (z ≤ 122))
def wordZ (ns : List Int) : Bool := decide (ns.length ≤ 32) && ns.all letterZ
theorem letter_eq (b : UInt8) : isLetter b = letterZ (b.toNat : Int) := by
  unfold isLetter isDigit letterZ
  have h1 : decide ((48 : UInt8) ≤ b) = decide ((48 : Int) ≤ (b.toNat : Int)) := by
    apply decide_eq_decide.mpr
    rw [UInt8.le_iff_toNat_le]
    show 48 ≤ b.toNat ↔ _
    omega
  have h2 : decide (b ≤ (57 : UInt8)) = decide ((b.toNat : Int) ≤ 57) := by
    apply decide_eq_decide.mpr
    rw [UInt8.le_iff_toNat_le]
    show b.toNat ≤ 57 ↔ _
    omega
  have h3 : decide ((97 : UInt8) ≤ b) = decide ((97 : Int) ≤ (b.toNat : Int)) := by
    apply decide_eq_decide.mpr
    rw [UInt8.le_iff_toNat_le]
    show 97 ≤ b.toNat ↔ _
    omega
  have h4 : decide (b ≤ (122 : UInt8)) = decide ((b.toNat : Int) ≤ 122) := by
    apply decide_eq_decide.mpr
    rw [UInt8.le_iff_toNat_le]
    show b.toNat ≤ 122 ↔ _
    omega
  rw [h1, h2, h3, h4]
theorem all_wz (l : Bytes) : l.all isLetter = (wz l).all letterZ := by
  induction l with
  | nil => rfl
  | cons b r ih =>
    show (isLetter b && r.all isLetter) = (letterZ (b.toNat : Int) && (wz r).all letterZ)
    rw [ih, letter_eq]
theorem wordOk_eq {ns : List Int} (h : IsBytes ns) : wordOk (bytes ns) = wordZ ns := by
  unfold wordOk wordZ LONG
  rw [bytes_len, all_wz, wz_bytes h]
theorem word_bytes {ns : List Int} (h : wordZ ns = true) : IsBytes ns := by
  intro z hz
  have h2 := List.all_eq_true.mp (Bool.and_eq_true_iff.mp h).2 z hz
  unfold letterZ at h2
  simp only [Bool.or_eq_true, Bool.and_eq_true, decide_eq_true_eq] at h2
  omega
theorem word_len {ns : List Int} (h : wordZ ns = true) : ns.length ≤ 32 := of_decide_eq_true (Bool.and_eq_true_iff.mp h).1
/-! ### what is due -/
theorem apart_due {a b : List Int} (ha : IsBytes a) (hb : IsBytes b) : PyWqatck.apart a b = if wordZ a = false ∨ wordZ b = false then [-1] else [(apartOf (bytes a) (bytes b) : Int)] := by
  show (let y := Wqatck.answer (.apart (bytes a) (bytes b)); y.ret :: y.nums.map WqatckNeutral.int) = _
  simp only [Wqatck.answer]
  rw [wordOk_eq ha, wordOk_eq hb]
  split <;> rfl
def toldZ (w : Word) : List Int := (w.length : Int) :: wz w
theorem chain_due {a b : List Int} (ha : IsBytes a) (hb : IsBytes b) : PyWqatck.chain a b = if wordZ a = false ∨ wordZ b = false then [-1] else if 16 < a.length ∨ 16 < b.length then [-2] else (apartOf (bytes a) (bytes b) : Int) :: (chainOf (bytes a) (bytes b)).flatMap toldZ := by
  show (let y := Wqatck.answer (.chain (bytes a) (bytes b)); y.ret :: y.nums.map WqatckNeutral.int) = _
  simp only [Wqatck.answer]
  rw [wordOk_eq ha, wordOk_eq hb, bytes_len, bytes_len]
  unfold CHAINED
  split
  · rfl
  · split
    · rfl
    · simp only []
      congr 1
      rw [List.map_flatMap]
      congr 1
      funext w
      unfold Wqatck.counted toldZ
      rw [List.map_cons, wz_nums]
      rfl
theorem one_due {a : List Int} (ha : IsBytes a) : PyWqatck.one_ a = if wordZ a = false then [-1] else [((onesOf (bytes a)).length : Int)] := by
  show (let y := Wqatck.answer (.one (bytes a)); y.ret :: y.nums.map WqatckNeutral.int) = _
  simp only [Wqatck.answer]
  rw [wordOk_eq ha]
  split <;> rfl
theorem nth_due {i : Int} {a : List Int} (ha : IsBytes a) : PyWqatck.nth i a = if wordZ a = false then [-1] else match (onesOf (bytes a))[i.toNat]? with
    | some w => toldZ w
    | none => [-3] := by
  show (let y := Wqatck.answer (.nth (WqatckNeutral.nat i) (bytes a)); y.ret :: y.nums.map WqatckNeutral.int) = _
  simp only [Wqatck.answer]
  rw [wordOk_eq ha]
  split
  · rfl
  · show _ = match (onesOf (bytes a))[WqatckNeutral.nat i]? with
      | some w => toldZ w
      | none => [-3]
    cases (onesOf (bytes a))[WqatckNeutral.nat i]? with
    | none => rfl
    | some w =>
      simp only [Wqatck.rowAns]
      rw [wz_nums]
      unfold toldZ Wqatck.nums
      rw [List.length_map]
theorem near_due {most : Int} {l a : List Int} (ha : IsBytes a) : PyWqatck.near most l a = if 4096 < l.length then [-2] else match readList (bytes l) with
    | .error k => [-6, (k : Int)]
    | .ok ws => if wordZ a = false then [-1] else ((nearOf ws (bytes a) most.toNat).length : Int) :: (nearOf ws (bytes a) most.toNat).map fun (n : Nat) => (n : Int) := by
  show (let y := Wqatck.answer (.near (WqatckNeutral.nat most) (bytes l) (bytes a)); y.ret :: y.nums.map WqatckNeutral.int) = _
  simp only [Wqatck.answer]
  rw [wordOk_eq ha, bytes_len]
  unfold LIST
  split
  · rfl
  · cases readList (bytes l) with
    | error k => rfl
    | ok ws =>
      simp only []
      split
      · rfl
      · rfl
end Ew
namespace Ew
open Po
/-! ### the table's rows as whole numbers, a letter of a at a time -/
theorem dist_take {a b : Word} {m n : Nat} (hm : m ≤ a.length) (hn : n ≤ b.length) : ∀ (t i j : Nat), i + j ≤ t → i ≤ m → j ≤ n → dist (a.take m) (b.take n) i j = dist a b i j
  | t, 0, j, _, _, hj => by rw [dist_zero _ _ (by rw [List.length_take]; omega), dist_zero _ _ (by omega)]
  | t, i + 1, 0, _, _, _ => by rw [dist_left, dist_left]
  | 0, i + 1, j + 1, h, _, _ => absurd h (by omega)
  | t + 1, i + 1, j + 1, h, hi, hj => by
    have la : (a.take m).length = m := by rw [List.length_take]; omega
    have lb : (b.take n).length = n := by rw [List.length_take]; omega
    rw [dist_succ (by omega) (by omega), dist_succ (by omega) (by omega)]
    have ha : (a.take m)[i]? = a[i]? := List.getElem?_take_of_lt (by omega)
    have hb : (b.take n)[j]? = b[j]? := List.getElem?_take_of_lt (by omega)
    have ta : (a.take m).take i = a.take i := by rw [List.take_take]; congr 1; omega
    have tb : (b.take n).take j = b.take j := by rw [List.take_take]; congr 1; omega
    unfold cellD
    simp only [Nat.add_sub_cancel, ha, hb, ta, tb]
    have hai : a[i]? = some a[i] := List.getElem?_eq_getElem (by omega)
    have hbj : b[j]? = some b[j] := List.getElem?_eq_getElem (by omega)
    rw [hai, hbj]
    simp only [Option.map_some, Option.getD_some]
    have k1 : lastAt b[j] (a.take i) ≤ i := Nat.le_trans (lastAt_le _ _) (by rw [List.length_take]; omega)
    have k2 : lastAt a[i] (b.take j) ≤ j := Nat.le_trans (lastAt_le _ _) (by rw [List.length_take]; omega)
    rw [dist_take hm hn t i (j + 1) (by omega) (by omega) (by omega), dist_take hm hn t (i + 1) j (by omega) (by omega) (by omega), dist_take hm hn t i j (by omega) (by omega) (by omega),
      dist_take hm hn t (lastAt b[j] (a.take i) - 1) (lastAt a[i] (b.take j) - 1) (by omega) (by omega) (by omega)]
theorem dist_apart {a b : Word} {i j : Nat} (hi : i ≤ a.length) (hj : j ≤ b.length) : dist a b i j = apartOf (a.take i) (b.take j) := by
  rw [apart_dist, List.length_take, List.length_take, Nat.min_eq_left hi, Nat.min_eq_left hj, dist_take hi hj (i + j) i j (Nat.le_refl _) (Nat.le_refl _) (Nat.le_refl _)]
theorem take_snoc1 {a : Word} {i : Nat} {x : UInt8} (h : a[i]? = some x) : a.take (i + 1) = a.take i ++ [x] := by
  rw [List.take_add_one, h]
  rfl
theorem dist_same {a b : Word} {i j : Nat} {x : UInt8} (hi : a[i]? = some x) (hj : b[j]? = some x) : dist a b (i + 1) (j + 1) = dist a b i j := by
  have h1 := (List.getElem?_eq_some_iff.mp hi).1
  have h2 := (List.getElem?_eq_some_iff.mp hj).1
  rw [dist_apart (by omega) (by omega), dist_apart (by omega) (by omega), take_snoc1 hi, take_snoc1 hj, apart_snoc]
theorem dist_other {a b : Word} {i j : Nat} {x y : UInt8} (hi : a[i]? = some x) (hj : b[j]? = some y) (h : x ≠ y) :
    dist a b (i + 1) (j + 1) = (let least := min (min (dist a b i (j + 1) + 1) (dist a b (i + 1) j + 1)) (dist a b i j + 1)
      if lastTo y a i = 0 ∨ lastTo x b j = 0 then least else min least (dist a b (lastTo y a i - 1) (lastTo x b j - 1) + (i + 1 - lastTo y a i - 1) + 1 + (j + 1 - lastTo x b j - 1))) := by
  have h1 := (List.getElem?_eq_some_iff.mp hi).1
  have h2 := (List.getElem?_eq_some_iff.mp hj).1
  rw [dist_succ h1 h2]
  unfold cellD
  have e : ¬ a[i]? = b[j]? := by rw [hi, hj]; exact fun z => h (Option.some.inj z)
  simp only [Nat.add_sub_cancel, if_neg e]
  rw [hi, hj]
  simp only [Option.map_some, Option.getD_some]
  rw [lastAt_take (by omega), lastAt_take (by omega)]
def rowZ (a b : Word) (i : Nat) : List Int := (List.range (b.length + 1)).map fun (j : Nat) => (dist a b i j : Int)
theorem rowZ_len (a b : Word) (i : Nat) : (rowZ a b i).length = b.length + 1 := by unfold rowZ; rw [List.length_map, List.length_range]
theorem rowZ_at {a b : Word} {i j : Nat} (h : j ≤ b.length) : (rowZ a b i)[j]? = some (dist a b i j : Int) := by
  unfold rowZ
  rw [List.getElem?_map, List.getElem?_range (by omega)]
  rfl
theorem rowZ_zero (a b : Word) : rowZ a b 0 = (List.range (b.length + 1)).map fun (j : Nat) => (j : Int) := by
  unfold rowZ
  apply List.map_congr_left
  intro j hj
  rw [List.mem_range] at hj
  rw [dist_zero a b (by omega)]
/-- the row as far as it is made -/
theorem rowZ_start (a b : Word) (i : Nat) : (rowZ a b i).take 1 = [(i : Int)] := by
  have h := rowZ_at (a := a) (b := b) (i := i) (j := 0) (Nat.zero_le _)
  rw [List.take_add_one, List.take_zero, h, dist_left]
  rfl
theorem rowZ_more {a b : Word} {i j : Nat} (h : j < b.length) : (rowZ a b i).take (j + 2) = (rowZ a b i).take (j + 1) ++ [(dist a b i (j + 1) : Int)] := by
  rw [List.take_add_one (i := j + 1), rowZ_at (by omega)]
  rfl
theorem rowZ_full (a b : Word) (i : Nat) : (rowZ a b i).take (b.length + 1) = rowZ a b i := by
  rw [← rowZ_len a b i, List.take_length]
theorem rowZ_last (a b : Word) (i : Nat) : ∃ l, rowZ a b i = l ++ [(dist a b i b.length : Int)] := by
  refine ⟨(rowZ a b i).take b.length, ?_⟩
  have e := rowZ_full a b i
  rw [List.take_add_one, rowZ_at (Nat.le_refl _)] at e
  exact e.symm
/-- the least of three, of two, as they are looked for -/
def least3 (x y z : Int) : Int := if y < x then (if z < y then z else y) else (if z < x then z else x)
def least2 (x y : Int) : Int := if y < x then y else x
theorem cell_other {a b : Word} {i j : Nat} {x y : UInt8} (hi : a[i]? = some x) (hj : b[j]? = some y) (h : x ≠ y) (h0 : lastTo y a i = 0 ∨ lastTo x b j = 0) :
    1 + least3 (dist a b i j) (dist a b i (j + 1)) (dist a b (i + 1) j) = (dist a b (i + 1) (j + 1) : Int) := by
  rw [dist_other hi hj h]
  simp only [if_pos h0]
  unfold least3
  split <;> split <;> omega
theorem cell_swap {a b : Word} {i j : Nat} {x y : UInt8} (hi : a[i]? = some x) (hj : b[j]? = some y) (h : x ≠ y) (h1 : lastTo y a i ≠ 0) (h2 : lastTo x b j ≠ 0) :
    least2 (1 + least3 (dist a b i j) (dist a b i (j + 1)) (dist a b (i + 1) j)) ((dist a b (lastTo y a i - 1) (lastTo x b j - 1) : Int) + (((i + 1 : Nat) : Int) - (lastTo y a i : Int) - 1 + (j : Int) - (lastTo x b j : Int)) + 1) = (dist a b (i + 1) (j + 1) : Int) := by
  have k1 := lastTo_le y a i
  have k2 := lastTo_le x b j
  rw [dist_other hi hj h]
  simp only [if_neg (show ¬ (lastTo y a i = 0 ∨ lastTo x b j = 0) by omega)]
  generalize dist a b (lastTo y a i - 1) (lastTo x b j - 1) = d
  unfold least2 least3
  split <;> split <;> (try split) <;> omega
end Ew
/-! TOOLS over the hand layer: plain expressions, enumerate, a text's signs, tables of the module -/
namespace L2
open PySem PySem.Spec PyProof.Rows
/-- an expression that is read and leaves the heap as it is -/
def Ev (t : TE) (σ : St) (H : Hp) (v : V) : Prop := ∀ R : VK, R v H → t σ H R
theorem ev_c {v : V} {σ : St} {H : Hp} : Ev (tC v) σ H v := fun _ h => h
theorem ev_v {i : Nat} {σ : St} {H : Hp} {v : V} (h : σ[i]? = some (some v)) : Ev (tVar i) σ H v := fun _ r => ⟨v, h, r⟩
theorem Ev.i2 {g : Int → Int → V} {ta tb : TE} {σ : St} {H : Hp} {x y : Int} (a : Ev ta σ H (.int x)) (b : Ev tb σ H (.int y)) : Ev (tOp (rI0 g) ta tb) σ H (g x y) := fun _ h => a _ (b _ ⟨x, y, rfl, rfl, h⟩)
theorem Ev.eqI {ta tb : TE} {σ : St} {H : Hp} {x y : Int} (a : Ev ta σ H (.int x)) (b : Ev tb σ H (.int y)) : Ev (tOp rEq ta tb) σ H (.bl (decide (x = y))) := fun R h => a _ (b _ ⟨rfl, by
  have e : decide (V.int x = V.int y) = decide (x = y) := by rw [dec_int, Bool.beq_eq_decide_eq]
  show R (.bl (decide (V.int x = V.int y))) H
  rw [e]
  exact h⟩)
theorem Ev.chain {g g' : Int → Int → Bool} {ta tb tc : TE} {σ : St} {H : Hp} {x y z : Int} (a : Ev ta σ H (.int x)) (b : Ev tb σ H (.int y)) (c : Ev tc σ H (.int z)) :
    Ev (tChain (rI0 fun i j => .bl (g i j)) (rI0 fun i j => .bl (g' i j)) ta tb tc) σ H (.bl (g x y && g' y z)) := fun R h => a _ (b _ ⟨x, y, rfl, rfl, _, rfl, by
  cases e : g x y with
  | false =>
    rw [e, Bool.false_and] at h
    exact iteF h
  | true =>
    rw [e, Bool.true_and] at h
    exact iteT (c _ ⟨y, z, rfl, rfl, h⟩)⟩)
theorem Ev.test {t : TE} {σ : St} {H : Hp} {k : Bool} (h : Ev t σ H (.bl k)) {Q : Bool → Hp → Prop} (q : Q k H) : tTest t σ H Q := h _ ⟨k, rfl, q⟩
theorem Ev.tb {t : TE} {σ : St} {H : Hp} {k : Bool} (h : Ev t σ H (.bl k)) {Q : Bool → Hp → Prop} (q : Q k H) : tB t σ H Q := h _ ⟨k, rfl, q⟩
/-- a whole number of the module -/
def GI (mg : Str → Option Value) (x : Str) (i : Int) : Prop := ∃ t, mg x = some (.int i t)
theorem pe_gi {X : Cx} {x : Str} {i : Int} {pos : Pos} (h : GI X.mg x i) (hg : Gl X x := by rfl) (hd : (x == ("__debug__" : Str)) = false := by decide) : PE X (.Name x pos) (tC (.int i)) := by
  obtain ⟨t, e⟩ := h
  exact pe_glob hg e ⟨t, rfl⟩ hd
/-- a def of the text that is called by its name -/
structure Def (P : Program) (w : World) (K : PySem.W.Frag) (mg : Str → Option Value) (base : Heap) (x : Str) (k : Nat) (ps : List Str) (sp : Sp) : Prop where
  ex : ∃ f fd, FnOk P w K mg base CX0 k f fd ps sp ∧ Binds K fd ps [] ∧ mg x = some (.ref f) ∧ PySem.W.keepIn K (.ref f) = true
theorem Def.call {X : Cx} {x : Str} {k : Nat} {ps : List Str} {sp : Sp} {e : Expr} {es : List Expr} {t : TA} {p pos : Pos} (D : Def X.prog X.w X.K X.mg X.base x k ps sp) (hr : Room k X.A) (ha : PA X (e :: es) t) (hg : Gl X x := by rfl)
    (hdb : (x == ("__debug__" : Str)) = false := by decide) (he : starEach (e :: es) X.env = (false, eval e X.env) :: starEach es X.env := by rfl) (hpl : (backTo pos (starEach es X.env)).any (·.1) = false := by rfl) :
    PE X (.Call (.Name x p) (e :: es) [] pos) (tCall sp [] E0 t) := by
  obtain ⟨f, fd, F, b, m, kp⟩ := D.ex
  exact pe_call F hr hg m kp b .nil pass0 ha hdb he hpl
/-- for .. in enumerate(list) -/
theorem for_enum {K : PySem.W.Frag} {a : Addr} {xs : List V} {g : TG} {tb : TS} {D : Ends} {σ : St} {H : Hp} (Pv : Nat → St → Hp → Prop) (h0 : Pv 0 σ H) (hl : ∀ i σ H, i ≤ xs.length → Pv i σ H → SqL K H a xs)
    (hs : ∀ i x σ H T, xs[i]? = some x → Pv i σ H → H T = none → g (.ref T) σ (upd H T (.tup [.int (i : Nat), x])) fun σ2 H2 => tb { D with nx := Pv (i + 1), ct := Pv (i + 1), bk := D.nx } σ2 H2) (hd : ∀ σ H, Pv xs.length σ H → D.nx σ H) :
    ∃ W : Nat → Nat → St → Hp → Prop, (∃ m, W 0 m σ H) ∧ ∀ i m σ H, W i m σ H →
      ((Ite K a).stop i H ∧ D.nx σ H) ∨ ((Ite K a).go i H ∧ ∃ N : St → Hp → Prop, (∀ σ' H', N σ' H' → ∃ m', m' < m ∧ W (i + 1) m' σ' H') ∧ ∀ x H', (Ite K a).yld i H x H' → g x σ H' fun σ2 H2 => tb { D with nx := N, ct := N, bk := D.nx } σ2 H2) := by
  refine ⟨fun i m σ H => m = xs.length - i ∧ i ≤ xs.length ∧ Pv i σ H, ⟨xs.length, by simp, Nat.zero_le _, h0⟩, ?_⟩
  rintro i m σ H ⟨rfl, hi, p⟩
  have q := hl i σ H hi p
  by_cases hlt : i < xs.length
  · refine .inr ⟨⟨xs, xs[i], q, by simp [hlt]⟩, Pv (i + 1), fun σ' H' p' => ⟨xs.length - (i + 1), by omega, rfl, hlt, p'⟩, fun x H' y => ?_⟩
    obtain ⟨T, z, e1, e2, e3, y⟩ := y
    subst e1 e3
    exact hs i z σ H T (y xs q) p e2
  · have e : i = xs.length := by omega
    subst e
    exact .inl ⟨⟨xs, q, Nat.le_refl _⟩, hd σ H p⟩
/-- the target (a, b) of enumerate's pair, both names -/
theorem g_pair {K : PySem.W.Frag} {i j : Nat} {T : Addr} {x y : V} {σ : St} {H : Hp} {Q : St → Hp → Prop} (h : Q ((σ.set i (some x)).set j (some y)) (upd H T (.tup [x, y]))) :
    gTup K 2 (gCons (gName i) (gCons (gName j) gNil)) (.ref T) σ (upd H T (.tup [x, y])) Q :=
  ⟨T, [x, y], rfl, SqT.of upd_same, rfl, _, _, rfl, _, _, rfl, rfl, h⟩
/-- [.. for c in a text] -/
theorem lc_str {x : Str} {g : TG} {tt : TT} {te : TE} {vs : List Nat} {σ : St} {H1 : Hp} {D : Addr} {Qd : Hp → Prop} (Pv : Nat → Hp → Prop) (h0 : Pv 0 (upd H1 D (.lst [])))
    (hs : ∀ i c H, x.cps.toList[i]? = some c → Pv i H → g (.str ⟨#[c]⟩) (wipe σ vs) H fun σ2 H2 => wipe σ2 vs = wipe σ vs ∧ tt σ2 H2 fun b H3 =>
      if b = true then te σ2 H3 fun y H4 => ∃ acc, H4 D = some (.lst acc) ∧ acc.length < sizeLine ∧ Pv (i + 1) (upd H4 D (.lst (acc ++ [y]))) else Pv (i + 1) H3) (hd : ∀ H, Pv x.cps.size H → Qd H) :
    ∃ W : Nat → Nat → Hp → Prop, (∃ m, W 0 m (upd H1 D (.lst []))) ∧ ∀ i m H, W i m H →
      ((Its x).stop i H ∧ Qd H) ∨ ((Its x).go i H ∧ ∃ Nx : Hp → Prop, (∀ H', Nx H' → ∃ m', m' < m ∧ W (i + 1) m' H') ∧ ∀ v H', (Its x).yld i H v H' → g v (wipe σ vs) H' fun σ2 H2 => wipe σ2 vs = wipe σ vs ∧ tt σ2 H2 fun b H3 =>
        if b = true then te σ2 H3 fun y H4 => ∃ acc, H4 D = some (.lst acc) ∧ acc.length < sizeLine ∧ Nx (upd H4 D (.lst (acc ++ [y]))) else Nx H3) := by
  refine ⟨fun i m H => m = x.cps.size - i ∧ i ≤ x.cps.size ∧ Pv i H, ⟨x.cps.size, by simp, Nat.zero_le _, h0⟩, ?_⟩
  rintro i m H ⟨rfl, hi, p⟩
  by_cases hlt : i < x.cps.size
  · refine .inr ⟨hlt, Pv (i + 1), fun H' p' => ⟨x.cps.size - (i + 1), by omega, rfl, hlt, p'⟩, fun v H' y => ?_⟩
    obtain ⟨e, c, hc, ev⟩ := y
    subst e ev
    exact hs i c _ (by simpa using hc) p
  · have e : i = x.cps.size := by omega
    subst e
    exact .inl ⟨Nat.le_refl _, hd H p⟩
/-! ### a table of the module: a tuple of tuples of whole numbers and texts -/
theorem rel_of_abs {x : V} {u : Value} (h : absV u = some x) : RelV x u := by
  cases u <;> first | (cases h; done) | (cases h; first | rfl | exact ⟨_, rfl⟩)
def valsOf : List Value → Option (List V)
  | [] => some []
  | u :: us => match absV u, valsOf us with
    | some x, some xs => some (x :: xs)
    | _, _ => none
theorem vals_of_valsOf : ∀ {us : List Value} {xs : List V}, valsOf us = some xs → Vals xs us
  | [], xs, h => by
    cases h
    exact .nil
  | u :: us, xs, h => by
    unfold valsOf at h
    split at h
    · rename_i x xs' h1 h2
      cases h
      exact .cons (rel_of_abs h1) (vals_of_valsOf h2)
    · cases h
def tupIn (K : PySem.W.Frag) (a : Addr) : Option (List V) := match K.lookup a with
  | some o => match o.cls, o.data with
    | .type t, .seq its _ => if t == "tuple" && Nat.ble its.size sizeLine then valsOf its.toList else none
    | _, _ => none
  | none => none
theorem tupIn_sq {K : PySem.W.Frag} {a : Addr} {xs : List V} (h : tupIn K a = some xs) (H : Hp) : SqT K H a xs := by
  unfold tupIn at h
  split at h
  · rename_i o ho
    split at h
    · rename_i t its n hc hd
      split at h
      · rename_i q
        obtain ⟨q1, q2⟩ := Bool.and_eq_true_iff.mp q
        have et : t = "tuple" := by simpa using q1
        subst et
        exact .inr ⟨o, its, n, ho, hc, hd, Nat.le_of_ble_eq_true q2, vals_of_valsOf h⟩
      · cases h
    · cases h
  · cases h
def rowsOfV (K : PySem.W.Frag) : List V → Option (List (List V))
  | [] => some []
  | .ref b :: vs => match tupIn K b, rowsOfV K vs with
    | some x, some xs => some (x :: xs)
    | _, _ => none
  | _ => none
def rowsIn (K : PySem.W.Frag) (a : Addr) : Option (List (List V)) := match tupIn K a with
  | some vs => rowsOfV K vs
  | none => none
theorem rowsOfV_at {K : PySem.W.Frag} : ∀ {vs : List V} {L : List (List V)}, rowsOfV K vs = some L → vs.length = L.length ∧ ∀ (i : Nat) (v : V), vs[i]? = some v → ∃ b xs, v = .ref b ∧ L[i]? = some xs ∧ ∀ H, SqT K H b xs
  | [], L, h => by
    cases h
    exact ⟨rfl, fun i v e => by simp at e⟩
  | .ref b :: vs, L, h => by
    unfold rowsOfV at h
    split at h
    · rename_i x xs h1 h2
      cases h
      obtain ⟨l, q⟩ := rowsOfV_at h2
      refine ⟨by simp [l], fun i v e => ?_⟩
      cases i with
      | zero =>
        have e' : V.ref b = v := Option.some.inj e
        exact ⟨b, x, e'.symm, rfl, tupIn_sq h1⟩
      | succ i => exact q i v e
    · cases h
  | .non :: _, L, h => by cases h
  | .bl _ :: _, L, h => by cases h
  | .int _ :: _, L, h => by cases h
  | .str _ :: _, L, h => by cases h
  | .byt _ :: _, L, h => by cases h
  | .flt _ :: _, L, h => by cases h
  | .ty _ :: _, L, h => by cases h
/-- the table stands at the name -/
structure Tab (K : PySem.W.Frag) (mg : Str → Option Value) (x : Str) (L : List (List V)) : Prop where
  ex : ∃ a, mg x = some (.ref a) ∧ rowsIn K a = some L
theorem Tab.at_ {K : PySem.W.Frag} {mg : Str → Option Value} {x : Str} {L : List (List V)} (T : Tab K mg x L) : ∃ a vs, mg x = some (.ref a) ∧ (∀ H, SqT K H a vs) ∧ vs.length = L.length ∧ ∀ (i : Nat) (v : V), vs[i]? = some v → ∃ b xs, v = .ref b ∧ L[i]? = some xs ∧ ∀ H, SqT K H b xs := by
  obtain ⟨a, m, h⟩ := T.ex
  unfold rowsIn at h
  split at h
  · rename_i vs hv
    obtain ⟨l, q⟩ := rowsOfV_at h
    exact ⟨a, vs, m, tupIn_sq hv, l, q⟩
  · cases h
theorem yes_of {σ : St} {H : Hp} {F G : Hp → Prop} (h : F H) : tYes σ H (fun b H3 => if b = true then F H3 else G H3) := by
  show (if true = true then F H else G H)
  exact iteT h
theorem ty_list {K : PySem.W.Frag} {H : Hp} {a : Addr} {xs : List V} (h : H a = some (.lst xs)) : tyV K "list" (.ref a) H := .inl ⟨rfl, _, SqL.of h⟩
/-! ### heaps -/
theorem Same.new {B H : Hp} {q : Addr} {o : HO} (s : Same B H) (n : B q = none) : Same B (upd H q o) := fun b u e => by
  rw [upd_ne (ne_of_none e n)]
  exact s b u e
theorem Same.put {H : Hp} {q : Addr} {o : HO} (n : H q = none) : Same H (upd H q o) := (Same.refl H).new n
theorem Same.tup {K : PySem.W.Frag} {H H' : Hp} {a : Addr} {xs : List V} (e : Same H H') (h : SqT K H a xs) : SqT K H' a xs := by
  rcases h with (h | ⟨o, h⟩) | h
  · exact .inl (.inl (e _ _ h))
  · exact .inl (.inr ⟨o, e _ _ h⟩)
  · exact .inr h
theorem find_some_at {α : Type} {p : α → Bool} : ∀ {l : List α} {i : Nat} {x : α}, l[i]? = some x → p x = true → (∀ j y, j < i → l[j]? = some y → p y = false) → l.find? p = some x
  | [], i, x, h, _, _ => by simp at h
  | a :: r, 0, x, h, hp, _ => by
    have e : a = x := Option.some.inj h
    subst e
    rw [List.find?_cons, hp]
  | a :: r, i + 1, x, h, hp, hn => by
    have e := hn 0 a (Nat.succ_pos _) rfl
    rw [List.find?_cons, e]
    exact find_some_at (l := r) (i := i) h hp fun j y hj hy => hn (j + 1) y (by omega) hy
theorem find_none_at {α : Type} {p : α → Bool} {l : List α} (hn : ∀ j y, j < l.length → l[j]? = some y → p y = false) : l.find? p = none := by
  rw [List.find?_eq_none]
  intro x hx
  obtain ⟨j, hj, e⟩ := List.getElem_of_mem hx
  have q := hn j x hj (by rw [List.getElem?_eq_getElem hj, e])
  rw [q]
  decide
end L2
/-! TOOLS over the hand layer: min of three, range as an object, list(range(n)) -/
namespace L2
open PySem PySem.Spec PyProof.Rows
theorem pair_by {α β : Type} {F : α → β → Prop} : ∀ {xs : List α} {us : List β}, xs.length = us.length → (∀ (j : Nat) (x : α) (u : β), xs[j]? = some x → us[j]? = some u → F x u) → Paired F xs us
  | [], [], _, _ => .nil
  | [], _ :: _, h, _ => by simp at h
  | _ :: _, [], h, _ => by simp at h
  | x :: xs, u :: us, h, q => .cons (q 0 x u rfl rfl) (pair_by (by simpa using h) fun j y v e1 e2 => q (j + 1) y v e1 e2)
section
variable {X : Cx}
theorem call_min3 (hc : X.calm = true) : CallR X (.builtin "min") (fun xs H Q => ∃ i j k : Int, xs = [.int i, .int j, .int k] ∧ Q (.int (if j < i then (if k < j then k else j) else (if k < i then k else i))) H) := by
  intro pins s σ H xs us Q I r h
  obtain ⟨i, j, k, rfl, q⟩ := h
  cases r with
  | cons r1 rr =>
    cases rr with
    | cons r2 rr =>
      cases rr with
      | cons r3 rr =>
        cases rr
        obtain ⟨t1, rfl⟩ := r1
        obtain ⟨t2, rfl⟩ := r2
        obtain ⟨t3, rfl⟩ := r3
        refine PySem.min_three_ints (I.ok.hd hc) fun h' tk kp => ⟨_, H, I.kept kp, ?_, q⟩
        split <;> split <;> exact ⟨_, rfl⟩
/-- range(j), an object -/
theorem cr_range1 : CallR X (.type "range") (fun xs H Q => ∃ j : Int, xs = [.int j] ∧ ∀ p, H p = none → Q (.ref p) (upd H p (.rng 0 j))) := by
  intro pins s σ H xs us Q I r h
  obtain ⟨j, rfl, q⟩ := h
  obtain ⟨u, rfl, t, rfl⟩ := vals1 r
  refine call_range_1 ?_
  exact ⟨.ref s.heap.objs.size, _, I.laid (fun _ _ e => Heap.get?_push_of_some _ e) (Nat.le_refl _) (show ObjOk X.prog X.w _ _ _ (.rng 0 j) from ⟨_, _, _, Heap.get?_push_size _ rfl⟩), rfl, q _ (I.hok.fresh (Nat.le_refl _))⟩
/-- list(range(j)) of that object -/
theorem cr_list_rng (hc : X.calm = true) : CallR X (.type "list") (fun xs H Q => ∃ (p : Addr) (n : Nat), xs = [.ref p] ∧ H p = some (.rng 0 (n : Int)) ∧ n ≤ 100000 ∧ ∀ l, H l = none → Q (.ref l) (upd H l (.lst ((List.range n).map fun (i : Nat) => V.int (i : Int))))) := by
  intro pins s σ H xs us Q I r h
  obtain ⟨p, n, rfl, hp, hn, q⟩ := h
  obtain ⟨u, rfl, rx⟩ := vals1 r
  cases rx
  obtain ⟨t, u', v, ho⟩ := I.hok p _ hp
  have hs : Builtin.Range.small 0 (n : Int) 1 = true := small_one (by omega) (by omega) (by omega) (by omega)
  have hz : Builtin.Range.rangeSize 0 (n : Int) 1 = (n : Int) := by
    unfold Builtin.Range.rangeSize
    simp
    omega
  refine PySem.call_list_range (I.ok.hd hc) ho hs hz (by omega) fun h' tk acc' c' kp e it => ?_
  refine ⟨.ref s.heap.objs.size, _, I.laid kp (Nat.le_refl _) (show ObjOk X.prog X.w _ _ _ (.lst ((List.range n).map fun (i : Nat) => V.int (i : Int))) from ⟨?_, acc'.toList, c', ?_, by simpa using e⟩), rfl, q _ (I.hok.fresh (Nat.le_refl _))⟩
  · rw [List.length_map, List.length_range]
    exact Nat.le_trans hn (by decide)
  · refine pair_by (by rw [List.length_map, List.length_range, Array.length_toList, it.1]) fun j x u e1 e2 => ?_
    have hj : j < n := by
      have := (List.getElem?_eq_some_iff.mp e1).1
      rwa [List.length_map, List.length_range] at this
    rw [List.getElem?_map, List.getElem?_range hj] at e1
    obtain ⟨t', rfl⟩ := it.2 j u (by simpa using e2)
    have e3 : V.int (j : Int) = x := Option.some.inj e1
    subst e3
    refine ⟨t', ?_⟩
    have e4 : (0 : Int) + (j : Int) * 1 = (j : Int) := by omega
    rw [e4]
end
end L2
/-! ### more of plain expressions -/
namespace L2
open PySem PySem.Spec PyProof.Rows
theorem Ev.ix {K : PySem.W.Frag} {ta tb : TE} {σ : St} {H : Hp} {p : Addr} {i : Int} {xs : List V} {v : V} (a : Ev ta σ H (.ref p)) (b : Ev tb σ H (.int i)) (h : SqL K H p xs) (e : atI xs i = some v) : Ev (tOp (rIxL K) ta tb) σ H v := fun _ r => a _ (b _ ⟨p, xs, i, v, rfl, rfl, h, e, r⟩)
theorem Ev.neg {ta : TE} {σ : St} {H : Hp} {x : Int} (a : Ev ta σ H (.int x)) : Ev (tUn (rU fun i => .int (-i)) ta) σ H (.int (-x)) := fun _ r => a _ ⟨x, rfl, r⟩
theorem Ev.len {K : PySem.W.Frag} {ta : TE} {σ : St} {H : Hp} {p : Addr} {xs : List V} (a : Ev ta σ H (.ref p)) (h : SqL K H p xs) :
    Ev (tCB (fun xs H Q => ∃ p ys, xs = [.ref p] ∧ (SqL K H p ys ∨ SqT K H p ys) ∧ Q (.int ys.length) H) (tCons ta tNil)) σ H (.int (xs.length : Nat)) := fun _ r => a _ ⟨p, xs, rfl, .inl h, r⟩
theorem Ev.min2 {ta tb : TE} {σ : St} {H : Hp} {x y : Int} (a : Ev ta σ H (.int x)) (b : Ev tb σ H (.int y)) :
    Ev (tCB (fun xs H Q => ∃ i j, xs = [.int i, .int j] ∧ Q (.int (if j < i then j else i)) H) (tCons ta (tCons tb tNil))) σ H (.int (if y < x then y else x)) := fun _ r => a _ (b _ ⟨x, y, rfl, r⟩)
theorem Ev.min3 {ta tb tc : TE} {σ : St} {H : Hp} {x y z : Int} (a : Ev ta σ H (.int x)) (b : Ev tb σ H (.int y)) (c : Ev tc σ H (.int z)) :
    Ev (tCB (fun xs H Q => ∃ i j k : Int, xs = [.int i, .int j, .int k] ∧ Q (.int (if j < i then (if k < j then k else j) else (if k < i then k else i))) H) (tCons ta (tCons tb (tCons tc tNil)))) σ H (.int (if y < x then (if z < y then z else y) else (if z < x then z else x))) := fun _ r => a _ (b _ (c _ ⟨x, y, z, rfl, r⟩))
theorem Ev.dget {ta tb tc : TE} {σ : St} {H : Hp} {d : Addr} {i : Int} {z : V} {kvs : List (Key × V)} (a : Ev ta σ H (.ref d)) (b : Ev tb σ H (.int i)) (c : Ev tc σ H z) (h : H d = some (.dK kvs)) : Ev (tDGet2 ta tb tc) σ H ((valV kvs (Sum.inl i)).getD z) := fun _ r => a _ ⟨d, rfl, .inl ⟨_, .inl h⟩, b _ (c _ ⟨_, DGet.k (k := Sum.inl i) h, r⟩)⟩
end L2
theorem L2.Ev.run {t : L2.TE} {σ : L2.St} {H : L2.Hp} {v : L2.V} {R : L2.VK} (e : L2.Ev t σ H v) (h : R v H) : t σ H R := e R h
namespace L2
theorem Ev.seq {te : TE} {ts : TS} {D : Ends} {i : Nat} {σ : St} {H : Hp} {v : V} (e : Ev te σ H v) (h : ts D (σ.set i (some v)) H) : tSeq (tAsg te (gName i)) ts D σ H := e _ h
theorem Ev.fin {te : TE} {D : Ends} {i : Nat} {σ : St} {H : Hp} {v : V} (e : Ev te σ H v) (h : D.nx (σ.set i (some v)) H) : tAsg te (gName i) D σ H := e _ h
end L2
namespace Ew
open Po
/-! ### words one slip away, as they are gathered -/
def lessAt (a : Word) (i : Nat) : List Word := if i = 0 ∨ a[i - 1]? ≠ a[i]? then [a.take i ++ a.drop (i + 1)] else []
def lessTo (a : Word) (n : Nat) : List Word := (List.range n).flatMap (lessAt a)
def turnAt (a : Word) (i : Nat) (x : UInt8) : List Word := if i = 0 ∨ a[i - 1]? = some x then [] else [a.take (i - 1) ++ x :: (a[i - 1]?.toList ++ a.drop (i + 1))]
def changeAt (ls : List UInt8) (a : Word) (i : Nat) (x : UInt8) : List Word := (ls.filter fun (d : UInt8) => d != x).map fun (d : UInt8) => a.take i ++ d :: a.drop (i + 1)
def sameAt (ls : List UInt8) (a : Word) (i : Nat) : List Word := match a[i]? with
  | some x => changeAt ls a i x ++ turnAt a i x
  | none => []
def sameTo (ls : List UInt8) (a : Word) (n : Nat) : List Word := (List.range n).flatMap (sameAt ls a)
def moreAt (ls : List UInt8) (a : Word) (i : Nat) : List Word := (ls.filter fun (d : UInt8) => decide (i = 0) || decide (a[i - 1]? ≠ some d)).map fun (d : UInt8) => a.take i ++ d :: a.drop i
def moreTo (ls : List UInt8) (a : Word) (n : Nat) : List Word := (List.range n).flatMap (moreAt ls a)
theorem flat_succ {β : Type} (f : Nat → List β) (n : Nat) : (List.range (n + 1)).flatMap f = (List.range n).flatMap f ++ f n := by
  rw [List.range_succ, List.flatMap_append]
  simp
theorem flat_mem {β : Type} {f : Nat → List β} {n : Nat} {w : β} : w ∈ (List.range n).flatMap f ↔ ∃ i, i < n ∧ w ∈ f i := by
  rw [List.mem_flatMap]
  constructor
  · rintro ⟨i, hi, h⟩
    exact ⟨i, List.mem_range.mp hi, h⟩
  · rintro ⟨i, hi, h⟩
    exact ⟨i, List.mem_range.mpr hi, h⟩
theorem less_down {a : Word} : ∀ i, i < a.length → ∃ j, j < a.length ∧ a.take i ++ a.drop (i + 1) ∈ lessAt a j
  | 0, h => ⟨0, h, by unfold lessAt; rw [if_pos (.inl rfl)]; simp⟩
  | i + 1, h => by
    by_cases e : a[i]? = a[i + 1]?
    · obtain ⟨j, hj, q⟩ := less_down (a := a) i (by omega)
      refine ⟨j, hj, ?_⟩
      have e1 : a[i]? = some a[i] := List.getElem?_eq_getElem (by omega)
      have e2 : a[i + 1]? = some a[i] := by rw [← e, e1]
      have t : a.take (i + 1) = a.take i ++ [a[i]] := by rw [List.take_add_one, e1]; rfl
      have d : a.drop (i + 1) = a[i] :: a.drop (i + 2) := by
        obtain ⟨h1, h2⟩ := List.getElem?_eq_some_iff.mp e2
        rw [List.drop_eq_getElem_cons h1, h2]
      have z : a.take (i + 1) ++ a.drop (i + 1 + 1) = a.take i ++ a.drop (i + 1) := by
        rw [d]
        show a.take (i + 1) ++ a.drop (i + 2) = _
        rw [t, List.append_assoc]
        rfl
      rw [z]
      exact q
    · refine ⟨i + 1, h, ?_⟩
      unfold lessAt
      rw [if_pos (.inr e)]
      simp
theorem less_mem {a w : Word} : w ∈ lessTo a a.length ↔ w ∈ takenOut a := by
  unfold lessTo
  rw [flat_mem, taken_mem]
  constructor
  · rintro ⟨i, hi, h⟩
    unfold lessAt at h
    split at h
    · exact ⟨i, hi, by simpa using h⟩
    · cases h
  · rintro ⟨i, hi, rfl⟩
    exact less_down i hi
theorem more_down {ls : List UInt8} {a : Word} {d : UInt8} (hd : d ∈ ls) : ∀ i, i ≤ a.length → ∃ j, j ≤ a.length ∧ a.take i ++ d :: a.drop i ∈ moreAt ls a j
  | 0, h => ⟨0, h, by
    unfold moreAt
    rw [List.mem_map]
    exact ⟨d, List.mem_filter.mpr ⟨hd, by simp⟩, rfl⟩⟩
  | i + 1, h => by
    by_cases e : a[i]? = some d
    · obtain ⟨j, hj, q⟩ := more_down (a := a) hd i (by omega)
      refine ⟨j, hj, ?_⟩
      have t : a.take (i + 1) = a.take i ++ [d] := by rw [List.take_add_one, e]; rfl
      have dr : a.drop i = d :: a.drop (i + 1) := by
        obtain ⟨h1, h2⟩ := List.getElem?_eq_some_iff.mp e
        rw [List.drop_eq_getElem_cons h1, h2]
      have z : a.take (i + 1) ++ d :: a.drop (i + 1) = a.take i ++ d :: a.drop i := by rw [t, dr]; simp
      rw [z]
      exact q
    · refine ⟨i + 1, h, ?_⟩
      unfold moreAt
      rw [List.mem_map]
      exact ⟨d, List.mem_filter.mpr ⟨hd, by simp [e]⟩, rfl⟩
theorem more_mem {ls : List UInt8} {a w : Word} : w ∈ moreTo ls a (a.length + 1) ↔ w ∈ putIn ls a := by
  unfold moreTo
  rw [flat_mem, put_mem]
  constructor
  · rintro ⟨i, hi, h⟩
    unfold moreAt at h
    obtain ⟨d, hd, e⟩ := List.mem_map.mp h
    exact ⟨i, d, by omega, (List.mem_filter.mp hd).1, e.symm⟩
  · rintro ⟨i, d, hi, hd, rfl⟩
    obtain ⟨j, hj, q⟩ := more_down (a := a) hd i hi
    exact ⟨j, by omega, q⟩
theorem same_mem {ls : List UInt8} {a w : Word} : w ∈ sameTo ls a a.length ↔ w ∈ changedFor ls a ∨ w ∈ exchanged a := by
  unfold sameTo
  rw [flat_mem, changed_mem, exchanged_mem]
  constructor
  · rintro ⟨i, hi, h⟩
    have e1 : a[i]? = some a[i] := List.getElem?_eq_getElem hi
    unfold sameAt at h
    rw [e1] at h
    rcases List.mem_append.mp h with h | h
    · unfold changeAt at h
      obtain ⟨d, hd, e⟩ := List.mem_map.mp h
      obtain ⟨h1, h2⟩ := List.mem_filter.mp hd
      exact .inl ⟨i, d, a[i], e1, h1, by simpa using h2, e.symm⟩
    · unfold turnAt at h
      split at h
      · cases h
      · rename_i ne
        have hi0 : i ≠ 0 := fun z => ne (.inl z)
        obtain ⟨k, rfl⟩ : ∃ k, i = k + 1 := ⟨i - 1, by omega⟩
        have e2 : a[k]? = some a[k] := List.getElem?_eq_getElem (by omega)
        refine .inr ⟨k, a[k], a[k + 1], e2, e1, fun z => ne (.inr (by show a[k]? = _; rw [e2, z])), ?_⟩
        simp only [Nat.add_sub_cancel, e2, Option.toList_some, List.mem_singleton] at h
        rw [h]
        rfl
  · rintro (⟨i, d, x, hi, hd, hx, rfl⟩ | ⟨k, x, y, h1, h2, hx, rfl⟩)
    · refine ⟨i, (List.getElem?_eq_some_iff.mp hi).1, ?_⟩
      unfold sameAt
      rw [hi]
      refine List.mem_append_left _ ?_
      unfold changeAt
      exact List.mem_map.mpr ⟨d, List.mem_filter.mpr ⟨hd, by simpa using hx⟩, rfl⟩
    · refine ⟨k + 1, (List.getElem?_eq_some_iff.mp h2).1, ?_⟩
      unfold sameAt
      rw [h2]
      refine List.mem_append_right _ ?_
      unfold turnAt
      rw [if_neg (by rintro (z | z); · omega
                     · simp only [Nat.add_sub_cancel, h1] at z; exact hx (Option.some.inj z))]
      simp only [Nat.add_sub_cancel, h1, Option.toList_some]
      simp
theorem less_len {a w : Word} {n : Nat} (hn : n ≤ a.length) (h : w ∈ lessTo a n) : w.length + 1 = a.length := by
  unfold lessTo at h
  obtain ⟨i, hi, h⟩ := flat_mem.mp h
  unfold lessAt at h
  split at h
  · have e : w = a.take i ++ a.drop (i + 1) := by simpa using h
    rw [e, List.length_append, List.length_take, List.length_drop]
    omega
  · cases h
theorem more_len {ls : List UInt8} {a w : Word} {n : Nat} (hn : n ≤ a.length + 1) (h : w ∈ moreTo ls a n) : w.length = a.length + 1 := by
  unfold moreTo at h
  obtain ⟨i, hi, h⟩ := flat_mem.mp h
  unfold moreAt at h
  obtain ⟨d, _, e⟩ := List.mem_map.mp h
  rw [← e, List.length_append, List.length_cons, List.length_take, List.length_drop]
  omega
theorem same_len {ls : List UInt8} {a w : Word} (h : w ∈ sameTo ls a a.length) : w.length = a.length := by
  rcases same_mem.mp h with h | h
  · obtain ⟨i, d, x, hi, _, _, rfl⟩ := changed_mem.mp h
    have := (List.getElem?_eq_some_iff.mp hi).1
    rw [List.length_append, List.length_cons, List.length_take, List.length_drop]
    omega
  · obtain ⟨i, x, y, h1, h2, _, rfl⟩ := exchanged_mem.mp h
    have := (List.getElem?_eq_some_iff.mp h2).1
    rw [List.length_append, List.length_cons, List.length_cons, List.length_take, List.length_drop]
    omega
/-- weakly in order -/
abbrev Weak (l : List Word) : Prop := l.Pairwise fun x y => before y x = false
theorem before_same {x y : Word} (h : x.length = y.length) : before x y = lessBytes x y := by
  unfold before
  rw [decide_eq_false (by omega), Bool.false_or]
  simp [h]
theorem before_long {x y : Word} (h : y.length < x.length) : before x y = false := by
  unfold before
  rw [decide_eq_false (by omega), Bool.false_or]
  have e : (x.length == y.length) = false := beq_eq_false_iff_ne.mpr (by omega)
  rw [e, Bool.false_and]
theorem weak_append {l m : List Word} (hl : Weak l) (hm : Weak m) (h : ∀ x ∈ l, ∀ y ∈ m, x.length < y.length) : Weak (l ++ m) := by
  rw [Weak, List.pairwise_append]
  exact ⟨hl, hm, fun x hx y hy => before_long (h x hx y hy)⟩
/-- the three heaps, each in order -/
theorem three_weak {ls : List UInt8} {a : Word} {p q r : List Word} (h1 : p.Perm (lessTo a a.length)) (h2 : q.Perm (sameTo ls a a.length)) (h3 : r.Perm (moreTo ls a (a.length + 1))) (w1 : Weak p) (w2 : Weak q) (w3 : Weak r) : Weak (p ++ q ++ r) := by
  refine weak_append (weak_append w1 w2 fun x hx y hy => ?_) w3 fun x hx y hy => ?_
  · have e1 := less_len (Nat.le_refl _) (h1.mem_iff.mp hx)
    have e2 := same_len (h2.mem_iff.mp hy)
    omega
  · have e3 := more_len (Nat.le_refl _) (h3.mem_iff.mp hy)
    rcases List.mem_append.mp hx with hx | hx
    · have e1 := less_len (Nat.le_refl _) (h1.mem_iff.mp hx)
      omega
    · have e2 := same_len (h2.mem_iff.mp hx)
      omega
theorem three_mem {ls : List UInt8} {a w : Word} {p q r : List Word} (h1 : p.Perm (lessTo a a.length)) (h2 : q.Perm (sameTo ls a a.length)) (h3 : r.Perm (moreTo ls a (a.length + 1))) : w ∈ p ++ q ++ r ↔ w ∈ slipped ls a := by
  unfold slipped
  rw [List.mem_append, List.mem_append, h1.mem_iff, h2.mem_iff, h3.mem_iff, less_mem, same_mem, more_mem, List.mem_append, List.mem_append, List.mem_append]
  constructor
  · rintro ((h | h | h) | h)
    · exact .inl h
    · exact .inr (.inr (.inl h))
    · exact .inr (.inr (.inr h))
    · exact .inr (.inl h)
  · rintro (h | h | h | h)
    · exact .inl (.inl h)
    · exact .inr h
    · exact .inl (.inr (.inl h))
    · exact .inl (.inr (.inr h))
/-- the first in order of those that have so many slips left is the next of the chain -/
theorem next_first {ls : List UInt8} {a b : Word} {n : Nat} {os : List Word} (h : apartOf a b = n + 1) (hl : ∀ x ∈ b, x ∈ ls) (hm : ∀ w, w ∈ os ↔ w ∈ slipped ls a) (hw : Weak os) {k : Nat} {c : Word} (hk : os[k]? = some c) (hc : apartOf c b = n)
    (hf : ∀ j d, j < k → os[j]? = some d → apartOf d b ≠ n) : nextOf b n a = c := by
  refine next_unique h hl ((hm c).mp (List.mem_of_getElem? hk)) hc fun d hd q => ?_
  obtain ⟨j, hj, e⟩ := List.getElem_of_mem ((hm d).mpr hd)
  have hj' : os[j]? = some d := by rw [List.getElem?_eq_getElem hj, e]
  by_cases hjk : j < k
  · exact absurd q (hf j d hjk hj')
  · by_cases ejk : j = k
    · subst ejk
      rw [hk] at hj'
      cases hj'
      exact before_irrefl _
    · obtain ⟨hk1, ek⟩ := List.getElem?_eq_some_iff.mp hk
      have z := List.pairwise_iff_getElem.mp hw k j hk1 hj (by omega)
      rw [ek, e] at z
      exact z
/-- there is one -/
theorem next_there {ls : List UInt8} {a b : Word} {n : Nat} {os : List Word} (h : apartOf a b = n + 1) (hl : ∀ x ∈ b, x ∈ ls) (hm : ∀ w, w ∈ os ↔ w ∈ slipped ls a) : ∃ c ∈ os, apartOf c b = n := by
  obtain ⟨c, hc, hn⟩ := next_ex h
  exact ⟨c, (hm c).mpr (slip_more hc hl), hn⟩
end Ew
namespace Sl
open PySem
set_option maxHeartbeats 4000000
theorem runs_det {M : Model} {Γ : Ctx} {p : Pos} {t : Sem Fin} {fs : List Frame} {s : Shared} {e : End} {s' : Shared} (h : Runs M Γ p t fs s e s') : ∀ e2 s2, Runs M Γ p t fs s e2 s2 → e = e2 ∧ s' = s2 := by
  induction h with
  | done => intro e2 s2 h2; cases h2; exact ⟨rfl, rfl⟩
  | raise => intro e2 s2 h2; cases h2; exact ⟨rfl, rfl⟩
  | again q _ ih => intro e2 s2 h2; cases h2 with | again q2 r2 => exact ih _ _ r2
  | rule _ ih => intro e2 s2 h2; cases h2 with | rule r2 => exact ih _ _ r2
  | «at» _ ih => intro e2 s2 h2; cases h2 with | «at» r2 => exact ih _ _ r2
  | load g _ ih => intro e2 s2 h2; cases h2 with | load g2 r2 => rw [g] at g2; cases g2; exact ih _ _ r2
  | update g _ ih => intro e2 s2 h2; cases h2 with | update g2 r2 => exact ih _ _ r2
  | loadIfAlive _ ih => intro e2 s2 h2; cases h2 with | loadIfAlive r2 => exact ih _ _ r2
  | point _ ih => intro e2 s2 h2; cases h2 with | point r2 => exact ih _ _ r2
  | alloc _ ih => intro e2 s2 h2; cases h2 with | alloc r2 => exact ih _ _ r2
  | fresh _ ih => intro e2 s2 h2; cases h2 with | fresh r2 => exact ih _ _ r2
  | ask _ ih => intro e2 s2 h2; cases h2 with | ask r2 => exact ih _ _ r2
  | choose g _ ih => intro e2 s2 h2; cases h2 with | choose g2 r2 => exact ih _ _ r2
  | os _ ih => intro e2 s2 h2; cases h2 with | os r2 => exact ih _ _ r2
  | handled _ ih => intro e2 s2 h2; cases h2 with | handled r2 => exact ih _ _ r2
  | genState g _ ih => intro e2 s2 h2; cases h2 with | genState g2 r2 => rw [g] at g2; cases g2; exact ih _ _ r2
  | stack _ ih => intro e2 s2 h2; cases h2 with | stack r2 => exact ih _ _ r2
  | thread _ ih => intro e2 s2 h2; cases h2 with | thread r2 => exact ih _ _ r2
  | newGen _ ih => intro e2 s2 h2; cases h2 with | newGen r2 => exact ih _ _ r2
  | call _ _ ih1 ih2 =>
    intro e2 s2 h2
    cases h2 with
    | call r2 q2 =>
      obtain ⟨a, b⟩ := ih1 _ _ r2
      cases a; subst b
      exact ih2 _ _ q2
    | callSusp r2 =>
      obtain ⟨a, b⟩ := ih1 _ _ r2
      cases a
  | callSusp _ ih1 =>
    intro e2 s2 h2
    cases h2 with
    | call r2 q2 =>
      obtain ⟨a, b⟩ := ih1 _ _ r2
      cases a
    | callSusp r2 =>
      obtain ⟨a, b⟩ := ih1 _ _ r2
      cases a; subst b
      exact ⟨rfl, rfl⟩
  | yield => intro e2 s2 h2; cases h2; exact ⟨rfl, rfl⟩
  | resumeFresh g _ qu _ ih1 ih2 =>
    intro e2 s2 h2
    cases h2 with
    | resumeFresh g2 r2 qu2 q2 =>
      rw [g] at g2; cases g2
      obtain ⟨a, b⟩ := ih1 _ _ r2
      subst a b
      exact ih2 _ _ q2
    | resumeSuspended g2 => rw [g] at g2; cases g2
    | resumeJustStarted g2 n2 => exact absurd rfl n2
    | resumeRunning g2 => rw [g] at g2; cases g2
    | resumeFinished g2 => rw [g] at g2; cases g2
  | resumeSuspended g _ qu _ ih1 ih2 =>
    intro e2 s2 h2
    cases h2 with
    | resumeFresh g2 => rw [g] at g2; cases g2
    | resumeSuspended g2 r2 qu2 q2 =>
      rw [g] at g2; cases g2
      obtain ⟨a, b⟩ := ih1 _ _ r2
      subst a b
      exact ih2 _ _ q2
    | resumeJustStarted g2 n2 => rw [g] at g2; cases g2
    | resumeThrowFresh g2 => rw [g] at g2; cases g2
    | resumeRunning g2 => rw [g] at g2; cases g2
    | resumeFinished g2 => rw [g] at g2; cases g2
  | resumeJustStarted g n _ ih =>
    intro e2 s2 h2
    cases h2 with
    | resumeFresh g2 => exact absurd rfl n
    | resumeSuspended g2 => rw [g] at g2; cases g2
    | resumeJustStarted g2 n2 r2 => exact ih _ _ r2
    | resumeRunning g2 => rw [g] at g2; cases g2
    | resumeFinished g2 => rw [g] at g2; cases g2
  | resumeThrowFresh g _ ih =>
    intro e2 s2 h2
    cases h2 with
    | resumeSuspended g2 => rw [g] at g2; cases g2
    | resumeThrowFresh g2 r2 => exact ih _ _ r2
    | resumeRunning g2 => rw [g] at g2; cases g2
    | resumeFinished g2 => rw [g] at g2; cases g2
  | resumeRunning g _ ih =>
    intro e2 s2 h2
    cases h2 with
    | resumeFresh g2 => rw [g] at g2; cases g2
    | resumeSuspended g2 => rw [g] at g2; cases g2
    | resumeJustStarted g2 => rw [g] at g2; cases g2
    | resumeThrowFresh g2 => rw [g] at g2; cases g2
    | resumeRunning g2 r2 => exact ih _ _ r2
    | resumeFinished g2 => rw [g] at g2; cases g2
  | resumeFinished g _ ih =>
    intro e2 s2 h2
    cases h2 with
    | resumeFresh g2 => rw [g] at g2; cases g2
    | resumeSuspended g2 => rw [g] at g2; cases g2
    | resumeJustStarted g2 => rw [g] at g2; cases g2
    | resumeThrowFresh g2 => rw [g] at g2; cases g2
    | resumeRunning g2 => rw [g] at g2; cases g2
    | resumeFinished g2 r2 => exact ih _ _ r2
  | segRet _ _ ih1 ih2 =>
    intro e2 s2 h2
    cases h2 with
    | segRet r2 q2 =>
      obtain ⟨a, b⟩ := ih1 _ _ r2
      cases a; subst b
      exact ih2 _ _ q2
    | segSuspOut n2 r2 => obtain ⟨a, b⟩ := ih1 _ _ r2; cases a
    | segSuspGen n2 r2 => obtain ⟨a, b⟩ := ih1 _ _ r2; cases a
  | segGen _ _ ih1 ih2 =>
    intro e2 s2 h2
    cases h2 with
    | segGen r2 q2 =>
      obtain ⟨a, b⟩ := ih1 _ _ r2
      cases a; subst b
      exact ih2 _ _ q2
    | segSuspOut n2 r2 => obtain ⟨a, b⟩ := ih1 _ _ r2; cases a
    | segSuspGen n2 r2 => obtain ⟨a, b⟩ := ih1 _ _ r2; cases a
  | segSuspOut n _ ih1 =>
    intro e2 s2 h2
    cases h2 with
    | segRet r2 q2 => obtain ⟨a, b⟩ := ih1 _ _ r2; cases a
    | segGen r2 q2 => obtain ⟨a, b⟩ := ih1 _ _ r2; cases a
    | segSuspOut n2 r2 =>
      obtain ⟨a, b⟩ := ih1 _ _ r2
      cases a; subst b
      exact ⟨rfl, rfl⟩
    | segSuspGen n2 r2 => rw [n] at n2; cases n2
  | segSuspGen n _ qu _ ih1 ih2 =>
    intro e2 s2 h2
    cases h2 with
    | segRet r2 q2 => obtain ⟨a, b⟩ := ih1 _ _ r2; cases a
    | segGen r2 q2 => obtain ⟨a, b⟩ := ih1 _ _ r2; cases a
    | segSuspOut n2 r2 => rw [n] at n2; cases n2
    | segSuspGen n2 r2 qu2 q2 =>
      rw [n] at n2; cases n2
      obtain ⟨a, b⟩ := ih1 _ _ r2
      cases a; subst b
      exact ih2 _ _ q2
theorem wakes_det {M : Model} {Γ : Ctx} {p : Pos} {g : Nat} {r : Resume} {s : Shared} {a b : GenResult} {s1 s2 : Shared} (h : Wakes M Γ p g r s a s1) (h2 : Wakes M Γ p g r s b s2) : a = b ∧ s1 = s2 := by
  unfold Wakes at h h2
  split at h
  · exact h.elim
  · split at h
    · obtain ⟨e1, t1, r1, _, rfl, rfl⟩ := h
      simp only [*] at h2
      obtain ⟨e2, t2, r2, _, rfl, rfl⟩ := h2
      obtain ⟨rfl, rfl⟩ := runs_det r1 _ _ r2
      exact ⟨rfl, rfl⟩
    · obtain ⟨rfl, rfl⟩ := h
      simp only [*] at h2
      obtain ⟨rfl, rfl⟩ := h2
      exact ⟨rfl, rfl⟩
    · obtain ⟨rfl, rfl⟩ := h
      simp only [*] at h2
      obtain ⟨rfl, rfl⟩ := h2
      exact ⟨rfl, rfl⟩
  · obtain ⟨e1, t1, r1, _, rfl, rfl⟩ := h
    simp only [*] at h2
    obtain ⟨e2, t2, r2, _, rfl, rfl⟩ := h2
    obtain ⟨rfl, rfl⟩ := runs_det r1 _ _ r2
    exact ⟨rfl, rfl⟩
  · obtain ⟨rfl, rfl⟩ := h
    simp only [*] at h2
    obtain ⟨rfl, rfl⟩ := h2
    exact ⟨rfl, rfl⟩
  · obtain ⟨rfl, rfl⟩ := h
    simp only [*] at h2
    obtain ⟨rfl, rfl⟩ := h2
    exact ⟨rfl, rfl⟩
theorem wp_det {α : Type} {M : Model} {Γ : Ctx} (t : Sem α) : ∀ {Q Q' : α → Pos → Shared → Prop} {E E' : Value → Pos → Shared → Prop} {p : Pos} {s : Shared}, Sem.wp M Γ t Q E p s → Sem.wp M Γ t Q' E' p s →
    (∃ a p' s', Q a p' s' ∧ Q' a p' s') ∨ (∃ e p' s', E e p' s' ∧ E' e p' s') := by
  induction t with
  | pure a => intro Q Q' E E' p s h h2; exact .inl ⟨a, p, s, h, h2⟩
  | raise e => intro Q Q' E E' p s h h2; exact .inr ⟨e, p, s, h, h2⟩
  | unsupported _ => intro Q Q' E E' p s h h2; exact h.elim
  | finish _ => intro Q Q' E E' p s h h2; exact h.elim
  | rule _ k ih => intro Q Q' E E' p s h h2; exact ih () h h2
  | «at» p' k ih => intro Q Q' E E' p s h h2; exact ih () h h2
  | load a _ k ih =>
    intro Q Q' E E' p s h h2
    obtain ⟨o, g, h⟩ := h
    obtain ⟨o2, g2, h2⟩ := h2
    rw [g] at g2; cases g2
    exact ih _ h h2
  | update a _ f k ih => intro Q Q' E E' p s h h2; exact ih () h.2 h2.2
  | loadIfAlive a k ih => intro Q Q' E E' p s h h2; exact ih _ h h2
  | point _ k ih => intro Q Q' E E' p s h h2; exact ih _ h h2
  | register _ _ => intro Q Q' E E' p s h h2; exact h.elim
  | alloc o k ih => intro Q Q' E E' p s h h2; exact ih _ h h2
  | fresh k ih => intro Q Q' E E' p s h h2; exact ih _ h h2
  | ask k ih => intro Q Q' E E' p s h h2; exact ih _ h h2
  | choose src n k ih => intro Q Q' E E' p s h h2; exact ih _ h.2 h2.2
  | os q _ k ih => intro Q Q' E E' p s h h2; exact ih _ h h2
  | call c h0 _ _ k ih =>
    intro Q Q' E E' p s h h2
    obtain ⟨r, t, q, h⟩ := h
    obtain ⟨r2, t2, q2, h2⟩ := h2
    obtain ⟨a, b⟩ := runs_det q _ _ q2
    cases a; subst b
    exact ih _ h h2
  | handled own k ih => intro Q Q' E E' p s h h2; exact ih _ h h2
  | genState g k ih =>
    intro Q Q' E E' p s h h2
    obtain ⟨o, g, h⟩ := h
    obtain ⟨o2, g2, h2⟩ := h2
    rw [g] at g2; cases g2
    exact ih _ h h2
  | newGen c k ih => intro Q Q' E E' p s h h2; exact ih _ h h2
  | resume g r _ k ih =>
    intro Q Q' E E' p s h h2
    obtain ⟨r, t, q, h⟩ := h
    obtain ⟨r2, t2, q2, h2⟩ := h2
    obtain ⟨rfl, rfl⟩ := wakes_det q q2
    exact ih _ h h2
  | yield => intro Q Q' E E' p s h h2; exact h.elim
  | stack k ih => intro Q Q' E E' p s h h2; exact ih _ h h2
  | fork => intro Q Q' E E' p s h h2; exact h.elim
  | thread k ih => intro Q Q' E E' p s h h2; exact ih _ h h2
  | await => intro Q Q' E E' p s h h2; exact h.elim
end Sl
namespace Sl
open PySem PyProof.Rows
def NoE : Value → Pos → Shared → Prop := fun _ _ _ => False
/-- the same state, of another kind of keys -/
abbrev k2 (kd : SortKind) (st : SortSt) : SortSt := SortSt.mk' kd (arrOf st) (pendingOf st) (gallopOf st) (failedOf st)
/-- the two kinds decide alike over the keys that are good -/
structure Two (M : Model) (Γ : Ctx) (s : Shared) (kd : SortKind) (Good : Keyed → Prop) : Prop where
  lt : ∀ x y, Good x → Good y → ∃ b : Bool, (∀ p, Sem.wp M Γ (keyLt' oneType' x.1 y.1) (fun r _ s' => r = b ∧ s' = s) NoE p s) ∧ (∀ p, Sem.wp M Γ (keyLt' kd x.1 y.1) (fun r _ s' => r = b ∧ s' = s) NoE p s)
def GoodA (Good : Keyed → Prop) (a : Array Keyed) : Prop := ∀ p ∈ a.toList, Good p
structure GoodS (Good : Keyed → Prop) (st : SortSt) : Prop where
  kind : kindOf st = oneType'
  arr : GoodA Good (arrOf st)
/-- what the second does, of the other kind, the first does -/
def Sim (M : Model) (Γ : Ctx) (s : Shared) (kd : SortKind) (Good : Keyed → Prop) {α : Type} (G : α → Prop) (m1 m2 : StateT SortSt Sem α) : Prop :=
  ∀ (st : SortSt), GoodS Good st → ∀ (R : α × SortSt → Pos → Shared → Prop) (p2 : Pos), Sem.wp M Γ (m2.run (k2 kd st)) R NoE p2 s → ∀ p, Sem.wp M Γ (m1.run st) (fun r _ s' => s' = s ∧ G r.1 ∧ GoodS Good r.2 ∧ ∃ p', R (r.1, k2 kd r.2) p' s) NoE p s
section
variable {M : Model} {Γ : Ctx} {s : Shared} {kd : SortKind} {Good : Keyed → Prop} {α β : Type}
theorem sim_pure {G : α → Prop} {a : α} (h : G a) : Sim M Γ s kd Good G (pure a) (pure a) := fun _ g _ p2 w _ => by
  rw [StateT.run_pure] at w ⊢
  rw [Sem.wp_pure'] at w ⊢
  exact ⟨rfl, h, g, p2, w⟩
theorem sim_bind {G1 : α → Prop} {G : β → Prop} {m1 m2 : StateT SortSt Sem α} {f1 f2 : α → StateT SortSt Sem β} (h : Sim M Γ s kd Good G1 m1 m2) (hf : ∀ a, G1 a → Sim M Γ s kd Good G (f1 a) (f2 a)) : Sim M Γ s kd Good G (m1 >>= f1) (m2 >>= f2) := fun st g R p2 w p => by
  rw [StateT.run_bind] at w ⊢
  rw [Sem.wp_bind'] at w ⊢
  refine Sem.wp_mono M Γ _ (fun r p' s' hr => ?_) (fun _ _ _ e => e) p s (h st g _ p2 w p)
  obtain ⟨rfl, h1, h2, p'', h3⟩ := hr
  exact hf r.1 h1 r.2 h2 R p'' h3 p'
theorem sim_mono {G G' : α → Prop} {m1 m2 : StateT SortSt Sem α} (h : Sim M Γ s kd Good G m1 m2) (q : ∀ a, G a → G' a) : Sim M Γ s kd Good G' m1 m2 := fun st g R p2 w p =>
  Sem.wp_mono M Γ _ (fun _ _ _ hr => ⟨hr.1, q _ hr.2.1, hr.2.2⟩) (fun _ _ _ e => e) p s (h st g R p2 w p)
/-- get, then a function of what both states have alike -/
theorem sim_get {G : α → Prop} {f1 f2 : SortSt → StateT SortSt Sem α} (h : ∀ st, GoodS Good st → Sim M Γ s kd Good G (f1 st) (f2 (k2 kd st))) : Sim M Γ s kd Good G (get >>= f1) (get >>= f2) := fun st g R p2 w p => by
  rw [StateT.run_bind, StateT.run_get] at w ⊢
  rw [Sem.wp_bind', Sem.wp_pure'] at w ⊢
  exact h st g st g R p2 w p
theorem sim_modify {f : SortSt → SortSt} (h : ∀ st, GoodS Good st → GoodS Good (f st) ∧ f (k2 kd st) = k2 kd (f st)) : Sim M Γ s kd Good (fun _ => True) (modify f) (modify f) := fun st g R p2 w p => by
  rw [StateT.run_modify] at w ⊢
  rw [Sem.wp_pure'] at w ⊢
  obtain ⟨h1, h2⟩ := h st g
  rw [h2] at w
  exact ⟨rfl, True.intro, h1, p2, w⟩
theorem sim_set {st1 st2 : SortSt} (h1 : GoodS Good st1) (h2 : st2 = k2 kd st1) : Sim M Γ s kd Good (fun _ => True) (set st1) (set st2) := fun st g R p2 w p => by
  subst h2
  rw [StateT.run_set] at w ⊢
  rw [Sem.wp_pure'] at w ⊢
  exact ⟨rfl, True.intro, h1, p2, w⟩
theorem sim_rule {name : String} : Sim M Γ s kd Good (fun _ => True) (liftM (rule name) : StateT SortSt Sem Unit) (liftM (rule name)) := fun st g R p2 w p => by
  have e : ∀ st : SortSt, ((liftM (rule name) : StateT SortSt Sem Unit)).run st = (rule name >>= fun a => pure (a, st)) := fun _ => rfl
  rw [e] at w ⊢
  rw [Sem.wp_bind'] at w ⊢
  exact ⟨rfl, True.intro, g, p2, w⟩
theorem sim_never {G : α → Prop} {m1 : StateT SortSt Sem α} {name : String} : Sim M Γ s kd Good G m1 (liftM (unsupported name : Sem α)) := fun st g R p2 w p => by
  have e : ((liftM (unsupported name : Sem α) : StateT SortSt Sem α)).run (k2 kd st) = ((unsupported name : Sem α) >>= fun a => pure (a, k2 kd st)) := rfl
  rw [e, Sem.wp_bind'] at w
  exact False.elim w
theorem sim_list {γ : Type} {G : β → Prop} (f1 f2 : γ → β → StateT SortSt Sem (ForInStep β)) (h : ∀ x b, G b → Sim M Γ s kd Good (fun r => match r with | .done b => G b | .yield b => G b) (f1 x b) (f2 x b)) : ∀ (l : List γ) (b : β), G b → Sim M Γ s kd Good G (forIn l b f1) (forIn l b f2)
  | [], b, hb => by
    rw [List.forIn_nil, List.forIn_nil]
    exact sim_pure hb
  | x :: r, b, hb => by
    rw [List.forIn_cons, List.forIn_cons]
    refine sim_bind (h x b hb) fun q hq => ?_
    cases q with
    | done c => exact sim_pure hq
    | yield c => exact sim_list f1 f2 h r c hq
theorem sim_for {G : β → Prop} {a b : Nat} {c : β} {f1 f2 : Nat → β → StateT SortSt Sem (ForInStep β)} (hc : G c) (h : ∀ x b, G b → Sim M Γ s kd Good (fun r => match r with | .done b => G b | .yield b => G b) (f1 x b) (f2 x b)) : Sim M Γ s kd Good G (forIn [a:b] c f1) (forIn [a:b] c f2) := by
  rw [Std.Legacy.Range.forIn_eq_forIn_range', Std.Legacy.Range.forIn_eq_forIn_range']
  exact sim_list f1 f2 h _ c hc
theorem sim_lt (T : Two M Γ s kd Good) {x y : Keyed} (hx : Good x) (hy : Good y) : Sim M Γ s kd Good (fun _ => True) (lt' x y) (lt' x y) := fun st g R p2 w p => by
  obtain ⟨b, h1, h2⟩ := T.lt x y hx hy
  have e : ∀ st : SortSt, (lt' x y).run st = ((keyLt' (kindOf st) x.1 y.1).attempt >>= fun r => ((match r with
      | .ok b => pure (some b)
      | .error e => do modify (fun s => SortSt.mk' (kindOf s) (arrOf s) (pendingOf s) (gallopOf s) (some e)); return none : StateT SortSt Sem (Option Bool)).run st)) := by
    intro st
    rw [lt'_eq, StateT.run_bind, StateT.run_get, pure_bind, StateT.run_bind]
    show ((StateT.lift ((keyLt' (kindOf st) x.1 y.1).attempt) : StateT SortSt Sem _).run st >>= _) = _
    rw [StateT.run_lift, bind_assoc]
    rfl
  rw [e, Sem.wp_bind', Sem.wp_attempt] at w ⊢
  rcases wp_det _ w (h2 p2) with ⟨a, p', s', q1, rfl, rfl⟩ | ⟨_, _, _, _, q⟩
  · rw [g.kind]
    refine Sem.wp_mono M Γ _ (fun r p'' s' hr => ?_) (fun _ _ _ z => z.elim) p _ (h1 p)
    obtain ⟨rfl, rfl⟩ := hr
    exact ⟨rfl, True.intro, g, p', q1⟩
  · exact q.elim
theorem sim_elem {arr : Array Keyed} {i : Nat} (h : GoodA Good arr) : Sim M Γ s kd Good Good (elem' arr i) (elem' arr i) := by
  rw [elem'_eq]
  cases e : arr[i]? with
  | none => exact sim_never
  | some p => exact sim_pure (h p (Array.mem_def.mp (Array.mem_of_getElem? e)))
theorem sim_ltAt (T : Two M Γ s kd Good) {i j : Nat} : Sim M Γ s kd Good (fun _ => True) (ltAt' i j) (ltAt' i j) := by
  rw [ltAt'_eq]
  exact sim_get fun st g => sim_bind (sim_elem g.arr) fun x hx => sim_bind (sim_elem g.arr) fun y hy => sim_lt T hx hy
theorem GoodA.perm {a b : Array Keyed} (h : GoodA Good b) (p : a.Perm b) : GoodA Good a := fun x hx => h x ((Array.perm_iff_toList_perm.mp p).mem_iff.mp hx)
theorem GoodA.one {x : Keyed} (h : Good x) : GoodA Good #[x] := fun y hy => by
  have e : y = x := by simpa using hy
  rw [e]
  exact h
theorem GoodA.push {a : Array Keyed} {x : Keyed} (h : GoodA Good a) (hx : Good x) : GoodA Good (a.push x) := fun y hy => by
  rw [Array.toList_push, List.mem_append] at hy
  rcases hy with hy | hy
  · exact h y hy
  · rw [List.mem_singleton.mp hy]
    exact hx
theorem GoodA.append {a b : Array Keyed} (h : GoodA Good a) (h2 : GoodA Good b) : GoodA Good (a ++ b) := fun y hy => by
  rw [Array.toList_append, List.mem_append] at hy
  rcases hy with hy | hy
  · exact h y hy
  · exact h2 y hy
theorem GoodA.extract {a : Array Keyed} {i j : Nat} (h : GoodA Good a) : GoodA Good (a.extract i j) := fun y hy => by
  rw [Array.toList_extract] at hy
  exact h y (List.mem_of_mem_drop (List.mem_of_mem_take hy))
theorem GoodA.reverse {a : Array Keyed} (h : GoodA Good a) : GoodA Good a.reverse := fun y hy => by
  rw [Array.toList_reverse, List.mem_reverse] at hy
  exact h y hy
theorem sim_rev {i j : Nat} : Sim M Γ s kd Good (fun _ => True) (reverseSlice' i j) (reverseSlice' i j) := by
  rw [reverseSlice'_eq]
  exact sim_modify fun st g => ⟨⟨g.kind, g.arr.perm (mirror_perm _ _ _ _)⟩, rfl⟩
theorem sim_down {i j : Nat} : Sim M Γ s kd Good (fun _ => True) (moveDown' i j) (moveDown' i j) := by
  rw [moveDown'_eq]
  exact sim_modify fun st g => ⟨⟨g.kind, g.arr.perm (bubble_perm _ _ _)⟩, rfl⟩
/-! the same program on both sides -/
def Sm (M : Model) (Γ : Ctx) (s : Shared) (kd : SortKind) (Good : Keyed → Prop) {α : Type} (G : α → Prop) (m : StateT SortSt Sem α) : Prop := Sim M Γ s kd Good G m m
theorem sm_pure {G : α → Prop} {a : α} (h : G a) : Sm M Γ s kd Good G (pure a) := sim_pure h
theorem sm_bind {G1 : α → Prop} {G : β → Prop} {m : StateT SortSt Sem α} {f : α → StateT SortSt Sem β} (h : Sm M Γ s kd Good G1 m) (hf : ∀ a, G1 a → Sm M Γ s kd Good G (f a)) : Sm M Γ s kd Good G (m >>= f) := sim_bind h hf
theorem sm_get {G : α → Prop} {f : SortSt → StateT SortSt Sem α} (e : ∀ st, f (k2 kd st) = f st) (h : ∀ st, GoodS Good st → Sm M Γ s kd Good G (f st)) : Sm M Γ s kd Good G (get >>= f) := sim_get fun st g => by
  rw [e st]
  exact h st g
theorem sm_rule {name : String} : Sm M Γ s kd Good (fun _ => True) (liftM (rule name) : StateT SortSt Sem Unit) := sim_rule
theorem sm_elem {arr : Array Keyed} {i : Nat} (h : GoodA Good arr) : Sm M Γ s kd Good Good (elem' arr i) := sim_elem h
theorem sm_never {G : α → Prop} {name : String} : Sm M Γ s kd Good G (liftM (unsupported name : Sem α)) := sim_never
theorem sm_for {G : β → Prop} {a b : Nat} {c : β} {f : Nat → β → StateT SortSt Sem (ForInStep β)} (hc : G c) (h : ∀ x b, G b → Sm M Γ s kd Good (fun r => match r with | .done b => G b | .yield b => G b) (f x b)) : Sm M Γ s kd Good G (forIn [a:b] c f) := sim_for hc h
theorem sm_count (T : Two M Γ s kd Good) {lo n : Nat} : Sm M Γ s kd Good (fun _ => True) (countRun' lo n) := by
  rw [countRun'_eq]
  dsimp only
  repeat' first
    | exact sm_pure True.intro
    | refine sm_bind (sim_ltAt T) fun _ _ => ?_
    | refine sm_bind sim_rev fun _ _ => ?_
    | refine sm_bind sim_rule fun _ _ => ?_
    | refine sm_bind (sm_for (G := fun _ => True) True.intro fun _ _ _ => ?_) fun _ _ => ?_
    | split
theorem sm_insert (T : Two M Γ s kd Good) {lo n ok : Nat} : Sm M Γ s kd Good (fun _ => True) (binarySort' lo n ok) := by
  rw [binarySort'_eq]
  dsimp only
  repeat' first
    | exact sm_pure True.intro
    | refine sm_bind (sim_ltAt T) fun _ _ => ?_
    | refine sm_bind sim_down fun _ _ => ?_
    | refine sm_bind (sm_for (G := fun _ => True) True.intro fun _ _ _ => ?_) fun _ _ => ?_
    | split
theorem sm_beyond (T : Two M Γ s kd Good) {left : Bool} {key : Keyed} {arr : Array Keyed} {base i : Nat} (hk : Good key) (ha : GoodA Good arr) : Sm M Γ s kd Good (fun _ => True) (beyond' left key arr base i) := by
  unfold beyond'
  refine sm_bind (sim_elem ha) fun x hx => ?_
  split
  · exact sim_lt T hx hk
  · exact sm_bind (sim_lt T hk hx) fun _ _ => sm_pure True.intro
theorem sm_gallop (T : Two M Γ s kd Good) {left : Bool} {key : Keyed} {arr : Array Keyed} {base n hint : Nat} (hk : Good key) (ha : GoodA Good arr) : Sm M Γ s kd Good (fun _ => True) (gallop' left key arr base n hint) := by
  rw [gallop'_eq]
  dsimp only
  repeat' first
    | exact sm_pure True.intro
    | refine sm_bind (sm_beyond T hk ha) fun _ _ => ?_
    | refine sm_bind (sm_for (G := fun _ => True) True.intro fun _ _ _ => ?_) fun _ _ => ?_
    | split
theorem sim_gal {n : Nat} : Sm M Γ s kd Good (fun _ => True) (setMinGallop' n) := by
  rw [setMinGallop'_eq]
  exact sim_modify fun st g => ⟨⟨g.kind, g.arr⟩, rfl⟩
theorem sm_ite {G : α → Prop} {c : Prop} [Decidable c] {x y : StateT SortSt Sem α} (h : c → Sm M Γ s kd Good G x) (h2 : ¬ c → Sm M Γ s kd Good G y) : Sm M Γ s kd Good G (if c then x else y) := by
  by_cases e : c
  · rw [if_pos e]
    exact h e
  · rw [if_neg e]
    exact h2 e
theorem fin_none {o : Array Keyed} (h : GoodA Good o) : (∀ r, (none : Option (Array Keyed)) = some r → GoodA Good r) ∧ GoodA Good o := ⟨fun _ z => absurd z (by intro e; cases e), h⟩
theorem fin_some {o q : Array Keyed} (h1 : GoodA Good q) (h : GoodA Good o) : (∀ r, some q = some r → GoodA Good r) ∧ GoodA Good o := ⟨fun _ z => (Option.some.inj z) ▸ h1, h⟩
set_option maxHeartbeats 8000000 in
theorem sm_lo (T : Two M Γ s kd Good) {a b : Array Keyed} (ha : GoodA Good a) (hb : GoodA Good b) : Sm M Γ s kd Good (GoodA Good) (mergeLo' a b) := by
  rw [mergeLo'_eq]
  refine sm_bind sim_rule fun _ _ => ?_
  extract_lets total done lastOfA
  have F1 : ∀ o i j, GoodA Good o → GoodA Good (done o i j) := fun o i j h => (h.append ha.extract).append hb.extract
  have F2 : ∀ o i j, GoodA Good o → GoodA Good (lastOfA o i j) := fun o i j h => (h.append hb.extract).append ha.extract
  clear_value done lastOfA total
  refine sm_bind (sim_elem hb) fun b0 hb0 => ?_
  have g0 : GoodA Good #[b0] := GoodA.one hb0
  extract_lets
  split
  · exact sm_pure (F1 _ _ _ g0)
  split
  · exact sm_pure (F2 _ _ _ g0)
  refine sm_get (fun _ => rfl) fun st gs => ?_
  refine sm_bind (sm_for (G := fun c => (∀ r, c.1 = some r → GoodA Good r) ∧ GoodA Good c.2.1) (fin_none g0) fun x c gc => ?_) fun c gc => ?_
  · extract_lets
    refine sm_bind (sm_for (G := fun c => (∀ r, c.1 = some r → GoodA Good r) ∧ GoodA Good c.2.1) (fin_none gc.2) fun x c1 g1 => ?_) fun c1 g1 => ?_
    · dsimp only
      have g := g1.2
      refine sm_bind (sim_elem hb) fun q hq => sm_bind (sim_elem ha) fun r hr => sm_bind (sim_lt T hq hr) fun z _ => ?_
      repeat' first
        | exact sm_pure (fin_none (by assumption))
        | exact sm_pure (fin_none (GoodA.push (by assumption) (by assumption)))
        | exact sm_pure (fin_some (F1 _ _ _ (by assumption)) (by assumption))
        | exact sm_pure (fin_some (F1 _ _ _ (GoodA.push (by assumption) (by assumption))) (GoodA.push (by assumption) (by assumption)))
        | exact sm_pure (fin_some (F2 _ _ _ (GoodA.push (by assumption) (by assumption))) (GoodA.push (by assumption) (by assumption)))
        | refine sm_bind (sim_elem hb) fun q hq => ?_
        | refine sm_bind (sim_elem ha) fun q hq => ?_
        | split
    · obtain ⟨r1, o1, i1, j1, x1, y1⟩ := c1
      cases r1 with
      | some r => exact sm_pure (fin_some (g1.1 _ rfl) g1.2)
      | none =>
        refine sm_bind sim_rule fun _ _ => ?_
        extract_lets
        refine sm_bind (sm_for (G := fun c => (∀ r, c.1 = some r → GoodA Good r) ∧ GoodA Good c.2.1) (fin_none g1.2) fun x c2 g2 => ?_) fun c2 g2 => ?_
        · have g := g2.2
          dsimp only
          repeat' first
            | with_reducible assumption
            | with_reducible exact GoodA.extract ha
            | with_reducible exact GoodA.extract hb
            | with_reducible apply F1
            | with_reducible apply F2
            | with_reducible apply GoodA.push
            | with_reducible apply GoodA.append
            | with_reducible apply GoodA.reverse
            | with_reducible refine sm_ite (fun _ => ?_) fun _ => ?_
            | with_reducible refine sm_bind sim_gal fun _ _ => ?_
            | with_reducible refine sm_bind (sm_elem hb) fun q hq => ?_
            | with_reducible refine sm_bind (sm_elem ha) fun q hq => ?_
            | ((with_reducible refine sm_bind (sm_gallop T (by assumption) ha) fun k _ => ?_); cases k <;> dsimp only)
            | ((with_reducible refine sm_bind (sm_gallop T (by assumption) hb) fun k _ => ?_); cases k <;> dsimp only)
            | refine sm_pure (fin_none ?_)
            | refine sm_pure (fin_some ?_ ?_)
        · obtain ⟨r2, o2, i2, j2, z2, x2, y2⟩ := c2
          cases r2 with
          | some r => exact sm_pure (fin_some (g2.1 _ rfl) g2.2)
          | none => exact sm_bind sim_gal fun _ _ => sm_pure (fin_none g2.2)
  · obtain ⟨r1, o1, i1, j1, x1⟩ := c
    cases r1 with
    | some r => exact sm_pure (gc.1 _ rfl)
    | none => exact sm_never
set_option maxHeartbeats 8000000 in
theorem sm_hi (T : Two M Γ s kd Good) {a b : Array Keyed} (ha : GoodA Good a) (hb : GoodA Good b) : Sm M Γ s kd Good (GoodA Good) (mergeHi' a b) := by
  rw [mergeHi'_eq]
  refine sm_bind sim_rule fun _ _ => ?_
  extract_lets total done firstOfB na nb
  have F1 : ∀ o i j, GoodA Good o → GoodA Good (done o i j) := fun o i j h => (ha.extract.append hb.extract).append h.reverse
  have F2 : ∀ o i j, GoodA Good o → GoodA Good (firstOfB o i j) := fun o i j h => (hb.extract.append ha.extract).append h.reverse
  clear_value done firstOfB total
  refine sm_bind (sim_elem ha) fun b0 hb0 => ?_
  have g0 : GoodA Good #[b0] := GoodA.one hb0
  extract_lets
  split
  · exact sm_pure (F1 _ _ _ g0)
  split
  · exact sm_pure (F2 _ _ _ g0)
  refine sm_get (fun _ => rfl) fun st gs => ?_
  refine sm_bind (sm_for (G := fun c => (∀ r, c.1 = some r → GoodA Good r) ∧ GoodA Good c.2.2.2.1) (fin_none g0) fun x c gc => ?_) fun c gc => ?_
  · extract_lets
    refine sm_bind (sm_for (G := fun c => (∀ r, c.1 = some r → GoodA Good r) ∧ GoodA Good c.2.2.2.1) (fin_none gc.2) fun x c1 g1 => ?_) fun c1 g1 => ?_
    · dsimp only
      have g := g1.2
      refine sm_bind (sim_elem hb) fun q hq => sm_bind (sim_elem ha) fun r hr => sm_bind (sim_lt T hq hr) fun z _ => ?_
      repeat' first
        | exact sm_pure (fin_none (by assumption))
        | exact sm_pure (fin_none (GoodA.push (by assumption) (by assumption)))
        | exact sm_pure (fin_some (F1 _ _ _ (by assumption)) (by assumption))
        | exact sm_pure (fin_some (F1 _ _ _ (GoodA.push (by assumption) (by assumption))) (GoodA.push (by assumption) (by assumption)))
        | exact sm_pure (fin_some (F2 _ _ _ (GoodA.push (by assumption) (by assumption))) (GoodA.push (by assumption) (by assumption)))
        | refine sm_bind (sim_elem hb) fun q hq => ?_
        | refine sm_bind (sim_elem ha) fun q hq => ?_
        | split
    · obtain ⟨r1, i1, j1, o1, x1, y1⟩ := c1
      cases r1 with
      | some r => exact sm_pure (fin_some (g1.1 _ rfl) g1.2)
      | none =>
        refine sm_bind sim_rule fun _ _ => ?_
        extract_lets
        refine sm_bind (sm_for (G := fun c => (∀ r, c.1 = some r → GoodA Good r) ∧ GoodA Good c.2.2.2.1) (fin_none g1.2) fun x c2 g2 => ?_) fun c2 g2 => ?_
        · have g := g2.2
          dsimp only
          repeat' first
            | with_reducible assumption
            | with_reducible exact GoodA.extract ha
            | with_reducible exact GoodA.extract hb
            | with_reducible apply F1
            | with_reducible apply F2
            | with_reducible apply GoodA.push
            | with_reducible apply GoodA.append
            | with_reducible apply GoodA.reverse
            | with_reducible refine sm_ite (fun _ => ?_) fun _ => ?_
            | with_reducible refine sm_bind sim_gal fun _ _ => ?_
            | with_reducible refine sm_bind (sm_elem hb) fun q hq => ?_
            | with_reducible refine sm_bind (sm_elem ha) fun q hq => ?_
            | ((with_reducible refine sm_bind (sm_gallop T (by assumption) ha) fun k _ => ?_); cases k <;> dsimp only)
            | ((with_reducible refine sm_bind (sm_gallop T (by assumption) hb) fun k _ => ?_); cases k <;> dsimp only)
            | refine sm_pure (fin_none ?_)
            | refine sm_pure (fin_some ?_ ?_)
        · obtain ⟨r2, i2, j2, o2, z2, x2, y2⟩ := c2
          cases r2 with
          | some r => exact sm_pure (fin_some (g2.1 _ rfl) g2.2)
          | none => exact sm_bind sim_gal fun _ _ => sm_pure (fin_none g2.2)
  · obtain ⟨r1, i1, j1, o1, x1⟩ := c
    cases r1 with
    | some r => exact sm_pure (gc.1 _ rfl)
    | none => exact sm_never
theorem GoodA.setIn {a : Array Keyed} {i : Nat} {x : Keyed} (h : GoodA Good a) (hx : Good x) : GoodA Good (a.setIfInBounds i x) := fun y hy => by
  rw [Array.toList_setIfInBounds] at hy
  rcases List.mem_or_eq_of_mem_set hy with hy | hy
  · exact h y hy
  · rw [hy]
    exact hx
theorem GoodA.back {base : Nat} : ∀ (l : List (Keyed × Nat)) (a : Array Keyed), GoodA Good a → (∀ q ∈ l, Good q.1) → GoodA Good (l.foldl (fun a (p, j) => a.setIfInBounds (base + j) p) a)
  | [], _, h, _ => h
  | q :: r, _, h, hl => GoodA.back r _ (h.setIn (hl q (List.mem_cons_self ..))) fun z hz => hl z (List.mem_cons_of_mem _ hz)
theorem zip_fst {l : List Keyed} {n : Nat} {q : Keyed × Nat} (h : q ∈ l.zipIdx n) : q.1 ∈ l := by
  obtain ⟨x, j⟩ := q
  exact List.fst_mem_of_mem_zipIdx h
theorem sm_write {base : Nat} {l : Array Keyed} (h : GoodA Good l) : Sm M Γ s kd Good (fun _ => True) (do
    modify fun s => setArr s (l.toList.zipIdx.foldl (fun a (p, j) => a.setIfInBounds (base + j) p) (arrOf s))
    let __do_lift ← get
    pure (failedOf __do_lift).isNone) :=
  sm_bind (sim_modify fun _ g => ⟨⟨g.kind, GoodA.back _ _ g.arr fun q hq => h q.1 (zip_fst hq)⟩, rfl⟩) fun _ _ => sm_get (fun _ => rfl) fun _ _ => sm_pure True.intro
theorem sm_at (T : Two M Γ s kd Good) {i : Nat} : Sm M Γ s kd Good (fun _ => True) (mergeAt' i) := by
  rw [mergeAt'_eq]
  refine sim_get fun st g => ?_
  show Sim M Γ s kd Good _ (match ((pendingOf st)[i]?, (pendingOf st)[i + 1]?) with | (some (sa, na, power), some (sb, nb, _)) => _ | _ => _) (match ((pendingOf st)[i]?, (pendingOf st)[i + 1]?) with | (some (sa, na, power), some (sb, nb, _)) => _ | _ => _)
  cases (pendingOf st)[i]? with
  | none => exact sim_never
  | some u =>
    cases (pendingOf st)[i + 1]? with
    | none => exact sim_never
    | some v =>
      obtain ⟨sa, na, pw⟩ := u
      obtain ⟨sb, nb, pw2⟩ := v
      refine sim_bind (sim_set ⟨g.kind, g.arr⟩ rfl) fun _ _ => ?_
      refine (show Sm M Γ s kd Good (fun _ => True) _ from ?_)
      refine sm_bind (sm_elem g.arr) fun x hx => sm_bind (sm_gallop T hx g.arr) fun k _ => ?_
      cases k with
      | none => exact sm_pure True.intro
      | some k =>
        refine sm_ite (fun _ => sm_pure True.intro) fun _ => ?_
        refine sm_bind (sm_elem g.arr) fun x hx => sm_bind (sm_gallop T hx g.arr) fun k _ => ?_
        cases k with
        | none => exact sm_pure True.intro
        | some k =>
          refine sm_ite (fun _ => sm_pure True.intro) fun _ => ?_
          refine sm_ite (fun _ => ?_) fun _ => ?_
          · exact sm_bind (sm_lo T g.arr.extract g.arr.extract) fun m hm => sm_write hm
          · exact sm_bind (sm_hi T g.arr.extract g.arr.extract) fun m hm => sm_write hm
set_option maxHeartbeats 4000000 in
theorem sm_runs (T : Two M Γ s kd Good) : Sm M Γ s kd Good (fun _ => True) sortRuns' := by
  rw [sortRuns'_eq]
  refine sm_get (fun _ => rfl) fun st g => ?_
  dsimp only
  repeat' first
    | with_reducible refine sm_pure ?_
    | exact True.intro
    | with_reducible refine sm_ite (fun _ => ?_) fun _ => ?_
    | with_reducible refine sm_bind (sm_count T) fun _ _ => ?_
    | with_reducible refine sm_bind (sm_insert T) fun _ _ => ?_
    | with_reducible refine sm_bind (sm_at T) fun _ _ => ?_
    | with_reducible refine sm_bind sm_rule fun _ _ => ?_
    | with_reducible refine sm_get (fun _ => by with_unfolding_all rfl) fun _ _ => ?_
    | with_reducible refine sm_bind (sm_for (G := fun _ => True) True.intro fun _ _ _ => ?_) fun _ _ => ?_
    | refine sm_bind (sim_modify fun _ g => ⟨⟨g.kind, g.arr⟩, rfl⟩) fun _ _ => ?_
    | split
end
end Sl
namespace Sl
open PySem PyProof.Rows
theorem drop_at {ns : List Int} {i : Nat} {x : Int} (h : ns[i]? = some x) : ns.drop i = x :: ns.drop (i + 1) := by
  obtain ⟨h1, h2⟩ := List.getElem?_eq_some_iff.mp h
  rw [List.drop_eq_getElem_cons h1, h2]
def inls (ns : List Int) : List (Int ⊕ List Nat) := ns.map Sum.inl
theorem ints_get {vs : List Value} {ns : List Int} (h : IntsAre vs ns) {i : Nat} (hi : i < ns.length) : ∃ t, vs[i]? = some (.int ns[i] t) := by
  have hl : i < vs.length := by rw [h.length]; exact hi
  obtain ⟨t, e⟩ := h.int_at i vs[i] (List.getElem?_eq_getElem hl)
  refine ⟨t, ?_⟩
  rw [List.getElem?_eq_getElem hl, e, List.getD_eq_getElem?_getD, List.getElem?_eq_getElem hi]
  rfl
theorem lt_loop (l b : Addr) (items items2 : Array Value) (n n2 : Nat) (dd dd2 : Option Addr) (sl sl2 : Array (Option Value)) {ns ms : List Int} (hi : IntsAre items.toList ns) (hj : IntsAre items2.toList ms) (k : Nat) :
    ∀ i : Nat, items.size - i = k → i ≤ items.size → i ≤ items2.size → Meets (Builtin.«list.__eq__.loop» ⟨[.ref l, .ref b, rawInt i, rawInt 0], []⟩)
      (fun A R s => s.heap.get? l = some { cls := .type "list", dict := dd, data := .seq items n, slots := sl } ∧ s.heap.get? b = some { cls := .type "list", dict := dd2, data := .seq items2 n2, slots := sl2 } ∧
        R (.ok (.ret (.bool (lexLt itemOrd (inls (ns.drop i)) (inls (ms.drop i)))))) s) := by
  have hs1 : items.size = ns.length := by rw [← hi.length]; simp
  have hs2 : items2.size = ms.length := by rw [← hj.length]; simp
  induction k with
  | zero =>
    intro i hk h1 h2 prog w A R s h
    obtain ⟨hl, hb, h⟩ := h
    obtain ⟨hp, ge, dr, tk, os⟩ := s
    wp_walk using AutoSeq1.wpAny_loadPart' hl, AutoSeq1.wpAny_loadPart' hb
    have hi1 : items[((i : Nat) : Int).toNat]? = none := by simp; omega
    have hd : ns.drop i = [] := by simp; omega
    rw [hd] at h
    rw [hi1]
    wp_walk using AutoSeq1.wpAny_loadPart' hl, AutoSeq1.wpAny_loadPart' hb
    show R (.ok (.ret (.bool (decide (items.size < items2.size))))) _
    have e : decide (items.size < items2.size) = lexLt itemOrd (inls []) (inls (ms.drop i)) := by
      cases q : ms.drop i with
      | nil =>
        have : ms.length ≤ i := List.drop_eq_nil_iff.mp q
        show _ = false
        exact decide_eq_false (by omega)
      | cons y r =>
        have : ¬ ms.length ≤ i := fun z => by
          rw [List.drop_eq_nil_iff.mpr z] at q
          cases q
        show _ = true
        exact decide_eq_true (by omega)
    rw [e]
    exact h
  | succ k ih =>
    intro i hk h1 h2 prog w A R s h
    obtain ⟨hl, hb, h⟩ := h
    obtain ⟨hp, ge, dr, tk, os⟩ := s
    wp_walk using AutoSeq1.wpAny_loadPart' hl, AutoSeq1.wpAny_loadPart' hb
    have hlt : i < ns.length := by omega
    obtain ⟨t1, e1⟩ := ints_get hi hlt
    have e1' : items[((i : Nat) : Int).toNat]? = some (.int ns[i] t1) := by simpa using e1
    have hd : ns.drop i = ns[i] :: ns.drop (i + 1) := List.drop_eq_getElem_cons hlt
    by_cases hlt2 : i < ms.length
    · obtain ⟨t2, e2⟩ := ints_get hj hlt2
      have e2' : items2[((i : Nat) : Int).toNat]? = some (.int ms[i] t2) := by simpa using e2
      have hd2 : ms.drop i = ms[i] :: ms.drop (i + 1) := List.drop_eq_getElem_cons hlt2
      have hc : ((i : Int) + 1) = ((i + 1 : Nat) : Int) := by push_cast; rfl
      rw [e1', e2']
      refine wpAny_bind (wpAny_eqBool_int ?_)
      by_cases hx : ns[i] = ms[i]
      · have hx' : (ns[i] == ms[i]) = true := beq_iff_eq.mpr hx
        rw [hx']
        wp_walk
        rw [hc]
        refine ⟨plainId_quiet MeetsSeq3.plain_eq_loop _, codeAny_builtin MeetsSeq3.entry_eq_loop (by
          rw [Around.under_plainId MeetsSeq3.plain_eq_loop _]
          refine ih (i + 1) (by omega) (by omega) (by omega) prog w A R _ ⟨hl, hb, ?_⟩
          rw [hd, hd2, hx] at h
          have e : lexLt itemOrd (inls (ms[i] :: ns.drop (i + 1))) (inls (ms[i] :: ms.drop (i + 1))) = lexLt itemOrd (inls (ns.drop (i + 1))) (inls (ms.drop (i + 1))) := lex_self _ _ _
          rw [e] at h
          exact h)⟩
      · have hx' : (ns[i] == ms[i]) = false := beq_eq_false_iff_ne.mpr hx
        rw [hx']
        wp_walk using AutoSeq1.wpAny_loadPart' hl, AutoSeq1.wpAny_loadPart' hb
        rw [e1', e2']
        rw [hd, hd2] at h
        have e : lexLt itemOrd (inls (ns[i] :: ns.drop (i + 1))) (inls (ms[i] :: ms.drop (i + 1))) = decide (ns[i] < ms[i]) := lex_diff (O := itemOrd) (fun z => hx (Sum.inl.inj z))
        rw [e] at h
        refine wpAny_bind (show wpAny (model prog w) _ (richCompare .Lt (.int ns[i] t1) (.int ms[i] t2)) _ _ _ from P.lt_int ?_)
        exact wpAny_pure h
    · have e2' : items2[((i : Nat) : Int).toNat]? = none := by simp; omega
      have hd2 : ms.drop i = [] := by simp; omega
      rw [e1', e2']
      rw [hd, hd2] at h
      wp_walk using AutoSeq1.wpAny_loadPart' hl, AutoSeq1.wpAny_loadPart' hb
      show R (.ok (.ret (.bool (decide (items.size < items2.size))))) _
      rw [decide_eq_false (by omega)]
      exact h
theorem list_lt (l b : Addr) (items items2 : Array Value) (n n2 : Nat) (dd dd2 : Option Addr) (sl sl2 : Array (Option Value)) {ns ms : List Int} (hi : IntsAre items.toList ns) (hj : IntsAre items2.toList ms) :
    Meets (Builtin.«list.__lt__» ⟨[.ref l, .ref b], []⟩)
      (fun A R s => s.heap.get? l = some { cls := .type "list", dict := dd, data := .seq items n, slots := sl } ∧ s.heap.get? b = some { cls := .type "list", dict := dd2, data := .seq items2 n2, slots := sl2 } ∧
        R (.ok (.ret (.bool (lexLt itemOrd (inls ns) (inls ms))))) s) := by
  intro prog w A R s h
  have f3 := AutoSeq1.sub_list_list
  obtain ⟨hl, hb, h⟩ := h
  obtain ⟨hp, ge, dr, tk, os⟩ := s
  wp_walk using AutoSeq1.wpAny_loadPart' hl, AutoSeq1.wpAny_loadPart' hb
  exact ⟨plainId_quiet MeetsSeq3.plain_eq_loop _, codeAny_builtin MeetsSeq3.entry_eq_loop (by
    rw [Around.under_plainId MeetsSeq3.plain_eq_loop _]
    exact lt_loop l b items items2 n n2 dd dd2 sl sl2 hi hj _ 0 rfl (Nat.zero_le _) (Nat.zero_le _) prog w A R _ ⟨hl, hb, by simpa using h⟩)⟩
end Sl
namespace Sl
open PySem PySem.W PyProof.Rows
/-- a list of whole numbers of the heap -/
def LOf (h : Heap) (v : Value) (ns : List Int) : Prop := ∃ (a : Addr) (dd : Option Addr) (xs : Array Value) (n : Nat) (sl : Array (Option Value)), v = .ref a ∧ h.get? a = some { cls := .type "list", dict := dd, data := .seq xs n, slots := sl } ∧ IntsAre xs.toList ns
def noText : Nat → Bool := fun _ => false
theorem tup_ints : ∀ {vs : List Value} {ns : List Int} (i : Nat), IntsAre vs ns → tupItems noText i vs = some (inls ns)
  | _, _, _, .nil => rfl
  | _, _, i, .cons n t h => by
    show (if noText i = true then none else (tupItems noText (i + 1) _).map (Sum.inl n :: ·)) = _
    rw [tup_ints (i + 1) h]
    rfl
theorem LOf.key {h : Heap} {v : Value} {ns : List Int} (q : LOf h v ns) : tupKey h noText v = some (inls ns) := by
  obtain ⟨a, dd, xs, n, sl, rfl, ho, hi⟩ := q
  simp only [tupKey, ho]
  exact tup_ints 0 hi
section
variable {prog : Program} {w : World} {A : Around} {E : Value → Shared → Prop} {s : Shared}
theorem lt_one {x y : Value} {ns ms : List Int} {Q : Bool → Shared → Prop} (hu : A.units < cLine) (hx : LOf s.heap x ns) (hy : LOf s.heap y ms) (h : Q (lexLt itemOrd (inls ns) (inls ms)) s) : wpAny (model prog w) A (keyLt' oneType' x y) Q E s := by
  obtain ⟨a, dd, xs, n, sl, rfl, ho, hi⟩ := hx
  obtain ⟨b, dd2, ys, m, sl2, rfl, ho2, hj⟩ := hy
  rw [keyLt'_oneType, oneLt'_eq]
  simp only [if_true]
  refine wpAny_bind (wpAny_cRoomFor hu (wpAny_bind (wpAny_callSpecialIfBound?_slot ⟨_, ho, rfl⟩ F.slot_list_lt (call_meets F.slot_list_lt ⟨_, ho, rfl⟩ F.entry_list_lt (F.args_list_lt_2 _ _) (list_lt a b xs ys n m dd dd2 sl sl2 hi hj) ⟨ho, ho2, ?_⟩))))
  exact wpAny_truthy_bool h
theorem lt_two {x y : Value} {ns ms : List Int} {Q : Bool → Shared → Prop} (hx : LOf s.heap x ns) (hy : LOf s.heap y ms) (h : Q (lexLt itemOrd (inls ns) (inls ms)) s) : wpAny (model prog w) A (keyLt' (tuples' true) x y) Q E s := by
  obtain ⟨a, dd, xs, n, sl, rfl, ho, hi⟩ := hx
  obtain ⟨b, dd2, ys, m, sl2, rfl, ho2, hj⟩ := hy
  exact kat_lt ho rfl ho2 rfl (tup_lex (shape := noText) xs.toList ys.toList 0 _ _ (tup_ints 0 hi) (tup_ints 0 hj) (by rw [Array.length_toList, Array.length_toList]) h)
def GoodL (h : Heap) (p : Keyed) : Prop := ∃ ns, LOf h p.1 ns
theorem two_of {Γ : Ctx} (hu : A.units < cLine) (hG : Γ.In A) : Two (model prog w) Γ s (tuples' true) (GoodL s.heap) := ⟨fun _ _ ⟨ns, hx⟩ ⟨ms, hy⟩ =>
  ⟨lexLt itemOrd (inls ns) (inls ms), fun p => lt_one (E := fun _ _ => False) (Q := fun r s' => r = _ ∧ s' = s) hu hx hy ⟨rfl, rfl⟩ Γ p hG, fun p => lt_two (E := fun _ _ => False) (Q := fun r s' => r = _ ∧ s' = s) hx hy ⟨rfl, rfl⟩ Γ p hG⟩⟩
theorem ltAt_two : G.LtAt prog w s (tupKind s.heap noText) (tuples' true) := by
  intro A E x y as bs Q hx hy hq
  obtain ⟨a, o, xs, n, rfl, ho, hd, hi⟩ := tupKey_some hx
  obtain ⟨b, o2, ys, m, rfl, ho2, hd2, hj⟩ := tupKey_some hy
  exact kat_lt ho hd ho2 hd2 (tup_lex xs.toList ys.toList 0 as bs hi hj (by rw [Array.length_toList, Array.length_toList]) hq)
theorem good_pairs {vs : List Value} (h : ∀ v ∈ vs, ∃ ns, LOf s.heap v ns) : GoodA (GoodL s.heap) (pairsOf vs) := fun p hp => by
  rw [pairsOf_toList] at hp
  exact h p.1 (mem_zip_self hp).2
/-- the runs of lists are sorted as those of tuples are -/
theorem runs_lists {vs : List Value} (hu : A.units < cLine) (h : ∀ v ∈ vs, ∃ ns, LOf s.heap v ns) (h2 : 2 ≤ vs.length) {Q : Unit → SortSt → Prop}
    (hq : ∀ st', (arrOf st').Perm (pairsOf vs) → failedOf st' = none → SortedToK (tupKind s.heap noText) (arrOf st') (pairsOf vs).size → Q () st') : wpS (model prog w) A E s sortRuns' Q (SortSt.mk' oneType' (pairsOf vs) #[] 7 none) := by
  intro Γ p hG
  have K0 : KeysOf (tupKind s.heap noText) (pairsOf vs) := fun p hp => by
    obtain ⟨ns, e⟩ := good_pairs h p hp
    exact ⟨_, e.key⟩
  have w2 : wpS (model prog w) A (fun _ _ => False) s sortRuns' (fun _ st' => (arrOf st').Perm (pairsOf vs) ∧ failedOf st' = none ∧ SortedToK (tupKind s.heap noText) (arrOf st') (pairsOf vs).size) (SortSt.mk' (tuples' true) (pairsOf vs) #[] 7 none) :=
    G.wpS_sortRunsSt ltAt_two K0 ⟨Array.Perm.refl _, rfl, rfl⟩ rfl (Stable.refl _) (by rw [pairsOf_size]; exact h2) fun st' a b c _ => ⟨a, b, c⟩
  have q := sm_runs (two_of (prog := prog) (w := w) (s := s) hu hG) (SortSt.mk' oneType' (pairsOf vs) #[] 7 none) ⟨rfl, good_pairs h⟩ _ p (w2 Γ p hG) p
  refine Sem.wp_mono _ Γ _ (fun r _ s' hr => ?_) (fun _ _ _ e => e.elim) p s q
  obtain ⟨rfl, _, _, _, _, h1, h3, h4⟩ := hr
  exact ⟨rfl, hq r.2 h1 h3 h4⟩
/-- what each of them gives alike -/
theorem mapM_same {β : Type} {f : Value → Sem β} {c : β} : ∀ (vs : List Value) {Q : List β → Shared → Prop}, (∀ v ∈ vs, ∀ {R : β → Shared → Prop}, R c s → wpAny (model prog w) A (f v) R E s) → Q (vs.map fun _ => c) s → wpAny (model prog w) A (vs.mapM f) Q E s
  | [], Q, _, h => by
    rw [List.mapM_nil]
    exact wpAny_pure h
  | v :: r, Q, hf, h => by
    rw [List.mapM_cons]
    refine wpAny_bind (hf v (List.mem_cons_self ..) (wpAny_bind (mapM_same r (fun u hu => hf u (List.mem_cons_of_mem _ hu)) ?_)))
    exact wpAny_pure h
theorem LOf.is {v : Value} {ns : List Int} {s : Shared} (q : LOf s.heap v ns) : s.TypeIs v "list" := by
  obtain ⟨a, dd, xs, n, sl, rfl, ho, _⟩ := q
  exact ⟨_, ho, rfl⟩
theorem kind_lists {v : Value} {vs : List Value} (h : ∀ u ∈ v :: vs, ∃ ns, LOf s.heap u ns) {Q : SortKind → Shared → Prop} (hq : Q oneType' s) : wpAny (model prog w) A (keyKind' (v :: vs).toArray) Q E s := by
  rw [keyKind'_eq, List.mapM_toArray]
  refine wpAny_bind ?_
  show wpAny _ _ (List.toArray <$> _) _ _ _
  rw [map_eq_pure_bind]
  refine wpAny_bind (mapM_same (c := none) (v :: vs) (fun u hu R hr => ?_) (wpAny_pure ?_))
  · obtain ⟨ns, q⟩ := h u hu
    show wpAny _ _ (typeOf u >>= fun t => if (t != .type "tuple") = true then pure none else (Builtin.List.listItems u >>= fun (xs : Array Value) => pure xs[0]?)) _ _ _
    refine wpAny_bind (wpAny_typeOf (LOf.is q) ?_)
    exact wpAny_pure hr
  · rw [if_neg (by simp), if_neg (by simp), oneTypeOnly'_eq, List.mapM_toArray]
    refine wpAny_bind (wpAny_bind ?_)
    show wpAny _ _ (List.toArray <$> _) _ _ _
    rw [map_eq_pure_bind]
    refine wpAny_bind (mapM_same (c := .type "list") (v :: vs) (fun u hu R hr => ?_) (wpAny_pure ?_))
    · obtain ⟨ns, q⟩ := h u hu
      exact wpAny_typeOf (LOf.is q) hr
    · have e0 : (List.map (fun _ => Value.type "list") (v :: vs)).toArray[0]? = some (.type "list") := by simp
      have e1 : ((List.map (fun _ => Value.type "list") (v :: vs)).toArray.all fun x => x == Value.type "list") = true := by simp
      rw [e0]
      dsimp only
      rw [e1]
      exact wpAny_pure (wpAny_pure hq)
theorem LOf.keep {h h' : Heap} {v : Value} {ns : List Int} (q : LOf h v ns) (k : ∀ b o, h.get? b = some o → h'.get? b = some o) : LOf h' v ns := by
  obtain ⟨a, dd, xs, n, sl, e, ho, hi⟩ := q
  exact ⟨a, dd, xs, n, sl, e, k _ _ ho, hi⟩
theorem LOf.one {h : Heap} {v : Value} {ns ms : List Int} (q : LOf h v ns) (r : LOf h v ms) : ns = ms := by
  have e := q.key.symm.trans r.key
  have e2 : inls ns = inls ms := Option.some.inj e
  exact (List.map_inj_right (fun _ _ z => Sum.inl.inj z)).mp e2
/-- the heap in which list.sort compares -/
abbrev h6 (h : Heap) (a : Addr) (vs : List Value) : Heap := ((h.update a (Obj.mapSeq fun _ => #[])).push (seqObj "tuple" vs.toArray 0)).push (seqObj "list" #[] 0)
/-- what is left of a list that is sorted -/
def Laid (h : Heap) (vs out : List Value) : Prop := out.Perm vs ∧ ∀ (i j : Nat) (x y : Value) (ns ms : List Int), i ≤ j → out[i]? = some x → out[j]? = some y → LOf h x ns → LOf h y ms → lexLt itemOrd (inls ms) (inls ns) = false
theorem laid_of {h : Heap} {vs : List Value} {xs : Array Keyed} (hp : xs.Perm (pairsOf vs)) (hs : SortedToK (tupKind h noText) xs (pairsOf vs).size) : Laid h vs (xs.map (·.2)).toList := by
  have hl : xs.toList.Perm (vs.zip vs) := by
    have e := Array.perm_iff_toList_perm.mp hp
    rwa [pairsOf_toList] at e
  have hm : ∀ p ∈ xs.toList, p.1 = p.2 := fun p q => (mem_zip_self (hl.mem_iff.mp q)).1
  have e2 : (vs.zip vs).map Prod.snd = vs := List.map_snd_zip (Nat.le_refl _)
  constructor
  · rw [Array.toList_map]
    have z := hl.map Prod.snd
    rwa [e2] at z
  · intro i j x y ns ms hij hx hy hn hm'
    rw [Array.toList_map, List.getElem?_map] at hx hy
    have hz : xs.toList.length = (pairsOf vs).size := by rw [Array.length_toList]; exact hp.size_eq
    cases ex : xs.toList[i]? with
    | none => rw [ex] at hx; cases hx
    | some p =>
      cases ey : xs.toList[j]? with
      | none => rw [ey] at hy; cases hy
      | some q =>
        rw [ex] at hx
        rw [ey] at hy
        have hx' : p.2 = x := Option.some.inj hx
        have hy' : q.2 = y := Option.some.inj hy
        have hjl := (List.getElem?_eq_some_iff.mp ey).1
        have s := hs i j hij (by omega)
        have p1 := hm p (List.mem_of_getElem? ex)
        have q1 := hm q (List.mem_of_getElem? ey)
        have k1 : KK (tupKind h noText) xs i = inls ns := by
          unfold KK
          rw [show xs[i]? = some p by simpa using ex]
          show ((tupKey h noText p.1).getD []) = _
          rw [p1, hx', hn.key]
          rfl
        have k2 : KK (tupKind h noText) xs j = inls ms := by
          unfold KK
          rw [show xs[j]? = some q by simpa using ey]
          show ((tupKey h noText q.1).getD []) = _
          rw [q1, hy', hm'.key]
          rfl
        rw [k1, k2] at s
        exact s
theorem sort_lists {a : Addr} {vs : List Value} {n : Nat} {P : Fin → Shared → Prop} (hu : A.units < cLine) (ho : s.heap.get? a = some (seqObj "list" vs.toArray n)) (hL : vs.length ≤ sizeLine) (hv : ∀ v ∈ vs, ∃ ns, LOf (h6 s.heap a vs) v ns)
    (h : ∀ out : Array Value, Laid (h6 s.heap a vs) vs out.toList → P (.done (.ret .none)) { s with heap := sortedHeap s.heap a vs out }) : wpAny (model prog w) A (Builtin.«list.sort» ⟨[.ref a], []⟩) P E s := by
  have hL2 : vs.length ≤ sizeLine + 1 := Nat.le_succ_of_le hL
  obtain ⟨e1, o1⟩ : ∃ e1, (s.heap.update a (Obj.mapSeq fun _ => #[])).get? a = some (seqObj "list" #[] e1) := ⟨_, get?_update_seq ho fun _ => #[]⟩
  have o6 : (h6 s.heap a vs).get? a = some (seqObj "list" #[] e1) := Heap.get?_push_of_some _ (Heap.get?_push_of_some _ o1)
  rw [list_sort_plain]
  refine wpAny_bind (listItems_at ho rfl (wpAny_bind (listUpdate_at ho rfl (wpAny_bind (seqEpoch_at o1 rfl (wpAny_bind (wpAny_newTuple (wpAny_bind (wpAny_newList (wpAny_holding ?_))))))))))
  show wpAny (model prog w) A _ P E { s with heap := h6 s.heap a vs }
  dsimp only
  -- what stands behind the runs
  have rest : ∀ st' : SortSt, (arrOf st').Perm (pairsOf vs) → failedOf st' = none → SortedToK (tupKind (h6 s.heap a vs) noText) (arrOf st') (pairsOf vs).size →
      wpAny (model prog w) A (do
        let touched := (← seqEpoch a) != e1
        Builtin.List.listUpdate (.ref a) fun _ => (arrOf st').map (·.2)
        if let some e := failedOf st' then rule "list.sort.comparison-raised"; throw e
        if touched then rule "list.sort.modified"; raiseError "ValueError" "list modified during sort"
        ret .none) P E { s with heap := h6 s.heap a vs } := fun st' hp hf hs => by
    refine wpAny_bind (seqEpoch_at o6 rfl (wpAny_bind (listUpdate_at o6 rfl ?_ (hsz2 := by rw [Array.size_map, hp.size_eq, pairsOf_size]; exact hL2))))
    rw [hf]
    simp only [bne_self_eq_false, Bool.false_eq_true, if_false]
    exact wpAny_pure (h _ (laid_of hp hs))
  have hz : vs.toArray.size = vs.length := List.size_toArray
  by_cases h2 : vs.length < 2
  · rw [if_pos (by rw [hz]; exact h2), if_pos (by rw [hz]; exact h2)]
    refine wpAny_bind (wpAny_pure ?_)
    rw [StateT.run_pure]
    refine wpAny_bind (wpAny_pure (rest (SortSt.mk' general' (pairsOf vs) #[] 7 none) (Array.Perm.refl _) rfl fun i j hij hj => ?_))
    have e : i = j := by rw [pairsOf_size] at hj; omega
    subst e
    exact KeyOrd.kle_refl _
  · rw [if_neg (by rw [hz]; exact h2), if_neg (by rw [hz]; exact h2)]
    obtain ⟨v, r, e⟩ : ∃ v r, vs = v :: r := by
      cases vs with
      | nil => exact absurd (by show 0 < 2; decide) h2
      | cons v r => exact ⟨v, r, rfl⟩
    refine wpAny_bind ?_
    have kl : wpAny (model prog w) A (keyKind' vs.toArray) (fun kd s' => kd = oneType' ∧ s' = { s with heap := h6 s.heap a vs }) E { s with heap := h6 s.heap a vs } := by
      subst e
      exact kind_lists (s := { s with heap := h6 s.heap a (v :: r) }) hv ⟨rfl, rfl⟩
    refine wpAny_mono kl (fun kd s' q => ?_) fun _ _ z => z
    obtain ⟨rfl, rfl⟩ := q
    have rl := runs_lists (prog := prog) (w := w) (A := A) (E := E) (s := { s with heap := h6 s.heap a vs }) hu hv (by omega) (Q := fun _ st' => (arrOf st').Perm (pairsOf vs) ∧ failedOf st' = none ∧ SortedToK (tupKind (h6 s.heap a vs) noText) (arrOf st') (pairsOf vs).size) fun st' x y z => ⟨x, y, z⟩
    refine wpAny_bind (wpAny_mono rl (fun q s' hq => ?_) fun _ _ z => z)
    obtain ⟨rfl, q1, q2, q3⟩ := hq
    exact rest q.2 q1 q2 q3
/-- sorted: the list that is collected, the copy -/
abbrev hA (h : Heap) (vs : List Value) : Heap := (h.push (seqObj "list" #[] 0)).update h.objs.size (Obj.mapSeq (· ++ vs.toArray))
abbrev hB (h : Heap) (vs : List Value) : Heap := (hA h vs).push (seqObj "list" vs.toArray 0)
theorem hA_size (h : Heap) (vs : List Value) : (hA h vs).objs.size = h.objs.size + 1 := by rw [Heap.size_update, size_push']
theorem hB_old {h : Heap} {vs : List Value} {b : Addr} {o : Obj} (e : h.get? b = some o) : (hB h vs).get? b = some o := by
  refine Heap.get?_push_of_some _ ?_
  rw [Heap.get?_update_ne _ _ _ _ (Nat.ne_of_lt (Heap.lt_size e))]
  exact Heap.get?_push_of_some _ e
theorem h6_old {h : Heap} {vs : List Value} {b : Addr} {o : Obj} (e : h.get? b = some o) : (h6 (hB h vs) (h.objs.size + 1) vs).get? b = some o := by
  refine Heap.get?_push_of_some _ (Heap.get?_push_of_some _ ?_)
  rw [Heap.get?_update_ne _ _ _ _ (Nat.ne_of_lt (Nat.lt_succ_of_lt (Heap.lt_size e)))]
  exact hB_old e
theorem sorted_lists {l : Addr} {vs : List Value} {Q : Value → Shared → Prop} (hu : A.units + 8 < cLine) (hl : s.heap.IsList l vs.toArray) (hL : vs.length ≤ sizeLine) (hv : ∀ v ∈ vs, ∃ ns, LOf s.heap v ns)
    (h : ∀ out : Array Value, Laid s.heap vs out.toList → Q (.ref (s.heap.objs.size + 1)) { s with heap := sortedAll s.heap vs out }) : wpAny (model prog w) A (call (.builtin "sorted") [.ref l]) Q E s := by
  refine Calls.call_function_entry kind_sorted plain_sorted entry_sorted (args_sorted1 _) ?_
  unfold Builtin.«sorted»
  refine wpAny_bind (m := checkCount "sorted" 1 1 _) (wpAny_pure (wpAny_bind (collect_list hl (wpAny_bind (wpAny_newList ?_)))))
  have ho : (hB s.heap vs).get? (s.heap.objs.size + 1) = some (seqObj "list" vs.toArray 0) := by
    rw [← hA_size s.heap vs]
    exact Heap.get?_push_size _ rfl
  show wpAny _ _ _ _ _ { s with heap := hB s.heap vs }
  rw [hA_size]
  refine wpAny_bind (wpAny_holding (wpAny_call_entry slot_list_sort ⟨_, ho, rfl⟩ entry_list_sort (sort_lists (s := { s with heap := hB s.heap vs }) ?_ ho hL (fun v m => ?_) fun out hq => ⟨_, rfl, wpAny_pure ⟨_, rfl, h out ?_⟩⟩) (args_list_sort _)))
  · simp only [Around.in1_units]
    omega
  · obtain ⟨ns, q⟩ := hv v m
    exact ⟨ns, q.keep fun b o e => h6_old e⟩
  · refine ⟨hq.1, fun i j x y ns ms hij hx hy hn hm => hq.2 i j x y ns ms hij hx hy (hn.keep fun b o e => h6_old e) (hm.keep fun b o e => h6_old e)⟩
end
end Sl
/-! TOOLS over the hand layer: + of lists whoever keeps them, sorted of lists of lists -/
namespace L2
open PySem PySem.Spec PyProof.Rows
section
variable {X : Cx}
def rCatL (K : PySem.W.Frag) : R2 := fun x y H Q => ∃ l b xs zs, x = .ref l ∧ y = .ref b ∧ SqL K H l xs ∧ SqL K H b zs ∧ xs.length + zs.length ≤ sizeLine ∧ ∀ p, H p = none → Q (.ref p) (upd H p (.lst (xs ++ zs)))
theorem op_catL : OpR X (binaryOp .Add) (rCatL X.K) := by
  intro pins s σ H x y v u Q I rx ry h
  obtain ⟨l, b, xs, zs, rfl, rfl, hl, hb, hz, q⟩ := h
  cases rx
  cases ry
  obtain ⟨its, r1, ⟨⟨c1, d1, da1, s1⟩, n1, g1, e1, e2, e3⟩, _⟩ := I.list hl
  obtain ⟨its2, r2, ⟨⟨c2, d2, da2, s2⟩, n2, g2, f1, f2, f3⟩, _⟩ := I.list hb
  simp only at e1 e2 e3 f1 f2 f3
  subst e1 e2 e3 f1 f2 f3
  have l1 := r1.length
  have l2 := r2.length
  refine concat_meets ⟨_, g1, rfl⟩ ⟨_, g2, rfl⟩ noFill_list_add seq_list_add PySem.F.slot_list_add PySem.F.entry_list_add (PySem.F.args_list_add_2 _ _) (list_addW l b its.toArray its2.toArray n1 n2 none none s1 s2 (by rw [List.size_toArray, List.size_toArray]; omega)) ⟨g1, g2, ?_⟩
  have ea : its.toArray ++ its2.toArray = (its ++ its2).toArray := by simp
  rw [ea]
  exact ⟨.ref _, _, I.laid (t' := s.toks) (o := .lst (xs ++ zs)) (fun _ _ e => Heap.get?_push_of_some _ e) (Nat.le_refl _) ⟨by rw [List.length_append]; omega, its ++ its2, 0, r1.append r2, Heap.get?_push_size _ rfl⟩, rfl, q _ (I.hok.fresh (Nat.le_refl _))⟩
/-- sorted(xs), lists of whole numbers -/
def rSortedL (K : PySem.W.Frag) : List V → Hp → VK → Prop := fun vs H Q => ∃ (a : Addr) (rs : List Addr), vs = [V.ref a] ∧ SqL K H a (rs.map V.ref) ∧ (∀ r ∈ rs, ∃ ns : List Int, SqL K H r (ns.map V.int)) ∧
  ∀ (p : Addr) (rs' : List Addr), rs'.Perm rs → (∀ (i j : Nat) (r r' : Addr) (ns ms : List Int), i ≤ j → rs'[i]? = some r → rs'[j]? = some r' → SqL K H r (ns.map V.int) → SqL K H r' (ms.map V.int) → lexLt itemOrd (Sl.inls ms) (Sl.inls ns) = false) → H p = none → Q (.ref p) (upd H p (.lst (rs'.map V.ref)))
theorem Vals.refs : ∀ {rs : List Addr} {us : List Value}, Vals (rs.map V.ref) us → us = rs.map Value.ref
  | [], us, h => by
    rw [List.map_nil] at h
    cases h
    rfl
  | r :: rs, us, h => by
    rw [List.map_cons] at h
    cases h with
    | cons q t =>
      cases q
      rw [Vals.refs t, List.map_cons]
theorem refs_vals : ∀ rs : List Addr, Vals (rs.map V.ref) (rs.map Value.ref)
  | [] => .nil
  | _ :: rs => .cons rfl (refs_vals rs)
theorem perm_refs {out : List Value} {rs : List Addr} (h : out.Perm (rs.map Value.ref)) : ∃ rs' : List Addr, rs'.Perm rs ∧ out = rs'.map Value.ref := by
  refine ⟨out.filterMap fun v => match v with | .ref a => some a | _ => none, ?_, ?_⟩
  · have q := h.filterMap fun v => match v with | .ref a => some a | _ => none
    have e : (rs.map Value.ref).filterMap (fun v => match v with | .ref a => some a | _ => none) = rs := by
      rw [List.filterMap_map]
      exact List.filterMap_some
    rwa [e] at q
  · have all : ∀ v ∈ out, ∃ a, v = Value.ref a := fun v hv => by
      obtain ⟨a, _, e⟩ := List.mem_map.mp (h.mem_iff.mp hv)
      exact ⟨a, e.symm⟩
    clear h
    induction out with
    | nil => rfl
    | cons v r ih =>
      obtain ⟨a, rfl⟩ := all v (List.mem_cons_self ..)
      rw [List.filterMap_cons]
      show _ = Value.ref a :: _
      rw [← ih fun u hu => all u (List.mem_cons_of_mem _ hu)]
theorem lof_of {pins : List (Addr × Obj)} {σ : St} {H : Hp} {s : Shared} {r : Addr} {ns : List Int} (I : Inv X pins σ H s) (h : SqL X.K H r (ns.map V.int)) : Sl.LOf s.heap (.ref r) ns := by
  obtain ⟨its, r1, ⟨⟨c1, d1, da1, s1⟩, n1, g1, e1, e2, e3⟩, _⟩ := I.list h
  simp only at e1 e2 e3
  subst e1 e2 e3
  exact ⟨r, none, its.toArray, n1, s1, rfl, g1, by simpa using r1.ints⟩
theorem cr_sortedL (hu : X.A.units + 8 < cLine) : CallR X (.builtin "sorted") (rSortedL X.K) := by
  intro pins s σ H vs us Q I r h
  obtain ⟨a, rs, rfl, hs, hw, q⟩ := h
  obtain ⟨its, rv, hl, hz⟩ := I.list hs
  rw [Vals.ref1 r]
  have ei := rv.refs
  subst ei
  rw [List.length_map] at hz
  refine Sl.sorted_lists hu hl.isList (by rw [List.length_map]; exact hz) (fun v hv => ?_) fun out hq => ?_
  · obtain ⟨b, hb, rfl⟩ := List.mem_map.mp hv
    obtain ⟨ns, e⟩ := hw b hb
    exact ⟨ns, lof_of I e⟩
  · obtain ⟨rs', hp, eo⟩ := perm_refs hq.1
    obtain ⟨ep, he'⟩ := PyProof.Rows.sortedAll_at s.heap (rs.map Value.ref) out
    have eo' : out = (rs'.map Value.ref).toArray := by rw [← eo]
    subst eo'
    refine ⟨.ref _, upd H (s.heap.objs.size + 1) (.lst (rs'.map V.ref)), I.laid (t' := s.toks) (fun _ _ => PyProof.Rows.sortedAll_old) (Nat.le_succ _) ⟨by rw [List.length_map, hp.length_eq]; exact hz, rs'.map Value.ref, ep, refs_vals rs', he'⟩, rfl, q _ rs' hp (fun i j b c ns ms hij hb hc h1 h2 => ?_) (I.hok.fresh (Nat.le_succ _))⟩
    exact hq.2 i j (.ref b) (.ref c) ns ms hij (by simp [hb]) (by simp [hc]) (lof_of I h1) (lof_of I h2)
end
end L2
namespace Sl
open PySem
/-! ### the table of a set: places that rise -/
abbrev Rise (a : Array Nat) : Prop := a.toList.Pairwise (· < ·)
theorem rise_lt {a : Array Nat} (h : Rise a) {i j x y : Nat} (hij : i < j) (hx : a[i]? = some x) (hy : a[j]? = some y) : x < y := by
  have hx' : a.toList[i]? = some x := by simpa using hx
  have hy' : a.toList[j]? = some y := by simpa using hy
  obtain ⟨h1, e1⟩ := List.getElem?_eq_some_iff.mp hx'
  obtain ⟨h2, e2⟩ := List.getElem?_eq_some_iff.mp hy'
  have q := List.pairwise_iff_getElem.mp h i j h1 h2 hij
  rw [e1, e2] at q
  exact q
theorem below_go {a : Array Nat} (h : Rise a) (j : Nat) : ∀ (fuel lo hi : Nat), hi - lo ≤ fuel → lo ≤ hi → hi ≤ a.size → (∀ (k x : Nat), k < lo → a[k]? = some x → x < j) → (∀ (k x : Nat), hi ≤ k → a[k]? = some x → j ≤ x) →
    SetTable.below.go a j fuel lo hi ≤ a.size ∧ (∀ (k x : Nat), k < SetTable.below.go a j fuel lo hi → a[k]? = some x → x < j) ∧ ∀ (k x : Nat), SetTable.below.go a j fuel lo hi ≤ k → a[k]? = some x → j ≤ x
  | 0, lo, hi, hf, hl, hs, h1, h2 => by
    have e : lo = hi := by omega
    subst e
    exact ⟨hs, h1, h2⟩
  | fuel + 1, lo, hi, hf, hl, hs, h1, h2 => by
    unfold SetTable.below.go
    by_cases c : lo < hi
    · rw [if_pos c]
      dsimp only
      have hm : (lo + hi) / 2 < a.size := by omega
      have em : a[(lo + hi) / 2]? = some a[(lo + hi) / 2] := Array.getElem?_eq_getElem hm
      have eg : a.getD ((lo + hi) / 2) j = a[(lo + hi) / 2] := by rw [Array.getD_eq_getD_getElem?, em]; rfl
      rw [eg]
      by_cases d : a[(lo + hi) / 2] < j
      · rw [if_pos d]
        refine below_go h j fuel _ hi (by omega) (by omega) hs (fun k x hk hx => ?_) h2
        by_cases e : k = (lo + hi) / 2
        · subst e
          rw [em] at hx
          cases hx
          exact d
        · have := rise_lt h (show k < (lo + hi) / 2 by omega) hx em
          omega
      · rw [if_neg d]
        refine below_go h j fuel lo _ (by omega) (by omega) (by omega) h1 fun k x hk hx => ?_
        by_cases e : k = (lo + hi) / 2
        · subst e
          rw [em] at hx
          cases hx
          omega
        · have := rise_lt h (show (lo + hi) / 2 < k by omega) em hx
          omega
    · rw [if_neg c]
      have e : lo = hi := by omega
      subst e
      exact ⟨hs, h1, h2⟩
theorem below_of {a : Array Nat} (h : Rise a) (j : Nat) : SetTable.below a j ≤ a.size ∧ (∀ (k x : Nat), k < SetTable.below a j → a[k]? = some x → x < j) ∧ ∀ (k x : Nat), SetTable.below a j ≤ k → a[k]? = some x → j ≤ x :=
  below_go h j a.size 0 a.size (by omega) (Nat.zero_le _) (Nat.le_refl _) (fun k x hk => absurd hk (Nat.not_lt_zero _)) fun k x hk hx => by
    have := (Array.getElem?_eq_some_iff.mp hx).1
    omega
/-- the first place from a slot on -/
theorem below_zero {a : Array Nat} (h : Rise a) : SetTable.below a 0 = 0 := by
  obtain ⟨h1, h2, h3⟩ := below_of h 0
  by_cases e : SetTable.below a 0 = 0
  · exact e
  · have z : 0 < a.size := by omega
    have := h2 0 _ (by omega) (Array.getElem?_eq_getElem z)
    omega
theorem below_next {a : Array Nat} (h : Rise a) {i x : Nat} (hx : a[i]? = some x) : SetTable.below a (x + 1) = i + 1 := by
  obtain ⟨h1, h2, h3⟩ := below_of h (x + 1)
  have hi := (Array.getElem?_eq_some_iff.mp hx).1
  by_cases c : SetTable.below a (x + 1) ≤ i
  · have := h3 i x c hx
    omega
  · by_cases d : i + 1 < SetTable.below a (x + 1)
    · have z : i + 1 < a.size := by omega
      have e : a[i + 1]? = some a[i + 1] := Array.getElem?_eq_getElem z
      have q1 := h2 (i + 1) _ d e
      have q2 := rise_lt h (show i < i + 1 by omega) hx e
      omega
    · omega
theorem rise_insert {a : Array Nat} (h : Rise a) {j : Nat} (hj : a[SetTable.below a j]? ≠ some j) : Rise (SetTable.insertAt a (SetTable.below a j) j) := by
  obtain ⟨h1, h2, h3⟩ := below_of h j
  generalize SetTable.below a j = p at *
  unfold SetTable.insertAt
  show List.Pairwise (· < ·) _
  rw [Array.toList_append, Array.toList_push, Array.toList_extract, Array.toList_extract]
  have e1 : (a.toList.drop 0).take (p - 0) = a.toList.take p := by simp
  have e2 : (a.toList.drop p).take (a.size - p) = a.toList.drop p := List.take_of_length_le (by rw [List.length_drop, Array.length_toList]; exact Nat.le_refl _)
  have at1 : ∀ x ∈ a.toList.take p, x < j := fun x hx => by
    obtain ⟨k, hk, e⟩ := List.getElem_of_mem hx
    rw [List.length_take] at hk
    rw [List.getElem_take] at e
    exact h2 k x (by omega) (by rw [← Array.getElem?_toList, List.getElem?_eq_getElem (by omega), e])
  have at2 : ∀ x ∈ a.toList.drop p, j < x := fun x hx => by
    obtain ⟨k, hk, e⟩ := List.getElem_of_mem hx
    rw [List.length_drop] at hk
    rw [List.getElem_drop] at e
    have ex : a[p + k]? = some x := by rw [← Array.getElem?_toList, List.getElem?_eq_getElem (by omega), e]
    have q := h3 (p + k) x (by omega) ex
    by_cases c : j = x
    · subst c
      exfalso
      by_cases k0 : k = 0
      · subst k0
        exact hj ex
      · have hp : p < a.size := by
          have := (Array.getElem?_eq_some_iff.mp ex).1
          omega
        have ep : a[p]? = some a[p] := Array.getElem?_eq_getElem hp
        have q1 := h3 p _ (Nat.le_refl _) ep
        have q2 := rise_lt h (show p < p + k by omega) ep ex
        omega
    · omega
  refine List.pairwise_append.mpr ⟨List.pairwise_append.mpr ⟨?_, List.pairwise_singleton _ _, fun x hx y hy => ?_⟩, ?_, fun x hx y hy => ?_⟩
  · exact (List.Pairwise.sublist (by simpa using List.take_sublist _ _) h)
  · have hx' : x ∈ a.toList.take p := by simpa using hx
    have hy' : y = j := by simpa using hy
    rw [hy']
    exact at1 x hx'
  · refine List.Pairwise.sublist ?_ h
    exact (List.take_sublist _ _).trans (List.drop_sublist _ _)
  · have hy' : y ∈ a.toList.drop p := List.mem_of_mem_take hy
    rcases List.mem_append.mp hx with hx | hx
    · have hx' : x ∈ a.toList.take p := by simpa using hx
      exact Nat.lt_trans (at1 x hx') (at2 y hy')
    · have hx' : x = j := by simpa using hx
      rw [hx']
      exact at2 y hy'
end Sl
namespace Sl
open PySem
/-- what the walk over a set asks of its table -/
def TI (L : Bool) (t : SetTable) : Prop := t.led = L ∧ (t.plain = true → Rise t.place)
theorem slot_free {t : SetTable} {j : Nat} (h : t.slot j = .empty ∨ t.slot j = .dummy) : t.place[SetTable.below t.place j]? ≠ some j := by
  intro e
  have q : t.slot j = .live (SetTable.below t.place j) := by
    unfold SetTable.slot
    simp [e]
  rcases h with h | h
  · rw [q] at h; cases h
  · rw [q] at h; cases h
theorem probe_free {t : SetTable} {f : Nat → Int} {h : Int} : ∀ (fuel : Nat) (p : SetTable.Probe) (j : Nat) (dm : Option Nat), (∀ d, p.dummy = some d → t.slot d = .dummy) → SetTable.probe.go t f h fuel p = some (.empty j dm) → t.slot j = .empty ∧ ∀ d, dm = some d → t.slot d = .dummy
  | 0, p, j, dm, hp, e => by
    unfold SetTable.probe.go at e
    cases e
  | fuel + 1, p, j, dm, hp, e => by
    unfold SetTable.probe.go at e
    have adv : ∀ p' : SetTable.Probe, (t.advance p').dummy = p'.dummy := fun p' => by
      unfold SetTable.advance
      split <;> rfl
    split at e
    · rename_i q
      have e' := Option.some.inj e
      injection e' with e1 e2
      subst e1 e2
      exact ⟨q, hp⟩
    · rename_i q
      refine probe_free fuel _ j dm (fun d hd => ?_) e
      rw [adv] at hd
      have e' : p.j = d := Option.some.inj hd
      rw [← e']
      exact q
    · rename_i i q
      split at e
      · cases e
      · exact probe_free fuel _ j dm (fun d hd => by rw [adv] at hd; exact hp d hd) e
theorem freeSlot_free {t : SetTable} {h : Int} {j : Nat} {wd : Bool} (e : t.freeSlot h = some (j, wd)) : t.place[SetTable.below t.place j]? ≠ some j := by
  unfold SetTable.freeSlot at e
  split at e
  · rename_i k dm q
    have e' := Option.some.inj e
    have ej : dm.getD k = j := congrArg Prod.fst e'
    unfold SetTable.probe at q
    obtain ⟨h1, h2⟩ := probe_free _ _ k dm (fun d hd => by cases hd) q
    cases dm with
    | none =>
      have e2 : k = j := ej
      subst e2
      exact slot_free (.inl h1)
    | some d =>
      have e2 : d = j := ej
      subst e2
      exact slot_free (.inr (h2 d rfl))
  · cases e
theorem ti_stand {L : Bool} {t : SetTable} (h : TI L t) (n : Nat) : TI L (t.standIn n) := ⟨h.1, fun z => by cases z⟩
theorem ti_or {L : Bool} {t : SetTable} (h : TI L t) (n : Nat) : TI L (t.orStandIn n) := by
  unfold SetTable.orStandIn
  split
  · exact h
  · exact ti_stand h n
theorem ti_new {L : Bool} {t : SetTable} (h : TI L t) (es : Array (Int × Value)) (k : Int) (x : Value) : TI L (layNew t es k x).2.1 := by
  unfold layNew
  split
  · rename_i j wd e
    exact ti_or (t := (t.put j).1) ⟨h.1, fun z => rise_insert (h.2 z) (freeSlot_free e)⟩ _
  · exact ti_stand h _
theorem range_rise (n : Nat) : (List.range n).Pairwise (· < ·) := List.pairwise_lt_range
theorem fst_sub {β : Type} (f : Nat → Option β) : ∀ l : List Nat, ((l.filterMap fun j => (f j).map (j, ·)).map Prod.fst).Sublist l
  | [] => List.Sublist.slnil
  | j :: r => by
    rw [List.filterMap_cons]
    cases f j with
    | none => exact (fst_sub f r).cons j
    | some y => exact (fst_sub f r).cons_cons j
theorem ti_relay {L : Bool} {t : SetTable} (h : TI L t) (es : Array (Int × Value)) (n : Nat) : TI L (relayAll t es n).2.1 := by
  unfold relayAll
  split
  · rename_i t' order e
    dsimp only
    split
    · unfold SetTable.relaid SetTable.laid at e
      cases q : SetTable.layClean (SetTable.sizeAbove n - 1) (es.map (·.1)) with
      | none => rw [q] at e; cases e
      | some owner =>
        rw [q] at e
        have e' := congrArg Prod.fst (Option.some.inj e)
        dsimp only at e'
        subst e'
        refine ⟨h.1, fun _ => ?_⟩
        exact List.Pairwise.sublist (fst_sub (fun j => owner.getD j none) _) (range_rise _)
    · exact ti_stand h _
  · exact ti_stand h _
end Sl
namespace Sl
open PySem PyProof.Rows
/-- a set of whole numbers at a, its elements by their values, its table in order -/
structure SetAt (h : Heap) (a : Addr) (L : Bool) (es : Array (Int × Value)) (ep : Nat) (t : SetTable) : Prop where
  at_ : h.get? a = some { cls := .type "set", dict := none, data := .set es ep t, slots := #[] }
  nums : ∀ e ∈ es.toList, ∃ (k : Int) (tk : Tok), e.2 = .int k tk ∧ e.1 = hashInt k
  fits : t.fits es.size = true
  ti : TI L t
def HasZ (es : Array (Int × Value)) (z : Int) : Prop := ∃ e ∈ es.toList, ∃ tk, e.2 = .int z tk
theorem is_int {z : Int} {v : Value} : Value.isInt z v = true ↔ ∃ tk, v = .int z tk := by
  constructor
  · intro h
    obtain ⟨t, e⟩ := Value.isInt_shape h
    exact ⟨t, e⟩
  · rintro ⟨tk, rfl⟩
    simp [Value.isInt]
theorem SetAt.elems {prog : Program} {w : World} {h : Heap} {a : Addr} {L : Bool} {es : Array (Int × Value)} {ep : Nat} {t : SetTable} (q : SetAt h a L es ep t) : ElemsOf (intKind prog w) es.toList := fun e he => by
  obtain ⟨k, tk, h1, h2⟩ := q.nums e he
  refine ⟨⟨k, is_int.mpr ⟨tk, h1⟩, h2⟩, ?_⟩
  rw [h1]
  rfl
theorem SetAt.keep {h h' : Heap} {a : Addr} {L : Bool} {es : Array (Int × Value)} {ep : Nat} {t : SetTable} (q : SetAt h a L es ep t) (k : ∀ o, h.get? a = some o → h'.get? a = some o) : SetAt h' a L es ep t := ⟨k _ q.at_, q.nums, q.fits, q.ti⟩
theorem SetAt.put {h : Heap} {a : Addr} {L : Bool} {es es' : Array (Int × Value)} {ep : Nat} {t t' : SetTable} (q : SetAt h a L es ep t) (hi : ∀ e ∈ es'.toList, ∃ (k : Int) (tk : Tok), e.2 = .int k tk ∧ e.1 = hashInt k) (hf : t'.fits es'.size = true) (ti : TI L t') :
    SetAt (h.update a (Obj.putSet es' t')) a L es' (ep + 1) t' := by
  refine ⟨?_, hi, hf, ti⟩
  exact Heap.get?_update_self (Obj.putSet es' t') q.at_ rfl
section
variable {prog : Program} {w : World} {A : Around} {E : Value → Shared → Prop} {s : Shared}
theorem set_add {a : Addr} {L : Bool} {es : Array (Int × Value)} {ep : Nat} {t : SetTable} {k : Int} {tk : Tok} {Q : Bool → Shared → Prop} (q : SetAt s.heap a L es ep t) (hb : es.size + 1 < scanBound)
    (h : ∀ (h' : Heap) (es' : Array (Int × Value)) (ep' : Nat) (t' : SetTable) (b : Bool), Heap.SameBut a s.heap h' → SetAt h' a L es' ep' t' → es'.size ≤ es.size + 1 → (∀ z, HasZ es' z ↔ HasZ es z ∨ z = k) → Q b { s with heap := h' }) :
    wpAny (model prog w) A (setAddHashed a (.int k tk) (hashInt k)) Q E s := by
  have key : (intKind prog w).is k (.int k tk) = true := is_int.mpr ⟨tk, rfl⟩
  unfold setAddHashed setAddHashedIn
  refine wpAny_holding (wpAny_bind (wpAny_setState_of q.at_ rfl q.fits ?_))
  dsimp only
  rw [byScan_of (knd := intKind prog w) (x := .int k tk) rfl (by omega) q.elems]
  simp only [↓reduceIte]
  unfold setAddByScan
  refine wpAny_bind (wpAny_bind (wpAny_rule (wpAny_bind (show wpAny (model prog w) A (setScan a (.int k tk) ((intKind prog w).hash k) true es) _ E s from wpAny_setScan_of key q.at_ rfl q.fits q.elems ?_))))
  cases hr : List.findIdx? (fun e => (intKind prog w).is k e.2) es.toList with
  | some j =>
    dsimp only
    obtain ⟨hj, hpj, _⟩ := List.findIdx?_eq_some_iff_getElem.mp hr
    have hk : HasZ es k := ⟨es.toList[j], List.getElem_mem hj, is_int.mp hpj⟩
    exact wpAny_pure (wpAny_pure (h s.heap es ep t false (Heap.SameBut.refl a s.heap) q (Nat.le_succ _) fun z => ⟨.inl, fun o => o.elim id fun e => e ▸ hk⟩))
  | none =>
    dsimp only
    have hp := layNew_perm t es (hashInt k) (.int k tk)
    have hf := layNew_fits t es (hashInt k) (.int k tk)
    have hti := ti_new q.ti es (hashInt k) (.int k tk)
    have hv : hashByValue 8 (.int k tk) = pure true := rfl
    generalize layNew t es (hashInt k) (.int k tk) = R at hp hf hti ⊢
    obtain ⟨es1, t1, wd, gv⟩ := R
    dsimp only at hp hf hti ⊢
    rw [Array.toList_push] at hp
    have i1 : ∀ e ∈ es1.toList, ∃ (k : Int) (tk : Tok), e.2 = .int k tk ∧ e.1 = hashInt k := fun e he => by
      rcases List.mem_append.mp (hp.mem_iff.mp he) with m | m
      · exact q.nums e m
      · rw [List.mem_singleton.mp m]
        exact ⟨k, tk, rfl, rfl⟩
    have z1 : es1.size = es.size + 1 := by
      have z := hp.length_eq
      rw [List.length_append, Array.length_toList, Array.length_toList] at z
      exact z
    have m1 : ∀ z, HasZ es1 z ↔ HasZ es z ∨ z = k := fun z => by
      constructor
      · rintro ⟨e, he, tk', e'⟩
        rcases List.mem_append.mp (hp.mem_iff.mp he) with m | m
        · exact .inl ⟨e, m, tk', e'⟩
        · rw [List.mem_singleton.mp m] at e'
          injection e' with e1
          exact .inr e1.symm
      · rintro (⟨e, he, tk', e'⟩ | rfl)
        · exact ⟨e, hp.mem_iff.mpr (List.mem_append_left _ he), tk', e'⟩
        · exact ⟨_, hp.mem_iff.mpr (List.mem_append_right _ (List.mem_singleton.mpr rfl)), tk, rfl⟩
    have hz1 : es1.size ≤ sizeLine := fits_of_scanBound (by omega)
    have q1 := q.put i1 hf hti
    have b1 := Heap.SameBut.update s.heap a (Obj.putSet es1 t1)
    have hp2 := relayAll_perm t1 es1 (SetTable.grown es1.size)
    have hf2 := relayAll_fits t1 es1 (SetTable.grown es1.size)
    have ht2 := ti_relay hti es1 (SetTable.grown es1.size)
    cases gv
    all_goals
      first
        | refine wpAny_bind (wpAny_pure ?_)
        | refine wpAny_bind (wpAny_rule ?_)
      split
      all_goals
        first
          | rw [hv]
          | skip
        refine wpAny_bind (wpAny_pure ?_)
        simp only [↓reduceIte]
        refine wpAny_bind (wpAny_storeSet_of q.at_ rfl ?_ hz1)
        split
        · generalize relayAll t1 es1 (SetTable.grown es1.size) = R2 at hp2 hf2 ht2 ⊢
          obtain ⟨es2, t2, gv2⟩ := R2
          dsimp only at hp2 hf2 ht2 ⊢
          have z2 : es2.size = es1.size := by
            have z := hp2.length_eq
            rwa [Array.length_toList, Array.length_toList] at z
          have q2 := q1.put (es' := es2) (t' := t2) (fun e he => i1 e (hp2.mem_iff.mp he)) hf2 ht2
          cases gv2
          all_goals
            first
              | refine wpAny_bind (wpAny_pure ?_)
              | refine wpAny_bind (wpAny_rule ?_)
            refine wpAny_bind (wpAny_storeSet_of q1.at_ rfl ?_ (by rw [z2]; exact hz1))
            refine wpAny_pure (wpAny_pure (h _ es2 _ t2 true (b1.trans (Heap.SameBut.update _ a _)) q2 (by omega) fun z => ?_))
            rw [← m1 z]
            exact ⟨fun ⟨e, he, x⟩ => ⟨e, hp2.mem_iff.mp he, x⟩, fun ⟨e, he, x⟩ => ⟨e, hp2.mem_iff.mpr he, x⟩⟩
        · exact wpAny_pure (wpAny_pure (h _ es1 _ t1 true b1 q1 (by omega) m1))
end
end Sl
namespace Sl
open PySem PyProof.Rows
section
variable {prog : Program} {w : World} {A : Around} {R : Result → Shared → Prop} {I : Addr} {fp wr : List Addr} {G : Array GenState → Array GenState → Prop} {n : Nat} {P : Nat → Value → Prop} {St : Nat → Shared → Prop}
theorem set_loop (W : WalksS prog w A.in1 I fp wr G n P St) {L : Bool} (S : Addr) (nS : S ∉ fp) (val : Nat → Int) (hval : ∀ i v, P i v → ∃ t, v = .int (val i) t) (hb : n + 1 < scanBound) :
    ∀ (k i : Nat) (s : Shared) (es : Array (Int × Value)) (ep : Nat) (t : SetTable), n - i = k → i ≤ n → St i s → SetAt s.heap S L es ep t → es.size ≤ i → (∀ z, HasZ es z ↔ ∃ j, j < i ∧ val j = z) →
      (∀ (s' : Shared) (es : Array (Int × Value)) (ep : Nat) (t : SetTable), Moved (S :: wr) G s s' → SetAt s'.heap S L es ep t → es.size ≤ n → (∀ z, HasZ es z ↔ ∃ j, j < n ∧ val j = z) → R (.ok (.ret .none)) s') →
      codeAny (model prog w) A (.builtin "set.update.loop" ⟨[.ref S, .ref I], []⟩) R s := by
  have nw : S ∉ wr := fun h => nS (W.sub _ h)
  have sub : ∀ b ∈ wr, b ∈ S :: wr := fun b h => List.mem_cons_of_mem _ h
  intro k
  induction k with
  | zero =>
    intro i s es ep t hk hi hst q hz hm hR
    have e : i = n := by omega
    subst e
    refine codeAny_builtin PyProof.Rows.F.entry_set_update_loop ?_
    rw [Around.under_plainId PyProof.Rows.F.plain_set_update_loop _]
    show wpAny _ _ (pyNext (.ref I) >>= _) _ _ s
    refine wpAny_bind (W.done s _ _ hst fun s' mv => wpAny_pure (hR s' es ep t (mv.mono sub) (q.keep fun o e => mv.heap S _ nw e) hz hm))
  | succ k ih =>
    intro i s es ep t hk hi hst q hz hm hR
    refine codeAny_builtin PyProof.Rows.F.entry_set_update_loop ?_
    rw [Around.under_plainId PyProof.Rows.F.plain_set_update_loop _]
    show wpAny _ _ (pyNext (.ref I) >>= _) _ _ s
    refine wpAny_bind (W.item i s _ _ (by omega) hst fun v s' hP st' mv => ?_)
    obtain ⟨tk, rfl⟩ := hval i v hP
    have q' := q.keep (h' := s'.heap) fun o e => mv.heap S _ nw e
    show wpAny _ _ (holding [Value.int (val i) tk] (setAdd S (.int (val i) tk)) >>= _) _ _ s'
    refine wpAny_bind (wpAny_holding ?_)
    unfold setAdd
    refine wpAny_holding (wpAny_bind (wpAny_pyHash_int ?_))
    refine set_add (s := { s' with toks := s'.toks + 1 }) q' (by omega) fun h' es' ep' t' b sb q2 z2 m2 => ?_
    refine wpAny_pure ⟨plainId_quiet PyProof.Rows.F.plain_set_update_loop _, ih (i + 1) _ es' ep' t' (by omega) (by omega) (W.frame _ s' _ _ st' (Nat.le_succ _) fun b hb o e => ?_) q2 (by omega) (fun z => ?_) fun s2 es2 ep2 t2 mv2 q3 z3 m3 => hR s2 es2 ep2 t2 ?_ q3 z3 m3⟩
    · rw [sb.2 b (fun h : b = S => nS (by rw [← h]; exact hb))]
      exact e
    · rw [m2 z, hm z]
      constructor
      · rintro (⟨j, hj, e⟩ | rfl)
        · exact ⟨j, by omega, e⟩
        · exact ⟨i, by omega, rfl⟩
      · rintro ⟨j, hj, e⟩
        by_cases c : j = i
        · subst c
          exact .inr e.symm
        · exact .inl ⟨j, by omega, e⟩
    · refine Moved.trans W.gtrans ((mv.mono sub).then_heap (Nat.le_succ _) fun b o hb e => ?_) mv2
      rw [sb.2 b (fun h : b = S => hb (by rw [h]; exact List.mem_cons_self))]
      exact e
end
section
variable {prog : Program} {w : World} {A : Around} {E : Value → Shared → Prop} {s : Shared}
/-- whether a new set's places are led by its table -/
def ledOf (w : World) : Bool := !(w.params.followText "set-order")
abbrev newO (w : World) : Obj := { cls := .type "set", dict := none, data := .set #[] 0 (.fresh 0 0 (ledOf w)), slots := #[] }
theorem new_set (a : Value) {Q : Value → Shared → Prop} (h : Q (.ref s.heap.objs.size) { s with heap := s.heap.push (newO w) }) :
    codeAny (model prog w) A (.call (.builtin "set.__new__") ⟨[.type "set", a], []⟩) (wants Q E) s := by
  refine codeAny_of_tree (show wpAny _ A.in1 (do checkBuiltinCall "set.__new__" ⟨[.type "set", a], []⟩; again (.builtin "set.__new__" ⟨[.type "set", a], []⟩)) _ _ s from wpAny_bind (wpAny_of_eq (PySem.F.newCall_set_1 a) (wpAny_pure ⟨plainId_quiet PySem.F.plain_set_new _, codeAny_builtin PySem.F.entry_set_new ?_⟩)))
  rw [Around.under_plainId PySem.F.plain_set_new _]
  have hs := sub_set_self
  unfold Builtin.«set.__new__» Builtin.Frozenset.newClass
  obtain ⟨hp, ge, dr, tk, os⟩ := s
  dsimp only
  wp_walk
  refine wpAny_askSetting (wpAny_pure ?_)
  dsimp only
  simp only [newObj]
  exact wpAny_bind (wpAny_alloc (wpAny_pure (wpAny_pure h)))
theorem setAt_new (h : Heap) (w : World) : SetAt (h.push (newO w)) h.objs.size (ledOf w) #[] 0 (.fresh 0 0 (ledOf w)) :=
  ⟨Heap.get?_push_size _ rfl, fun e he => by simp at he, rfl, rfl, fun _ => List.Pairwise.nil⟩
set_option maxRecDepth 100000 in
set_option maxHeartbeats 3200000 in
theorem set_of {l : Addr} {items : Array Value} {ns : List Int} {Q : Value → Shared → Prop} (hh : A.handled = none) (hl : s.heap.IsList l items) (hi : IntsAre items.toList ns) (hb : items.size + 1 < scanBound)
    (h : ∀ (h' : Heap) (tk : Nat) (es : Array (Int × Value)) (ep : Nat) (t : SetTable), SetAt h' s.heap.objs.size (ledOf w) es ep t → es.size ≤ items.size → (∀ z, HasZ es z ↔ ∃ j, j < items.size ∧ ns.getD j 0 = z) →
      (∀ b o, b < s.heap.objs.size → s.heap.get? b = some o → h'.get? b = some o) → Q (.ref s.heap.objs.size) { s with heap := h', toks := tk }) :
    wpAny (model prog w) A (call (.type "set") [.ref l]) Q E s := by
  obtain ⟨c, tl, m0⟩ := PySem.F.called_set.mro
  have m1 := PySem.F.called_set.made
  have m2 := PySem.F.called_set.sub
  have m3 := PySem.F.called_set.notType
  have m4 := PySem.F.called_set.canCreate
  have m5 := PySem.F.typeCall_set_1 (.ref l)
  refine wpAny_call (codeAny_of_tree (show wpAny _ _ (callAny (.type "set") _) _ _ _ from wpAny_pure ⟨Code.quiet_builtin _ (by decide +kernel), codeAny_builtin PySem.F.entry_type_call ?_⟩))
  rw [Around.under_plain (weight_type_call_type "set" [.ref l] []) rfl]
  repeat (any_goals (first | assumption | wp_step))
  refine codeAny_mono (new_set (.ref l) (E := E) (Q := fun obj s1 => obj = .ref s.heap.objs.size ∧ s1 = { s with heap := s.heap.push (newO w) }) ⟨rfl, rfl⟩) fun r s1 hr => ?_
  cases r with
  | error e => exact hr
  | ok fl =>
    cases fl with
    | ret obj =>
      obtain ⟨rfl, rfl⟩ := hr
      have q0 := setAt_new s.heap w
      have hT : Shared.TypeIs { s with heap := s.heap.push (newO w) } (.ref s.heap.objs.size) "set" := ⟨_, q0.at_, rfl⟩
      have m6 := PySem.F.called_set.init.lookup
      have m7 := PySem.F.called_set.init.bind (.ref s.heap.objs.size)
      repeat (any_goals (first | assumption | wp_step))
      refine codeAny_mono (codeAny_call_builtin (R := wants (fun r s2 => r = .none ∧ ∃ (h' : Heap) (tk : Nat) (es : Array (Int × Value)) (ep : Nat) (t : SetTable), s2 = { s with heap := h', toks := tk } ∧ SetAt h' s.heap.objs.size (ledOf w) es ep t ∧ es.size ≤ items.size ∧ (∀ z, HasZ es z ↔ ∃ j, j < items.size ∧ ns.getD j 0 = z) ∧
        ∀ b o, b < s.heap.objs.size → s.heap.get? b = some o → h'.get? b = some o) E) PySem.F.called_set.init.plain PySem.F.entry_set_init (check_set_init_1 hT ?_)) fun r2 s2 hr2 => ?_
      · obtain ⟨⟨oc, od, oda, osl⟩, ho, hc, nl, hd⟩ := hl
        simp only at hc hd
        subst hc hd
        have ho1 : (s.heap.push (newO w)).get? l = some { cls := .type "list", dict := od, data := .seq items nl, slots := osl } := Heap.get?_push_of_some _ ho
        have hl1 : (s.heap.push (newO w)).IsList l items := ⟨_, ho1, rfl, nl, rfl⟩
        have n1 := PySem.F.sub_list_set
        have n2 := PySem.F.sub_list_frozenset
        have n3 : (Value.type "list" == Value.type "dict") = false := by decide
        have hS := q0.at_
        unfold Builtin.«set.__init__» noKeywords Builtin.Frozenset.updateFrom
        generalize hPI : pyIter = PI
        wp_walk
        subst hPI
        refine wpAny_pyIter_list hl1 (wpAny_bind (wpAny_runValue ?_))
        have ll : l < s.heap.objs.size := Heap.lt_size ho
        have sz : (s.heap.push (newO w)).objs.size = s.heap.objs.size + 1 := Heap.size_push ..
        have h3 : A.in1.in1.in1.handled = none := hh
        have ne : l ≠ (s.heap.push (newO w)).objs.size := by rw [sz]; exact Nat.ne_of_lt (Nat.lt_succ_of_lt ll)
        have nf : s.heap.objs.size ∉ [(s.heap.push (newO w)).objs.size, l] := by
          rw [sz]
          simp only [List.mem_cons, List.not_mem_nil, or_false, not_or]
          exact ⟨Nat.ne_of_lt (Nat.lt_succ_self _), Nat.ne_of_gt ll⟩
        refine set_loop (L := ledOf w) ((Walks.list h3 _ l ne items).toS) s.heap.objs.size nf (fun i => ns.getD i 0) (fun i v hv => hi.int_at i v (by rw [Array.getElem?_toList]; exact hv)) hb (items.size - 0) 0 _ #[] 0 (.fresh 0 0 (ledOf w)) (by omega) (Nat.zero_le _) ⟨⟨_, Heap.get?_push_size _ rfl, rfl, rfl⟩, hl1.push _⟩
          (q0.keep fun o e => Heap.get?_push_of_some _ e) (Nat.le_refl _) (fun z => ⟨fun ⟨e, he, _⟩ => by simp at he, fun ⟨j, hj, _⟩ => absurd hj (Nat.not_lt_zero _)⟩) fun s' es ep t mv q2 z2 m2 => ?_
        obtain ⟨h', g', d', tk', os'⟩ := s'
        have eg : g' = s.gens := mv.gens
        have ed : d' = s.drawn := mv.drawn
        have eo : os' = s.os := mv.os
        subst eg ed eo
        refine wpAny_pure (wpAny_pure ⟨rfl, h', tk', es, ep, t, rfl, q2, z2, m2, fun b o hb e => ?_⟩)
        refine mv.heap b o ?_ (Heap.get?_push_of_some _ (Heap.get?_push_of_some _ e))
        rw [sz]
        simp only [List.mem_cons, List.not_mem_nil, or_false, not_or]
        exact ⟨Nat.ne_of_lt hb, Nat.ne_of_lt (Nat.lt_succ_of_lt hb)⟩
      · cases r2 with
        | error e => exact hr2
        | ok fl2 =>
          cases fl2 with
          | ret r =>
            obtain ⟨rfl, h', tk, es, ep, t, rfl, a1, a2, a3, a4⟩ := hr2
            repeat (any_goals (first | assumption | wp_step))
            exact h h' tk es ep t a1 a2 a3 a4
          | _ => exact hr2.elim
    | _ => exact hr.elim
end
end Sl
namespace Sl
open PySem PyProof.Rows
/-! ### the walk over a set -/
theorem slot_next : Slot "set_iterator" "__next__" "set_iterator.__next__" := .of (owner := "set_iterator") (n := "__next__") (by rw [typeLookup_type, builtinLookup_eq_fast]; kernel_rfl) (by decide +kernel) (by decide +kernel) (by decide +kernel) (by first | exact .inl (by decide +kernel) | exact .inr (by decide +kernel)) (by rw [isSubtype_type]; kernel_rfl)
theorem entry_next : entryFor table "set_iterator.__next__" = some Builtin.«set_iterator.__next__» := entryFor_of_fast (by kernel_rfl)
theorem args_next (a : Value) : argsOk "set_iterator.__next__" ⟨[a], []⟩ := by unfold argsOk; rw [signature?_of (id := "set_iterator.__next__") (n := "__next__".toList.reverse) (o := "set_iterator".toList.reverse) (rows := Manifest.sig_set_iterator) (by kernel_rfl) (by kernel_rfl)]; kernel_rfl
theorem entry_iter : entryFor table "set.__iter__" = some Builtin.«frozenset.__iter__» := entryFor_alias (id' := "frozenset.__iter__") (by kernel_rfl) rfl (by decide +kernel) (by kernel_rfl)
end Sl
namespace Sl
open PySem PyProof.Rows
/-- the walker over the set at S -/
abbrev itO (first : Value) (S : Addr) (i n ep : Nat) : Obj := { cls := .type "set_iterator", dict := none, data := .fields #[first, .int i 0, .ref S, .int n 0, .int ep 0], slots := #[] }
section
variable {prog : Program} {w : World} {A : Around} {E : Value → Shared → Prop} {s : Shared}
/-- the walker up to what it asks the set -/
theorem next_head {I S : Addr} {first : Value} {i ep : Nat} {L : Bool} {es : Array (Int × Value)} {t : SetTable} {R : Fin → Shared → Prop} {E' : Value → Shared → Prop} (hI : s.heap.get? I = some (itO first S i es.size ep)) (hS : SetAt s.heap S L es ep t)
    (h : wpAny (model prog w) A (match first with
      | .int slot _ => do
        match ← setNext S slot.toNat i ep with
        | some (x, next) =>
          setField (.ref I) 0 (rawInt next)
          setField (.ref I) 1 (rawInt ((i : Int) + 1))
          ret x
        | none => setField (.ref I) 2 .none; raiseNew (← newExc (.type "StopIteration") [])
      | _ => do
        let some places ← seqItems? first | unsupported "internal:set_iterator"
        match places[i]? with
        | some (.int place _) =>
          let x ← setNextDrawn S place.toNat ep
          setField (.ref I) 1 (rawInt ((i : Int) + 1))
          ret x
        | some _ => unsupported "internal:set_iterator"
        | none => setField (.ref I) 0 (rawInt 0); setField (.ref I) 2 .none; raiseNew (← newExc (.type "StopIteration") [])) R E' s) :
    wpAny (model prog w) A (Builtin.«set_iterator.__next__» ⟨[.ref I], []⟩) R E' s := by
  unfold Builtin.«set_iterator.__next__»
  refine wpAny_bind (m := slotArgs "__next__" 0 ⟨[.ref I], []⟩) (wpAny_pure ?_)
  refine wpAny_bind (wpAny_fieldsOf hI rfl ?_)
  dsimp only
  refine wpAny_bind (wpAny_setEntries_of hS.at_ rfl hS.fits ?_)
  rw [if_neg (by simp)]
  exact h
theorem next_item {I S : Addr} {slot i ep nxt : Nat} {L : Bool} {es : Array (Int × Value)} {t : SetTable} {x : Value} {Q : Option Value → Shared → Prop} (hI : s.heap.get? I = some (itO (.int slot 0) S i es.size ep)) (hS : SetAt s.heap S L es ep t)
    (hn : ∀ {R : Option (Value × Nat) → Shared → Prop} {E' : Value → Shared → Prop}, R (some (x, nxt)) s → wpAny (model prog w) A.in1 (setNext S slot i ep) R E' s) (hQ : ∀ h', h'.get? I = some (itO (.int nxt 0) S (i + 1) es.size ep) → Heap.SameBut I s.heap h' → Q (some x) { s with heap := h' }) :
    wpAny (model prog w) A (pyNext (.ref I)) Q E s := by
  unfold pyNext
  refine wpAny_bind (wpAny_attempt (wpAny_callSpecial?_slot (name := Str.ofString "__next__") ⟨_, hI, rfl⟩ slot_next (wpAny_call_entry slot_next ⟨_, hI, rfl⟩ entry_next (next_head hI hS ?_) (args_next _))))
  dsimp only
  refine wpAny_bind (hn ?_)
  dsimp only
  refine wpAny_bind (wpAny_setField_rec hI (by show 0 < 5; decide) fun h1 g1 b1 => wpAny_bind (wpAny_setField_rec (s := { s with heap := h1 }) g1 (by show 1 < 5; decide) fun h2 g2 b2 => wpAny_pure ⟨x, rfl, wpAny_pure (hQ h2 ?_ (b1.trans b2))⟩))
  rw [g2]
  rfl
theorem stop_raise {P : Fin → Shared → Prop} {Q : Option Value → Shared → Prop} (hh : A.handled = none) (h : ∀ h', (∀ b o, s.heap.get? b = some o → h'.get? b = some o) → Q none { s with heap := h' }) :
    wpAny (model prog w) A.in1 (newExc (.type "StopIteration") [] >>= fun e => raiseNew e) P (fun e s' => wpAny (model prog w) A (isInstance e (.type "StopIteration") >>= fun y => if y = true then pure none else throw e) Q E s') s := by
  refine wpAny_bind ?_
  simp only [newExc, newTuple]
  refine wpAny_bind (wpAny_newObj_type (wpAny_bind (m := firstArgMember _ _) (wpAny_of_eq (a := Value.none) (by first | rfl | (simp only [firstArgMember]; rfl)) (wpAny_newObj_type ?_ (by size_fits)))) (by size_fits))
  simp only [raiseNew]
  refine wpAny_bind (wpAny_handled ?_)
  rw [show A.in1.handled = none from hh]
  refine wpAny_bind (wpAny_pure (wpAny_throw ?_))
  refine wpAny_bind (wpAny_isInstance (T := "StopIteration") (b := true) ⟨_, Heap.get?_push_size _ rfl, rfl⟩ isSubtype_stop (wpAny_pure ?_))
  exact h _ fun b o e => Heap.get?_push_of_some _ (Heap.get?_push_of_some _ e)
theorem next_end {I S : Addr} {slot i ep : Nat} {L : Bool} {es : Array (Int × Value)} {t : SetTable} {Q : Option Value → Shared → Prop} (hh : A.handled = none) (hI : s.heap.get? I = some (itO (.int slot 0) S i es.size ep)) (hS : SetAt s.heap S L es ep t)
    (hn : ∀ {R : Option (Value × Nat) → Shared → Prop} {E' : Value → Shared → Prop}, R none s → wpAny (model prog w) A.in1 (setNext S slot i ep) R E' s) (hQ : ∀ h', Heap.ExtBut I s.heap h' → Q none { s with heap := h' }) :
    wpAny (model prog w) A (pyNext (.ref I)) Q E s := by
  unfold pyNext
  refine wpAny_bind (wpAny_attempt (wpAny_callSpecial?_slot (name := Str.ofString "__next__") ⟨_, hI, rfl⟩ slot_next (wpAny_call_entry slot_next ⟨_, hI, rfl⟩ entry_next (next_head hI hS ?_) (args_next _))))
  dsimp only
  refine wpAny_bind (hn ?_)
  dsimp only
  refine wpAny_bind (wpAny_setField_rec hI (by show 2 < 5; decide) fun h1 g1 b1 => ?_)
  exact stop_raise (s := { s with heap := h1 }) hh fun h' k => hQ h' fun b o hb e => k b o (b1.extBut b o hb e)
/-- by a drawn order -/
theorem drawn_item {I S T : Addr} {i ep pl : Nat} {tk : Tok} {L : Bool} {es : Array (Int × Value)} {t : SetTable} {ps : Array Value} {oT : Obj} {nT : Nat} {e : Int × Value} {Q : Option Value → Shared → Prop} (hI : s.heap.get? I = some (itO (.ref T) S i es.size ep)) (hS : SetAt s.heap S L es ep t)
    (hT : s.heap.get? T = some oT) (dT : oT.data = .seq ps nT) (hp : ps[i]? = some (.int pl tk)) (he : es[pl]? = some e) (hQ : ∀ h', h'.get? I = some (itO (.ref T) S (i + 1) es.size ep) → Heap.SameBut I s.heap h' → Q (some e.2) { s with heap := h' }) :
    wpAny (model prog w) A (pyNext (.ref I)) Q E s := by
  unfold pyNext
  refine wpAny_bind (wpAny_attempt (wpAny_callSpecial?_slot (name := Str.ofString "__next__") ⟨_, hI, rfl⟩ slot_next (wpAny_call_entry slot_next ⟨_, hI, rfl⟩ entry_next (next_head hI hS ?_) (args_next _))))
  dsimp only
  refine wpAny_bind (wpAny_seqItems hT dT ?_)
  dsimp only
  rw [hp]
  dsimp only
  unfold setNextDrawn
  refine wpAny_bind (wpAny_bind (wpAny_setState_of hS.at_ rfl hS.fits ?_))
  dsimp only
  rw [if_neg (by simp), show es[((pl : Int)).toNat]? = some e from he]
  refine wpAny_pure (wpAny_bind (wpAny_setField_rec hI (by show 1 < 5; decide) fun h1 g1 b1 => wpAny_pure ⟨e.2, rfl, wpAny_pure (hQ h1 ?_ b1)⟩))
  rw [g1]
  rfl
theorem drawn_end {I S T : Addr} {i ep : Nat} {L : Bool} {es : Array (Int × Value)} {t : SetTable} {ps : Array Value} {oT : Obj} {nT : Nat} {Q : Option Value → Shared → Prop} (hh : A.handled = none) (hI : s.heap.get? I = some (itO (.ref T) S i es.size ep)) (hS : SetAt s.heap S L es ep t)
    (hT : s.heap.get? T = some oT) (dT : oT.data = .seq ps nT) (hp : ps[i]? = none) (hQ : ∀ h', Heap.ExtBut I s.heap h' → Q none { s with heap := h' }) : wpAny (model prog w) A (pyNext (.ref I)) Q E s := by
  unfold pyNext
  refine wpAny_bind (wpAny_attempt (wpAny_callSpecial?_slot (name := Str.ofString "__next__") ⟨_, hI, rfl⟩ slot_next (wpAny_call_entry slot_next ⟨_, hI, rfl⟩ entry_next (next_head hI hS ?_) (args_next _))))
  dsimp only
  refine wpAny_bind (wpAny_seqItems hT dT ?_)
  dsimp only
  rw [hp]
  dsimp only
  refine wpAny_bind (wpAny_setField_rec hI (by show 0 < 5; decide) fun h1 g1 b1 => wpAny_bind (wpAny_setField_rec (s := { s with heap := h1 }) g1 (by show 2 < 5; decide) fun h2 g2 b2 => ?_))
  exact stop_raise (s := { s with heap := h2 }) hh fun h' k => hQ h' fun b o hb e => k b o ((b1.trans b2).extBut b o hb e)
end
end Sl
namespace Sl
open PySem PyProof.Rows
/-! ### orders -/
theorem erase_perm {α : Type} : ∀ {l : List α} {i : Nat} {x : α}, l[i]? = some x → (x :: l.eraseIdx i).Perm l
  | [], i, x, h => by simp at h
  | a :: r, 0, x, h => by
    have e : a = x := Option.some.inj h
    subst e
    exact .refl _
  | a :: r, i + 1, x, h => by
    have q := erase_perm (l := r) (i := i) h
    exact (List.Perm.swap a x _).trans (q.cons a)
theorem pick_go {α : Type} (f : Nat → Nat) : ∀ (n k : Nat) (left : List α) (out : Array α), left.length = n → (pickOrder.go f n k left out).toList.Perm (out.toList ++ left)
  | 0, k, left, out, h => by
    have e : left = [] := List.length_eq_zero_iff.mp h
    subst e
    unfold pickOrder.go
    rw [List.append_nil]
  | n + 1, k, left, out, h => by
    unfold pickOrder.go
    have hlt : f k % left.length < left.length := Nat.mod_lt _ (by omega)
    rw [List.getElem?_eq_getElem hlt]
    dsimp only
    have e : (left.eraseIdx (f k % left.length)).length = n := by rw [List.length_eraseIdx_of_lt hlt]; omega
    refine (pick_go f n (k + 1) _ _ e).trans ?_
    rw [Array.toList_push, List.append_assoc]
    exact List.Perm.append_left _ (erase_perm (List.getElem?_eq_getElem hlt))
theorem pick_perm {α : Type} (f : Nat → Nat) (xs : Array α) : (pickOrder f xs).toList.Perm xs.toList := by
  have q := pick_go f xs.size 0 xs.toList #[] (by simp)
  simpa [pickOrder] using q
section
variable {prog : Program} {w : World} {A : Around} {E : Value → Shared → Prop}
theorem choose_any {src : Source} {n : Nat} {s : Shared} {Q : Nat → Shared → Prop} (hn : n ≠ 0) (h : ∀ i, i < n → Q i { s with drawn := s.drawn.bump src }) : wpAny (model prog w) A (choose src n) Q E s := fun _ _ _ =>
  ⟨hn, h _ (Nat.mod_lt _ (Nat.pos_of_ne_zero hn))⟩
theorem draw_order {α : Type} : ∀ (n : Nat) (xs : List α) (s : Shared) {Q : List α → Shared → Prop}, xs.length = n → (∀ (ys : List α) (d : Drawn), ys.Perm xs → Q ys { s with drawn := d }) → wpAny (model prog w) A (drawOrder n xs) Q E s
  | 0, xs, s, Q, hn, h => by
    have e : xs = [] := List.length_eq_zero_iff.mp hn
    subst e
    unfold drawOrder
    exact wpAny_pure (h [] s.drawn (.refl _))
  | n + 1, [], s, Q, hn, h => by simp at hn
  | n + 1, x :: r, s, Q, hn, h => by
    unfold drawOrder
    refine wpAny_bind (choose_any (by simp) fun i hi => ?_)
    have ei : (x :: r)[i]? = some (x :: r)[i] := List.getElem?_eq_getElem hi
    rw [ei]
    dsimp only
    refine wpAny_bind (draw_order n _ _ (by rw [List.length_eraseIdx_of_lt hi]; simp at hn ⊢; omega) fun ys d hp => ?_)
    exact wpAny_pure (h _ d ((hp.cons _).trans (erase_perm ei)))
theorem by_text {s : Shared} {Q : Bool → Shared → Prop} (h : Q (w.params.followText "set-order") s) : wpAny (model prog w) A setsByText Q E s := by
  unfold setsByText
  exact wpAny_bind (wpAny_askSetting (wpAny_pure h))
variable {s : Shared}
/-- in the text's own order -/
theorem next_text {S : Addr} {slot i ep : Nat} {L : Bool} {es : Array (Int × Value)} {t : SetTable} {R : Option (Value × Nat) → Shared → Prop} (hb : w.params.followText "set-order" = true) (hS : SetAt s.heap S L es ep t) (h : R ((pickOrder (w.params.setOrder S ep) es)[i]?.map fun e => (e.2, slot)) s) :
    wpAny (model prog w) A (setNext S slot i ep) R E s := by
  unfold setNext
  refine wpAny_bind (wpAny_setState_of hS.at_ rfl hS.fits (wpAny_bind (by_text ?_)))
  rw [hb]
  simp only [↓reduceIte, bne_self_eq_false, Bool.false_eq_true]
  refine wpAny_bind ?_
  unfold setWalk
  refine wpAny_bind (wpAny_setState_of hS.at_ rfl hS.fits (wpAny_bind (by_text ?_)))
  rw [hb]
  simp only [↓reduceIte]
  exact wpAny_bind (wpAny_askSetting (wpAny_pure (wpAny_pure h)))
/-- by the table's places -/
theorem next_place {S : Addr} {slot i ep : Nat} {es : Array (Int × Value)} {t : SetTable} {R : Option (Value × Nat) → Shared → Prop} (hb : w.params.followText "set-order" = false) (hS : SetAt s.heap S true es ep t) (hd : (!t.plain && decide (es.size > 1)) = false)
    (h : R (match es[SetTable.below t.place slot]?, t.place[SetTable.below t.place slot]? with | some (_, x), some j => some (x, j + 1) | _, _ => none) s) : wpAny (model prog w) A (setNext S slot i ep) R E s := by
  unfold setNext
  refine wpAny_bind (wpAny_setState_of hS.at_ rfl hS.fits (wpAny_bind (by_text ?_)))
  rw [hb]
  simp only [Bool.false_eq_true, ↓reduceIte]
  split
  · rename_i z
    have z' : (!t.plain && decide (es.size > 1)) = true := z
    rw [hd] at z'
    cases z'
  · refine wpAny_bind (show wpAny (model prog w) A (if (!t.led && !es.isEmpty) = true then unsupported "set:maker-not-led" else pure ()) _ E s from ?_)
    rw [hS.ti.1, if_neg (by simp)]
    exact wpAny_pure (wpAny_pure h)
end
end Sl
namespace Sl
open PySem PyProof.Rows
/-- a walk that gives these values, one after another -/
structure Gives (prog : Program) (w : World) (A : Around) (I : Addr) (vals : List Value) (St : Nat → Heap → Prop) : Prop where
  item : ∀ (i : Nat) (v : Value) (s : Shared) (Q : Option Value → Shared → Prop) (E : Value → Shared → Prop), vals[i]? = some v → St i s.heap → (∀ h', St (i + 1) h' → Heap.SameBut I s.heap h' → Q (some v) { s with heap := h' }) → wpAny (model prog w) A (pyNext (.ref I)) Q E s
  done : ∀ (s : Shared) (Q : Option Value → Shared → Prop) (E : Value → Shared → Prop), St vals.length s.heap → (∀ h', Heap.ExtBut I s.heap h' → Q none { s with heap := h' }) → wpAny (model prog w) A (pyNext (.ref I)) Q E s
section
variable {prog : Program} {w : World} {A : Around} {R : Result → Shared → Prop}
theorem extend_loop {I D : Addr} {vals : List Value} {St : Nat → Heap → Prop} (W : Gives prog w A.in1 I vals St) (hz : vals.length ≤ sizeLine) (nI : D ≠ I) (fr : ∀ i h f, St i h → St i (h.update D f)) (res : Value) :
    ∀ (k i : Nat) (s : Shared) (c : Nat), vals.length - i = k → i ≤ vals.length → St i s.heap → s.heap.get? D = some { cls := .type "list", dict := none, data := .seq (vals.take i).toArray c, slots := #[] } →
    (∀ h' c', h'.get? D = some { cls := .type "list", dict := none, data := .seq vals.toArray c', slots := #[] } → (∀ b o, b ≠ D → b ≠ I → s.heap.get? b = some o → h'.get? b = some o) → R (.ok (.ret res)) { s with heap := h' }) →
    codeAny (model prog w) A (.builtin "list.extend.loop" ⟨[.ref D, .ref I, res], []⟩) R s := by
  intro k
  induction k with
  | zero =>
    intro i s c hk hi hst hD hR
    have e : i = vals.length := by omega
    subst e
    refine codeAny_builtin F.entry_extend_loop ?_
    rw [Around.under_plainId F.plain_extend_loop _]
    show wpAny _ _ (pyNext (.ref I) >>= _) _ _ s
    refine wpAny_bind (W.done s _ _ hst fun h' k' => wpAny_pure (hR h' c ?_ fun b o _ h2 e => k' b o h2 e))
    rw [List.take_length] at hD
    exact k' D _ nI hD
  | succ k ih =>
    intro i s c hk hi hst hD hR
    have hlt : i < vals.length := by omega
    have hv : vals[i]? = some vals[i] := List.getElem?_eq_getElem hlt
    refine codeAny_builtin F.entry_extend_loop ?_
    rw [Around.under_plainId F.plain_extend_loop _]
    show wpAny _ _ (pyNext (.ref I) >>= _) _ _ s
    refine wpAny_bind (W.item i _ s _ _ hv hst fun h1 st1 k1 => ?_)
    have hD1 := k1.extBut D _ nI hD
    have z : ((vals.take i).toArray.push vals[i]).size ≤ sizeLine + 1 := by rw [Array.size_push, List.size_toArray, List.length_take]; omega
    show wpAny _ _ (updateSeq D (·.push vals[i]) >>= _) _ _ _
    obtain ⟨c1, g1⟩ : ∃ c1, (h1.update D (Obj.mapSeq (·.push vals[i]))).get? D = some { cls := .type "list", dict := none, data := .seq (vals.take (i + 1)).toArray c1, slots := #[] } := by
      have e : (vals.take (i + 1)).toArray = (vals.take i).toArray.push vals[i] := by rw [List.take_add_one, hv]; simp
      rw [e]
      exact ⟨_, Heap.get?_update_self (Obj.mapSeq (·.push vals[i])) hD1 rfl⟩
    refine wpAny_bind (wpAny_updateSeq hD1 rfl (wpAny_pure ⟨plainId_quiet F.plain_extend_loop _, ih (i + 1) _ c1 (by omega) (by omega) (fr _ _ _ st1) g1 fun h' c' g k2 => ?_⟩) ?_ z)
    · refine hR h' c' g fun b o h1 h2 e => k2 b o h1 h2 ?_
      rw [Heap.get?_update_ne _ _ _ _ h1]
      exact k1.extBut b o h2 e
    · rw [List.size_toArray, List.length_take]
      omega
end
section
variable {prog : Program} {w : World} {A : Around} {I S : Addr} {L : Bool} {es : Array (Int × Value)} {ep : Nat} {t : SetTable}
theorem SetAt.but {h h' : Heap} (q : SetAt h S L es ep t) (ne : I ≠ S) (k : Heap.SameBut I h h') : SetAt h' S L es ep t := q.keep fun o e => k.extBut S o (Ne.symm ne) e
theorem get_map {l : List (Int × Value)} {i : Nat} {v : Value} (h : (l.map (·.2))[i]? = some v) : ∃ e, l[i]? = some e ∧ e.2 = v := by
  rw [List.getElem?_map] at h
  cases q : l[i]? with
  | none => rw [q] at h; cases h
  | some e => rw [q] at h; exact ⟨e, rfl, Option.some.inj h⟩
theorem gives_text (hb : w.params.followText "set-order" = true) (hh : A.handled = none) (ne : I ≠ S) :
    Gives prog w A I ((pickOrder (w.params.setOrder S ep) es).toList.map (·.2)) (fun i h => h.get? I = some (itO (.int ((0 : Nat) : Int) 0) S i es.size ep) ∧ SetAt h S L es ep t) where
  item := fun i v s Q E hv st hQ => by
    obtain ⟨e, he, rfl⟩ := get_map hv
    have he' : (pickOrder (w.params.setOrder S ep) es)[i]? = some e := by simpa using he
    exact next_item (nxt := 0) st.1 st.2 (fun {R E'} hr => next_text hb st.2 (by rw [he']; exact hr)) fun h' g k => hQ h' ⟨g, st.2.but ne k⟩ k
  done := fun s Q E st hQ => next_end hh st.1 st.2 (fun {R E'} hr => next_text hb st.2 (by
    have e : (pickOrder (w.params.setOrder S ep) es)[((pickOrder (w.params.setOrder S ep) es).toList.map (·.2)).length]? = none := by simp
    rw [e]
    exact hr)) hQ
/-- where the walker stands in the table -/
def slotOf (t : SetTable) : Nat → Nat
  | 0 => 0
  | i + 1 => t.place.getD i 0 + 1
theorem slot_at {t : SetTable} (h : Rise t.place) : ∀ {i : Nat}, i ≤ t.place.size → SetTable.below t.place (slotOf t i) = i
  | 0, _ => below_zero h
  | i + 1, hi => by
    have e : t.place[i]? = some t.place[i] := Array.getElem?_eq_getElem (by omega)
    have e2 : t.place.getD i 0 = t.place[i] := by rw [Array.getD_eq_getD_getElem?, e]; rfl
    show SetTable.below t.place (t.place.getD i 0 + 1) = i + 1
    rw [e2]
    exact below_next h e
theorem fits_size {t : SetTable} {n : Nat} (h : t.fits n = true) : t.place.size = n := by
  unfold SetTable.fits at h
  simp only [Bool.and_eq_true, beq_iff_eq] at h
  exact h.1
theorem rise_small {t : SetTable} {n : Nat} (ti : t.plain = true → Rise t.place) (hf : t.fits n = true) (hd : (!t.plain && decide (n > 1)) = false) : Rise t.place := by
  cases hp : t.plain with
  | true => exact ti hp
  | false =>
    rw [hp] at hd
    have hn : n ≤ 1 := by simpa using hd
    have z := fits_size hf
    have l : t.place.toList.length ≤ 1 := by rw [Array.length_toList]; omega
    show List.Pairwise _ t.place.toList
    match t.place.toList, l with
    | [], _ => exact .nil
    | [x], _ => exact List.pairwise_singleton _ _
    | _ :: _ :: _, l => exact absurd l (by simp)
theorem gives_place (hb : w.params.followText "set-order" = false) (hf : t.fits es.size = true) (ti : TI true t) (hd : (!t.plain && decide (es.size > 1)) = false) (hh : A.handled = none) (ne : I ≠ S) :
    Gives prog w A I (es.toList.map (·.2)) (fun i h => h.get? I = some (itO (.int ((slotOf t i : Nat) : Int) 0) S i es.size ep) ∧ SetAt h S true es ep t) := by
  have hr := rise_small ti.2 hf hd
  have hz := fits_size hf
  refine ⟨fun i v s Q E hv st hQ => ?_, fun s Q E st hQ => ?_⟩
  · obtain ⟨e, he, rfl⟩ := get_map hv
    have he' : es[i]? = some e := by simpa using he
    have hi : i < t.place.size := by
      have := (Array.getElem?_eq_some_iff.mp he').1
      omega
    have hp : t.place[i]? = some t.place[i] := Array.getElem?_eq_getElem hi
    refine next_item (nxt := slotOf t (i + 1)) st.1 st.2 (fun {R E'} hr' => next_place hb st.2 hd ?_) fun h' g k => hQ h' ⟨g, st.2.but ne k⟩ k
    rw [slot_at hr (by omega), he', hp]
    have e2 : slotOf t (i + 1) = t.place[i] + 1 := by
      show t.place.getD i 0 + 1 = _
      rw [Array.getD_eq_getD_getElem?, hp]
      rfl
    rw [e2] at hr'
    exact hr'
  · refine next_end hh st.1 st.2 (fun {R E'} hr' => next_place hb st.2 hd ?_) hQ
    have e : (es.toList.map (·.2)).length = es.size := by simp
    rw [e, slot_at hr (by omega)]
    have e2 : es[es.size]? = none := by simp
    rw [e2]
    exact hr'
theorem gives_drawn {T : Addr} {oT : Obj} {nT : Nat} {ys : List Nat} (hy : ys.Perm (List.range es.size)) (dT : oT.data = .seq (ys.map fun (i : Nat) => rawInt (i : Int)).toArray nT) (hh : A.handled = none) (ne : I ≠ S) (neT : I ≠ T) :
    Gives prog w A I (ys.map fun (j : Nat) => ((es[j]?).map (·.2)).getD .none) (fun i h => h.get? I = some (itO (.ref T) S i es.size ep) ∧ SetAt h S L es ep t ∧ h.get? T = some oT) := by
  refine ⟨fun i v s Q E hv st hQ => ?_, fun s Q E st hQ => ?_⟩
  · rw [List.getElem?_map] at hv
    cases q : ys[i]? with
    | none => rw [q] at hv; cases hv
    | some j =>
      rw [q] at hv
      have hj : j < es.size := List.mem_range.mp (hy.mem_iff.mp (List.mem_of_getElem? q))
      have hv' : ((es[j]?).map (·.2)).getD .none = v := Option.some.inj hv
      have ej : es[j]? = some es[j] := Array.getElem?_eq_getElem hj
      rw [ej] at hv'
      subst hv'
      exact drawn_item st.1 st.2.1 st.2.2 dT (pl := j) (tk := 0) (by simp [q, rawInt]) ej fun h' g k => hQ h' ⟨g, st.2.1.but ne k, k.extBut T _ (Ne.symm neT) st.2.2⟩ k
  · refine drawn_end hh st.1 st.2.1 st.2.2 dT (by simp) hQ
end
end Sl
namespace Sl
open PySem PyProof.Rows
section
variable {prog : Program} {w : World} {A : Around} {E : Value → Shared → Prop} {s : Shared} {S : Addr} {es : Array (Int × Value)} {ep : Nat} {t : SetTable}
theorem range_vals (es : Array (Int × Value)) : ((List.range es.size).map fun (j : Nat) => ((es[j]?).map (·.2)).getD .none) = es.toList.map (·.2) := by
  apply List.ext_getElem?
  intro i
  rw [List.getElem?_map, List.getElem?_map]
  by_cases h : i < es.size
  · rw [List.getElem?_range h]
    have e : es[i]? = some es[i] := Array.getElem?_eq_getElem h
    have e2 : es.toList[i]? = some es[i] := by rw [Array.getElem?_toList]; exact e
    simp [e, e2]
  · have e2 : es.toList[i]? = none := by simp; omega
    have e3 : (List.range es.size)[i]? = none := by simp; omega
    rw [e2, e3]
    rfl
theorem upd_at {h : Heap} {D b : Addr} {f : Obj → Obj} {o : Obj} (ne : D ≠ b) (e : h.get? b = some o) : (h.update D f).get? b = some o := by
  rw [Heap.get?_update_ne _ _ _ _ (Ne.symm ne)]
  exact e
theorem set_iter {Q : Value → Shared → Prop} (hS : SetAt s.heap S (ledOf w) es ep t) (hz : es.size ≤ sizeLine)
    (h : ∀ (I : Addr) (h' : Heap) (d : Drawn) (vals : List Value) (St : Nat → Heap → Prop), vals.Perm (es.toList.map (·.2)) → (∀ A' : Around, A'.handled = none → Gives prog w A' I vals St) → St 0 h' → (∀ b o, s.heap.get? b = some o → h'.get? b = some o) → s.heap.objs.size ≤ I →
      (∀ (D : Addr) (i : Nat) (h : Heap) (f : Obj → Obj), D ≠ S → D < s.heap.objs.size → St i h → St i (h.update D f)) → Q (.ref I) { s with heap := h', drawn := d }) : wpAny (model prog w) A (pyIter (.ref S)) Q E s := by
  have hT : s.TypeIs (.ref S) "set" := ⟨_, hS.at_, rfl⟩
  have lS : S < s.heap.objs.size := Heap.lt_size hS.at_
  refine wpAny_pyIter_slot hT PySem.F.slot_set_iter (wpAny_call_entry PySem.F.slot_set_iter hT entry_iter ?_ (PySem.F.args_set_iter_1 _))
  unfold Builtin.«frozenset.__iter__»
  refine wpAny_bind (m := Builtin.Frozenset.slot0 "__iter__" ⟨[.ref S], []⟩) (wpAny_pure ?_)
  unfold Builtin.Frozenset.sizeOf
  refine wpAny_bind (wpAny_bind (wpAny_setEntries_of hS.at_ rfl hS.fits (wpAny_pure ?_)))
  unfold setDrawn
  refine wpAny_bind (wpAny_bind (wpAny_setState_of hS.at_ rfl hS.fits (wpAny_bind (by_text (wpAny_pure ?_)))))
  dsimp only
  have fin : ∀ (first : Value) (h1 : Heap) (d : Drawn), SetAt h1 S (ledOf w) es ep t → (Q (.ref h1.objs.size) { s with heap := h1.push (itO first S 0 es.size ep), drawn := d }) →
      wpAny (model prog w) A.in1 (do ret (← newFields "set_iterator" [first, rawInt 0, .ref S, rawInt es.size, rawInt (← setEpoch S)])) (fun fin s' => ∃ v, fin = .done (.ret v) ∧ ∃ T' r, s'.TypeIs v T' ∧ typeLookup (.type T') "__next__" = pure (some r) ∧ Q v s') E { s with heap := h1, drawn := d } := by
    intro first h1 d hS1 hq
    refine wpAny_bind (wpAny_setEpoch_of hS1.at_ rfl hS1.fits ?_)
    exact wpAny_bind (wpAny_newObj_type (wpAny_pure ⟨_, rfl, "set_iterator", _, ⟨_, Heap.get?_push_size _ rfl, rfl⟩, slot_next.lookup, hq⟩))
  have neI : s.heap.objs.size ≠ S := Nat.ne_of_gt lS
  have old : ∀ (o : Obj) (b : Addr) (u : Obj), s.heap.get? b = some u → (s.heap.push o).get? b = some u := fun o b u e => Heap.get?_push_of_some _ e
  cases hb : w.params.followText "set-order" with
  | true =>
    rw [if_neg (by simp)]
    refine wpAny_bind (wpAny_pure (fin (rawInt 0) s.heap s.drawn hS (h _ _ s.drawn _ _ ?_ (fun A' hh => gives_text (S := S) (L := ledOf w) (es := es) (ep := ep) (t := t) hb hh neI) ⟨Heap.get?_push_size _ rfl, hS.keep fun o e => old _ _ _ e⟩ (fun b u e => old _ _ _ e) (Nat.le_refl _) fun D i h' f nD lD st => ⟨upd_at (Nat.ne_of_lt lD) st.1, st.2.keep fun o e => upd_at nD e⟩)))
    exact (pick_perm _ es).map _
  | false =>
    have hl : ledOf w = true := by unfold ledOf; rw [hb]; rfl
    rw [hl] at hS fin
    by_cases hd : (!t.plain && decide (es.size > 1)) = true
    · split
      · refine wpAny_bind (draw_order es.size (List.range es.size) s (by simp) fun ys d hp => ?_)
        refine wpAny_bind (wpAny_newTuple ?_ (hsz := by rw [List.length_map, hp.length_eq, List.length_range]; exact hz))
        have hS1 := hS.keep (h' := s.heap.push (seqObj "tuple" (ys.map fun (i : Nat) => rawInt (i : Int)).toArray 0)) fun o e => old _ _ _ e
        have sz : (s.heap.push (seqObj "tuple" (ys.map fun (i : Nat) => rawInt (i : Int)).toArray 0)).objs.size = s.heap.objs.size + 1 := size_push' ..
        refine fin (.ref s.heap.objs.size) _ d hS1 (h _ _ d _ _ ?_ (fun A' hh => gives_drawn (S := S) (T := s.heap.objs.size) (L := true) (es := es) (ep := ep) (t := t) hp rfl hh (by rw [sz]; exact Nat.ne_of_gt (Nat.lt_succ_of_lt lS)) (by rw [sz]; exact Nat.ne_of_gt (Nat.lt_succ_self _)))
          ⟨Heap.get?_push_size _ rfl, hS1.keep fun o e => Heap.get?_push_of_some _ e, Heap.get?_push_of_some _ (Heap.get?_push_size _ rfl)⟩ (fun b u e => Heap.get?_push_of_some _ (old _ _ _ e)) (by rw [sz]; exact Nat.le_succ _) fun D i h' f nD lD st => ⟨upd_at ?_ st.1, st.2.1.keep fun o e => upd_at nD e, upd_at (Nat.ne_of_lt lD) st.2.2⟩)
        · have q := hp.map fun (j : Nat) => ((es[j]?).map (·.2)).getD Value.none
          rw [range_vals] at q
          exact q
        · rw [sz]
          exact Nat.ne_of_lt (Nat.lt_succ_of_lt lD)
      · rename_i z
        exact absurd (show (!false && (!t.plain && decide (es.size > 1))) = true by rw [hd]; rfl) z
    · have hd' : (!t.plain && decide (es.size > 1)) = false := eq_false_of_ne_true hd
      split
      · rename_i z
        have z' : (!false && (!t.plain && decide (es.size > 1))) = true := z
        rw [hd'] at z'
        cases z'
      · refine wpAny_bind (wpAny_pure (fin (rawInt 0) s.heap s.drawn hS (h _ _ s.drawn _ _ (.refl _) (fun A' hh => gives_place (S := S) (es := es) (ep := ep) (t := t) hb hS.fits hS.ti hd' hh neI) ⟨Heap.get?_push_size _ rfl, hS.keep fun o e => old _ _ _ e⟩ (fun b u e => old _ _ _ e) (Nat.le_refl _) fun D i h' f nD lD st => ⟨upd_at (Nat.ne_of_lt lD) st.1, st.2.keep fun o e => upd_at nD e⟩)))
theorem hint_set {Q : Bool → Shared → Prop} (hS : SetAt s.heap S (ledOf w) es ep t) (h : Q false s) : wpAny (model prog w) A (Builtin.List.listLengthHint (.ref S)) Q E s := by
  have hT : s.TypeIs (.ref S) "set" := ⟨_, hS.at_, rfl⟩
  have sp : splitId "set.__len__" = some ("set", "__len__") := by kernel_rfl
  unfold Builtin.List.listLengthHint
  refine wpAny_bind (wpAny_specialOf hT PySem.F.slot_set_len.lookup ?_)
  extract_lets j1 j2 j3 j4
  have hj : wpAny (model prog w) A (j4 ()) Q E s := by
    show wpAny _ _ (ite _ _ _) _ _ _
    split
    · exact wpAny_bind (wpAny_typeOf hT (wpAny_pure h))
    · rename_i z
      exact (z (by kernel_rfl)).elim
  clear_value j4
  dsimp only
  rw [sp]
  dsimp only
  refine wpAny_bind (wpAny_isInstance hT sub_set_self ?_)
  rw [if_neg (by simp)]
  exact hj
theorem collect_set {Q : List Value → Shared → Prop} (hh : A.handled = none) (hS : SetAt s.heap S (ledOf w) es ep t) (hz : es.size ≤ sizeLine)
    (h : ∀ (h' : Heap) (d : Drawn) (vals : List Value), vals.Perm (es.toList.map (·.2)) → s.heap.objs.size ≤ h'.objs.size → (∀ b o, s.heap.get? b = some o → h'.get? b = some o) → Q vals { s with heap := h', drawn := d }) : wpAny (model prog w) A (collect (.ref S)) Q E s := by
  have lS : S < s.heap.objs.size := Heap.lt_size hS.at_
  unfold collect
  refine wpAny_bind (wpAny_runValue (codeAny_builtin PySem.F.entry_proto_collect ?_))
  rw [Around.under_plainId PySem.F.plain_proto_collect _]
  show wpAny _ A.in1 (newList [] >>= fun l => again (.builtin "list.__iadd__" ⟨[l, .ref S], []⟩)) _ _ s
  refine wpAny_bind (wpAny_newObj_type (wpAny_pure ⟨plainId_quiet PySem.F.plain_list_iadd _, codeAny_builtin PySem.F.entry_list_iadd ?_⟩))
  rw [Around.under_plainId PySem.F.plain_list_iadd _]
  show wpAny _ A.in1 (Builtin.List.listExtendWith (.ref s.heap.objs.size) (.ref S) (.ref s.heap.objs.size)) _ _ { s with heap := s.heap.push (seqObj "list" #[] 0) }
  have hS1 := hS.keep (h' := s.heap.push (seqObj "list" #[] 0)) fun o e => Heap.get?_push_of_some _ e
  have hT1 : Shared.TypeIs { s with heap := s.heap.push (seqObj "list" #[] 0) } (.ref S) "set" := ⟨_, hS1.at_, rfl⟩
  have sz : (s.heap.push (seqObj "list" #[] 0)).objs.size = s.heap.objs.size + 1 := size_push' ..
  unfold Builtin.List.listExtendWith
  refine wpAny_bind (wpAny_typeOf hT1 ?_)
  have c1 : Builtin.List.listSameRef (.ref s.heap.objs.size) (.ref S) = false := by
    have e : s.heap.objs.size ≠ S := Nat.ne_of_gt lS
    simp [Builtin.List.listSameRef, e]
  have c2 : (Value.type "set" == Value.type "list") = false := by decide
  have c3 : (Value.type "set" == Value.type "tuple") = false := by decide
  simp only [c1, c2, c3, Bool.or_false, Bool.false_eq_true, if_false]
  refine wpAny_bind (set_iter (s := { s with heap := s.heap.push (seqObj "list" #[] 0) }) hS1 hz fun I h1 d vals St hp W st kp lI fr => ?_)
  have g1 : h1.get? s.heap.objs.size = some (seqObj "list" #[] 0) := kp _ _ (Heap.get?_push_size _ rfl)
  have hS2 := hS1.keep (h' := h1) fun o e => kp _ _ e
  refine wpAny_bind (wpAny_holding (hint_set (s := { s with heap := h1, drawn := d }) hS2 ?_))
  split
  · refine wpAny_bind (wpAny_rule (wpAny_bind ?_))
    show wpAny _ A.in1 (updateSeq s.heap.objs.size (·.push .none) >>= fun _ => updateSeq s.heap.objs.size (·.pop)) _ _ { s with heap := h1, drawn := d }
    refine wpAny_bind (wpAny_updateSeq g1 rfl ?_)
    have g2 := Heap.get?_update_self (Obj.mapSeq (·.push Value.none)) g1 rfl
    refine wpAny_updateSeq g2 rfl ?_
    have g3 := Heap.get?_update_self (Obj.mapSeq (·.pop)) g2 rfl
    have nDS : s.heap.objs.size ≠ S := Nat.ne_of_gt lS
    have lD : s.heap.objs.size < (s.heap.push (seqObj "list" #[] 0)).objs.size := by rw [sz]; exact Nat.lt_succ_self _
    have nDI : s.heap.objs.size ≠ I := Nat.ne_of_lt (Nat.lt_of_lt_of_le lD lI)
    have vz : vals.length ≤ sizeLine := by rw [hp.length_eq, List.length_map, Array.length_toList]; exact hz
    refine wpAny_pure ⟨plainId_quiet PySem.F.plain_extend_loop _, extend_loop (W A.in1 hh) vz nDI (fun i h' f q => fr _ i h' f nDS lD q) _ vals.length 0 _ _ (by omega) (Nat.zero_le _) (fr _ 0 _ _ nDS lD (fr _ 0 _ _ nDS lD st)) g3 fun h' c' g k2 => ?_⟩
    show wpAny _ A (load s.heap.objs.size >>= _) _ _ _
    refine wpAny_bind (wpAny_load g (wpAny_pure (h h' d vals hp (Nat.le_of_lt (Heap.lt_size g)) fun b o e => k2 b o ?_ ?_ ?_)))
    · exact Nat.ne_of_lt (Heap.lt_size e)
    · exact Nat.ne_of_lt (Nat.lt_of_lt_of_le (Nat.lt_trans (Heap.lt_size e) lD) lI)
    · have ne : s.heap.objs.size ≠ b := Nat.ne_of_gt (Heap.lt_size e)
      exact upd_at ne (upd_at ne (kp _ _ (Heap.get?_push_of_some _ e)))
  · rename_i z
    exact (z (by kernel_rfl)).elim
end
end Sl
namespace Sl
open PySem PyProof.Rows
theorem ints_of : ∀ (vs : List Value), (∀ v ∈ vs, ∃ k tk, v = Value.int k tk) → ∃ zs, IntsAre vs zs
  | [], _ => ⟨[], .nil⟩
  | v :: r, h => by
    obtain ⟨k, tk, rfl⟩ := h v (List.mem_cons_self ..)
    obtain ⟨zs, q⟩ := ints_of r fun u hu => h u (List.mem_cons_of_mem _ hu)
    exact ⟨k :: zs, .cons k tk q⟩
theorem ints_mem {z : Int} : ∀ {vs : List Value} {zs : List Int}, IntsAre vs zs → (z ∈ zs ↔ ∃ tk, Value.int z tk ∈ vs)
  | _, _, .nil => by simp
  | _, _, .cons k tk q => by
    rw [List.mem_cons, ints_mem q]
    constructor
    · rintro (rfl | ⟨t, h⟩)
      · exact ⟨tk, List.mem_cons_self ..⟩
      · exact ⟨t, List.mem_cons_of_mem _ h⟩
    · rintro ⟨t, h⟩
      rcases List.mem_cons.mp h with e | h
      · injection e with e1
        exact .inl e1
      · exact .inr ⟨t, h⟩
section
variable {prog : Program} {w : World} {A : Around} {E : Value → Shared → Prop} {s : Shared} {S : Addr} {es : Array (Int × Value)} {ep : Nat} {t : SetTable}
theorem sorted_set {Q : Value → Shared → Prop} (hh : A.handled = none) (hS : SetAt s.heap S (ledOf w) es ep t) (hz : es.size ≤ sizeLine)
    (h : ∀ (a : Addr) (h' : Heap) (d : Drawn) (out : Array Value) (zs : List Int) (e : Nat), s.heap.objs.size ≤ a → h'.get? a = some (seqObj "list" out e) → IntsAre out.toList zs → zs.Pairwise (· ≤ ·) → zs.length = es.size → (∀ z, z ∈ zs ↔ HasZ es z) →
      (∀ b o, s.heap.get? b = some o → h'.get? b = some o) → Q (.ref a) { s with heap := h', drawn := d }) : wpAny (model prog w) A (call (.builtin "sorted") [.ref S]) Q E s := by
  refine Calls.call_function_entry kind_sorted plain_sorted entry_sorted (args_sorted1 _) ?_
  unfold Builtin.«sorted»
  refine wpAny_bind (m := checkCount "sorted" 1 1 _) (wpAny_pure (wpAny_bind (collect_set (A := A.in1) hh hS hz fun h1 d vals hp lz kp => ?_)))
  obtain ⟨zs, hI⟩ := ints_of vals fun v hv => by
    obtain ⟨e, he, rfl⟩ := List.mem_map.mp (hp.mem_iff.mp hv)
    obtain ⟨k, tk, q, _⟩ := hS.nums e he
    exact ⟨k, tk, q⟩
  have hl : vals.length = es.size := by rw [hp.length_eq, List.length_map, Array.length_toList]
  have hm : ∀ z, z ∈ zs ↔ HasZ es z := fun z => by
    rw [ints_mem hI]
    constructor
    · rintro ⟨tk, m⟩
      obtain ⟨e, he, q⟩ := List.mem_map.mp (hp.mem_iff.mp m)
      exact ⟨e, he, tk, q⟩
    · rintro ⟨e, he, tk, q⟩
      exact ⟨tk, hp.mem_iff.mpr (List.mem_map.mpr ⟨e, he, q⟩)⟩
  refine wpAny_bind (wpAny_newList ?_ (hsz := by rw [hl]; exact hz))
  have ho : (h1.push (seqObj "list" vals.toArray 0)).get? h1.objs.size = some (seqObj "list" vals.toArray 0) := Heap.get?_push_size _ rfl
  refine wpAny_bind (wpAny_holding (wpAny_call_entry (s := { s with heap := h1.push (seqObj "list" vals.toArray 0), drawn := d }) slot_list_sort ⟨_, ho, rfl⟩ entry_list_sort (list_sort_treeAny (s := { s with heap := h1.push (seqObj "list" vals.toArray 0), drawn := d }) ho hI (by rw [hl]; exact hz) fun out zs' i1 i2 i3 => ⟨_, rfl, wpAny_pure ⟨_, rfl, ?_⟩⟩) (args_list_sort _)))
  obtain ⟨e, ge⟩ := sortedHeap_at (vs := vals) (out := out) ho
  refine h h1.objs.size _ d out zs' e lz ge i1 i3 ?_ (fun z => ?_) fun b o g => ?_
  · rw [i2.length_eq, ← hI.length, hl]
  · rw [i2.mem_iff, hm]
  · have l1 : b < h1.objs.size := Heap.lt_size (kp b o g)
    rw [sortedHeap_old (Nat.ne_of_lt l1) (by rw [size_push']; exact Nat.lt_succ_of_lt l1)]
    exact Heap.get?_push_of_some _ (kp b o g)
end
end Sl
namespace Sl
open PySem L2 Ew
/-! ### 1. The text by places -/
def top (i : Nat) : Stmt := PySem.Challenge.pw_envelopewords_s04_chain.main.body.getD i (.Pass ⟨0, 0, 0, 0⟩)
abbrev sWord : Stmt := top 10
abbrev sLet : Stmt := top 11
abbrev sSlips : Stmt := top 12
abbrev sRow : Stmt := top 13
abbrev vi (l : List Int) : List V := l.map V.int
theorem small_of {n : Nat} (h : n ≤ 100000) : n ≤ sizeLine := Nat.le_trans h (by decide)
theorem smaller_of {n : Nat} (h : n ≤ 100000) : n < sizeLine := Nat.lt_of_le_of_lt h (by decide)
theorem int_at {ns : List Int} {i : Nat} {y : V} (h : (vi ns)[i]? = some y) : ∃ z, ns[i]? = some z ∧ y = .int z := by
  rw [List.getElem?_map] at h
  cases e : ns[i]? with
  | none => rw [e] at h; cases h
  | some z => rw [e] at h; exact ⟨z, rfl, (Option.some.inj h).symm⟩
theorem wz_at {l : Po.Bytes} {i : Nat} {y : V} (h : (vi (wz l))[i]? = some y) : ∃ b : UInt8, l[i]? = some b ∧ y = .int (b.toNat : Int) := by
  obtain ⟨z, e, rfl⟩ := int_at h
  unfold wz at e
  rw [List.getElem?_map] at e
  cases q : l[i]? with
  | none => rw [q] at e; cases e
  | some b => rw [q] at e; exact ⟨b, rfl, by rw [← Option.some.inj e]⟩
theorem vi_at {ns : List Int} {i : Nat} {z : Int} (h : ns[i]? = some z) : (vi ns)[i]? = some (.int z) := by
  rw [List.getElem?_map, h]
  rfl
/-- what the walk asks of the text as the top has made it -/
structure TxS (mg : Str → Option Value) : Prop where
  len : mg "len" = none
  all : mg "all" = none
  min : mg "min" = none
  list : mg "list" = none
  range : mg "range" = none
  enum : mg "enumerate" = none
  g1 : GI mg "MOST_LETTERS" 32
  g2 : GI mg "NO_WORD" (-1)
  g3 : GI mg "FIRST_DIGIT" 48
  g4 : GI mg "LAST_DIGIT" 57
  g5 : GI mg "FIRST_SMALL" 97
  g6 : GI mg "LAST_SMALL" 122
/-! ### 2. The promises -/
def spLet : Sp := fun vs H Q _ => ∃ z : Int, vs = [.int z] ∧ Q (.bl (letterZ z)) H
def spWord (K : PySem.W.Frag) : Sp := fun vs H Q _ => ∃ (a : Addr) (ns : List Int), vs = [.ref a] ∧ SqL K H a (vi ns) ∧ ns.length ≤ 1000 ∧ ∀ H' : Hp, Same H H' → Q (.bl (wordZ ns)) H'
/-- the dict of each letter's last row -/
def Lasts (kvs : List (Key × V)) (a : Po.Word) (i : Nat) : Prop := kvs.length ≤ i ∧ ∀ y : UInt8, valV kvs (Sum.inl (y.toNat : Int)) = if lastTo y a i = 0 then none else some (.int (lastTo y a i : Int))
def spRow (K : PySem.W.Frag) : Sp := fun vs H Q _ => ∃ (a b : Po.Word) (i : Nat) (x : UInt8) (pb pr pd : Addr) (rs : List Addr) (kvs : List (Key × V)), vs = [.int (x.toNat : Int), .ref pb, .ref pr, .ref pd] ∧ a[i]? = some x ∧ SqL K H pb (vi (wz b)) ∧ b.length ≤ 1000 ∧
  H pr = some (.lst (rs.map V.ref)) ∧ rs.length = i + 1 ∧ (∀ (j : Nat) (p : Addr), rs[j]? = some p → H p = some (.lst (vi (rowZ a b j)))) ∧ H pd = some (.dK kvs) ∧ Lasts kvs a i ∧
  ∀ (p : Addr) (H' : Hp), Same H H' → H p = none → H' p = some (.lst (vi (rowZ a b (i + 1)))) → Q (.ref p) H'
def spSlips (K : PySem.W.Frag) : Sp := fun vs H Q _ => ∃ (a b : Po.Word) (pa pb : Addr), vs = [.ref pa, .ref pb] ∧ SqL K H pa (vi (wz a)) ∧ SqL K H pb (vi (wz b)) ∧ a.length ≤ 1000 ∧ b.length ≤ 1000 ∧
  ∀ H' : Hp, Same H H' → Q (.int (Po.apartOf a b : Int)) H'
section
variable {P : Program} {w : World} {K : PySem.W.Frag} {mg : Str → Option Value} {base : Heap}
theorem scL : FnScope ["byte"] ["byte"] (defScope sLet) := ⟨rfl, rfl, rfl, by decide +kernel, rfl, by decide +kernel, by decide +kernel⟩
theorem ok_let {f : Addr} {fd : FuncData} (F : Fun K "is_letter" "is_letter" sLet f fd) (T : TxS mg) : FnOk P w K mg base CX0 1 f fd ["byte"] spLet := by
  refine F.ok scL (fun vs H Q E h => ?_) (fun cdv A outer s H vs Q E hr h => ?_)
  · obtain ⟨z, rfl, _⟩ := h
    rfl
  · obtain ⟨z, rfl, q⟩ := h
    refine ⟨_, pss_one (ps_ret (pe_or (pe_chain op_le op_le (pe_gi T.g3) (pv 0) (pe_gi T.g4)) (pe_one (pe_chain op_le op_le (pe_gi T.g5) (pv 0) (pe_gi T.g6))))), ?_⟩
    refine Ev.chain (g := fun i j => decide (i ≤ j)) (g' := fun i j => decide (i ≤ j)) ev_c (ev_v rfl) ev_c _ ⟨_, rfl, ite2 (fun h1 => ?_) fun h1 => ?_⟩
    · have e : letterZ z = true := by unfold letterZ; rw [h1]; rfl
      rw [e] at q
      exact q
    · refine Ev.chain (g := fun i j => decide (i ≤ j)) (g' := fun i j => decide (i ≤ j)) ev_c (ev_v rfl) ev_c _ ?_
      have e : letterZ z = (decide ((97 : Int) ≤ z) && decide (z ≤ 122)) := by unfold letterZ; rw [eq_false_of_ne_true h1, Bool.false_or]
      rw [e] at q
      exact q
theorem scW : FnScope ["given", "byte"] ["given"] (defScope sWord) := ⟨rfl, rfl, rfl, by decide +kernel, rfl, by decide +kernel, by decide +kernel⟩
theorem ok_word {f : Addr} {fd : FuncData} (F : Fun K "is_word" "is_word" sWord f fd) (T : TxS mg) (DL : Def P w K mg base "is_letter" 1 ["byte"] spLet) : FnOk P w K mg base CX0 2 f fd ["given"] (spWord K) := by
  refine F.ok scW (fun vs H Q E h => ?_) (fun cdv A outer s H vs Q E hr h => ?_)
  · obtain ⟨a, ns, rfl, _⟩ := h
    rfl
  · obtain ⟨a, ns, rfl, hS, hn, k⟩ := h
    have hr1 : Room 1 _ := hr.mono (by decide)
    refine ⟨_, pss_one (ps_ret (pe_and (pe_cmpR op_le (pe_callB call_len_seq rfl T.len PySem.boot_len (pa_cons (pv 0) pa_nil)) (pe_gi T.g1) (nomark _))
      (pe_one (pe_callB (cr_all rfl) rfl T.all PyProof.Rows.boot_all (pa_cons (pe_lc (own := [("byte", 1)]) (te := tCall spLet [] E0 (tCons (tVar 1) tNil)) rfl scW.nd (pi_list (pv 0)) (blkOk_by (by show blkC ["given", "byte"] (defScope sWord) _ [("byte", 1)] = true; decide +kernel)) (fun _ _ _ _ _ => pg_name (i := 1) scW.nd rfl (Or.inl rfl)) (fun _ _ _ _ _ => pts_nil)
        (fun _ _ _ _ _ => DL.call hr1 (pa_cons (pv 1) pa_nil))) pa_nil))))), ?_⟩
    refine ⟨_, rfl, a, _, rfl, .inl hS, _, _, rfl, rfl, _, rfl, ite2 (fun h1 => ?_) fun h1 => ?_⟩
    · have h1' := of_decide_eq_true h1
      rw [List.length_map] at h1'
      refine ⟨_, rfl, a, rfl, ⟨_, hS⟩, fun D hD => lc_list (K := K) (a := a) (xs := vi ns) (fun j Hj => Same H Hj ∧ Hj D = some (.lst ((ns.take j).map fun z => V.bl (letterZ z)))) ⟨Same.put hD, by rw [upd_same]; rfl⟩ (fun j Hj _ q => q.1.seq hS) ?_ ?_⟩
      · rintro j y Hj hj ⟨sj, hDj⟩
        obtain ⟨z, hz, rfl⟩ := int_at hj
        refine ⟨rfl, yes_of ?_⟩
        refine ⟨_, rfl, z, rfl, _, hDj, ?_, sj.new hD, ?_⟩
        · rw [List.length_map, List.length_take]
          exact smaller_of (by omega)
        · rw [upd_same, List.take_add_one, hz, List.map_append]
          rfl
      · rintro Hj ⟨sj, hDj⟩
        rw [List.length_map, List.take_length] at hDj
        have hDj' : Hj D = some (.lst ((ns.map letterZ).map V.bl)) := by rw [hDj, List.map_map]; rfl
        refine ⟨D, ns.map letterZ, rfl, SqL.of hDj', ?_⟩
        have e : wordZ ns = (ns.map letterZ).all id := by
          unfold wordZ
          rw [decide_eq_true (show ns.length ≤ 32 by omega), Bool.true_and, List.all_map]
          rfl
        have z := k Hj sj
        rw [e] at z
        exact z
    · have h1' : ¬ ns.length ≤ 32 := fun e => h1 (decide_eq_true (by rw [List.length_map]; omega))
      have e : wordZ ns = false := by unfold wordZ; rw [decide_eq_false h1']; rfl
      have z := k H (Same.refl H)
      rw [e] at z
      exact z
end
end Sl
namespace Sl
open PySem L2 Ew
section
variable {P : Program} {w : World} {K : PySem.W.Frag} {mg : Str → Option Value} {base : Heap}
theorem at_cast {xs : List V} {j : Nat} {i : Int} {v : V} (e : i = (j : Int)) (h : xs[j]? = some v) : atI xs i = some v := by
  subst e
  exact atI_nat h
theorem row_at {a b : Po.Word} {i j : Nat} (h : j ≤ b.length) : (vi (rowZ a b i))[j]? = some (.int (dist a b i j : Int)) := vi_at (rowZ_at h)
theorem part_at {a b : Po.Word} {i j m : Nat} (h : j ≤ b.length) (hm : j < m) : (vi ((rowZ a b i).take m))[j]? = some (.int (dist a b i j : Int)) := vi_at (by rw [List.getElem?_take_of_lt hm]; exact rowZ_at h)
theorem ref_last {rs : List Addr} {i : Nat} (h : rs.length = i + 1) : ∃ p, rs[i]? = some p ∧ atI (rs.map V.ref) (-1) = some (.ref p) := by
  have hne : rs ≠ [] := by rintro rfl; simp at h
  obtain ⟨l, p, rfl⟩ : ∃ l p, rs = l ++ [p] := ⟨rs.dropLast, rs.getLast hne, (List.dropLast_concat_getLast hne).symm⟩
  have hl : l.length = i := by simpa using h
  refine ⟨p, by rw [← hl]; simp, ?_⟩
  rw [List.map_append]
  exact atI_last _ _
theorem ref_get {rs : List Addr} {j : Nat} {p : Addr} (h : rs[j]? = some p) : (rs.map V.ref)[j]? = some (.ref p) := by
  rw [List.getElem?_map, h]
  rfl
theorem byte_eq (x y : UInt8) : decide ((x.toNat : Int) = (y.toNat : Int)) = decide (x = y) := by
  apply decide_eq_decide.mpr
  constructor
  · intro h
    exact UInt8.toNat_inj.mp (by omega)
  · rintro rfl
    rfl
theorem scR : FnScope ["letter", "b", "rows", "last_rows", "above", "row", "last_place", "before", "other", "least", "last_row", "between"] ["letter", "b", "rows", "last_rows"] (defScope sRow) := ⟨rfl, rfl, rfl, by decide +kernel, rfl, by decide +kernel, by decide +kernel⟩
set_option maxHeartbeats 4000000 in
theorem ok_row {f : Addr} {fd : FuncData} (F : Fun K "row_of" "row_of" sRow f fd) (T : TxS mg) : FnOk P w K mg base CX0 1 f fd ["letter", "b", "rows", "last_rows"] (spRow K) := by
  refine F.ok scR (fun vs H Q E h => ?_) (fun cdv A outer s H vs Q E hr h => ?_)
  · obtain ⟨a, b, i, x, pb, pr, pd, rs, kvs, rfl, _⟩ := h
    rfl
  · obtain ⟨a, b, i, x, pb, pr, pd, rs, kvs, rfl, hx, hb, hbl, hpr, hrl, hrs, hpd, hL, k⟩ := h
    have hu := hu_of hr
    refine ⟨_, pss_cons (ps_set (i := 4) scR.nd rfl (Or.inl rfl) (pe_ix ix_list (pv 2) (pe_un un_neg pe_int) (fun _ _ => rfl)))
      (pss_cons (ps_set (i := 5) scR.nd rfl (Or.inl rfl) (pe_lst (pa_cons (pe_callB call_len_seq rfl T.len PySem.boot_len (pa_cons (pv 2) pa_nil)) pa_nil)))
      (pss_cons (ps_set (i := 6) scR.nd rfl (Or.inl rfl) pe_int)
      (pss_cons (ps_for PassesOwn.never rfl (pi_enum rfl T.enum (pa_cons (pv 1) pa_nil)) (pg_tup rfl (pgs_cons (pg_name (i := 7) scR.nd rfl (Or.inl rfl)) (pgs_cons (pg_name (i := 8) scR.nd rfl (Or.inl rfl)) pgs_nil)))
        (pss_one (ps_if (pt_cmpR op_eq (pv 0) (pv 8) (nomark _))
          (pss_cons (ps_expr (pe_bm PySem.F.plainAttrs_list PySem.F.slot_list_append PySem.F.type_list_append mt_append (pv 5) (pa_cons (pe_ix ix_list (pv 4) (pv 7) (fun _ _ => rfl)) pa_nil)))
          (pss_one (ps_set (i := 6) scR.nd rfl (Or.inl rfl) (pe_op op_add (pv 7) pe_int))))
          (pss_cons (ps_set (i := 9) scR.nd rfl (Or.inl rfl) (pe_op op_add pe_int (pe_callB (call_min3 rfl) rfl T.min PyProof.Rows.boot_min (pa_cons (pe_ix ix_list (pv 4) (pv 7) (fun _ _ => rfl)) (pa_cons (pe_ix ix_list (pv 4) (pe_op op_add (pv 7) pe_int) (fun _ _ => rfl)) (pa_cons (pe_ix ix_list (pv 5) (pv 7) (fun _ _ => rfl)) pa_nil))))))
          (pss_cons (ps_set (i := 10) scR.nd rfl (Or.inl rfl) (pe_dget2 hu (pv 3) (pv 8) pe_int ⟨rfl, rfl, rfl, rfl⟩))
          (pss_cons (ps_if (pw_and (pt_cmpR op_gt (pv 10) pe_int (nomark _)) (pw_and1 (pt_cmpR op_gt (pv 6) pe_int (nomark _)))).pt
            (pss_cons (ps_set (i := 11) scR.nd rfl (Or.inl rfl) (pe_op op_sub (pe_op op_add (pe_op op_sub (pe_op op_sub (pe_callB call_len_seq rfl T.len PySem.boot_len (pa_cons (pv 2) pa_nil)) (pv 10)) pe_int) (pv 7)) (pv 6)))
            (pss_one (ps_set (i := 9) scR.nd rfl (Or.inl rfl) (pe_callB (call_min2 rfl) rfl T.min PyProof.Rows.boot_min (pa_cons (pv 9) (pa_cons (pe_op op_add (pe_op op_add (pe_ix ix_list (pe_ix ix_list (pv 2) (pe_op op_sub (pv 10) pe_int) (fun _ _ => rfl)) (pe_op op_sub (pv 6) pe_int) (fun _ _ => rfl)) (pv 11)) pe_int) pa_nil))))))
            pss_nil)
          (pss_one (ps_expr (pe_bm PySem.F.plainAttrs_list PySem.F.slot_list_append PySem.F.type_list_append mt_append (pv 5) (pa_cons (pv 9) pa_nil)))))))
          )))
      (pss_one (ps_ret (pv 5)))))), ?_⟩
    obtain ⟨pab, hab, hat⟩ := ref_last hrl
    have hab' := hrs i pab hab
    -- above = rows[-1]; row = [len(rows)]; last_place = 0
    refine ⟨_, rfl, _, rfl, pr, _, _, _, rfl, rfl, SqL.of hpr, hat, ?_⟩
    refine ⟨_, rfl, pr, _, rfl, .inl (SqL.of hpr), (by show 1 ≤ sizeLine; decide), fun ro hro => ?_⟩
    have s0 : Same H (upd H ro (.lst [.int ((rs.map V.ref).length : Nat)])) := Same.put hro
    refine ⟨_, rfl, pb, _, rfl, s0.seq hb, for_enum (K := K) (a := pb) (xs := vi (wz b)) (fun j σ H2 => ∃ v7 v8 v9 v10 v11 : Option V,
        σ = [some (.int (x.toNat : Int)), some (.ref pb), some (.ref pr), some (.ref pd), some (.ref pab), some (.ref ro), some (.int (lastTo x b j : Int)), v7, v8, v9, v10, v11] ∧ Same H H2 ∧ H2 ro = some (.lst (vi ((rowZ a b (i + 1)).take (j + 1)))))
      ⟨none, none, none, none, none, rfl, s0, ?_⟩ (fun j σ H2 _ ⟨_, _, _, _, _, _, s2, _⟩ => s2.seq hb) ?_ ?_⟩
    · rw [upd_same, rowZ_start, List.length_map, hrl]
      rfl
    · rintro j y σ H2 Tu hj ⟨v7, v8, v9, v10, v11, rfl, s2, hro2⟩ hTu
      obtain ⟨c, hc, rfl⟩ := wz_at hj
      have hjl : j < b.length := (List.getElem?_eq_some_iff.mp hc).1
      refine g_pair ?_
      have s3' : Same H2 (upd H2 Tu (.tup [.int (j : Nat), .int (c.toNat : Int)])) := Same.put hTu
      have s3 := s2.trans s3'
      have hro3 := s3' _ _ hro2
      generalize upd H2 Tu (.tup [.int (j : Nat), .int (c.toNat : Int)]) = H3 at s3 hro3
      have hlen : (vi ((rowZ a b (i + 1)).take (j + 1))).length < sizeLine := by
        rw [List.length_map, List.length_take, rowZ_len]
        exact smaller_of (by omega)
      have ends : ∀ (l : Int) (v7 v8 v9 v10 v11 : Option V) (d : Int), d = (dist a b (i + 1) (j + 1) : Int) → l = (lastTo x b (j + 1) : Int) →
          ∃ u7 u8 u9 u10 u11 : Option V, [some (V.int (x.toNat : Int)), some (V.ref pb), some (V.ref pr), some (V.ref pd), some (V.ref pab), some (V.ref ro), some (V.int l), v7, v8, v9, v10, v11] =
            [some (V.int (x.toNat : Int)), some (V.ref pb), some (V.ref pr), some (V.ref pd), some (V.ref pab), some (V.ref ro), some (V.int (lastTo x b (j + 1) : Int)), u7, u8, u9, u10, u11] ∧
            Same H (upd H3 ro (.lst (vi ((rowZ a b (i + 1)).take (j + 1)) ++ [.int d]))) ∧ (upd H3 ro (.lst (vi ((rowZ a b (i + 1)).take (j + 1)) ++ [.int d]))) ro = some (.lst (vi ((rowZ a b (i + 1)).take (j + 1 + 1)))) := by
        intro l v7 v8 v9 v10 v11 d e1 e2
        subst e1 e2
        refine ⟨v7, v8, v9, v10, v11, rfl, s3.new hro, ?_⟩
        rw [upd_same, rowZ_more hjl]
        show _ = some (HO.lst (List.map V.int (_ ++ _)))
        rw [List.map_append]
        rfl
      refine Ev.test (Ev.eqI (ev_v rfl) (ev_v rfl)) ?_
      rw [byte_eq]
      refine ite2 (fun he => ?_) fun he => ?_
      · have exc : x = c := of_decide_eq_true he
        subst exc
        refine ⟨_, rfl, ty_list hro3, _, rfl, _, rfl, pab, _, _, _, rfl, rfl, SqL.of (s3 _ _ hab'), atI_nat (row_at (by omega)), ro, _, _, rfl, rfl, hro3, hlen, ?_⟩
        refine ⟨_, rfl, _, _, rfl, rfl, ?_⟩
        refine ends _ _ _ _ _ _ _ (by rw [dist_same hx hc]) ?_
        rw [lastTo_succ, if_pos hc]
        rfl
      · have hxc : x ≠ c := fun e => he (decide_eq_true e)
        have hl1 : lastTo x b (j + 1) = lastTo x b j := by
          rw [lastTo_succ, if_neg (by rw [hc]; exact fun e => hxc (Option.some.inj e).symm)]
        have k1 := lastTo_le c a i
        have k2 := lastTo_le x b j
        have sab : SqL K H3 pab (vi (rowZ a b i)) := SqL.of (s3 _ _ hab')
        refine Ev.seq (Ev.i2 (g := fun i j => .int (i + j)) ev_c (Ev.min3 (Ev.ix (ev_v rfl) (ev_v rfl) sab (atI_nat (row_at (a := a) (b := b) (i := i) (j := j) (by omega)))) (Ev.ix (ev_v rfl) (Ev.i2 (g := fun i j => .int (i + j)) (ev_v rfl) ev_c) sab (at_cast (j := j + 1) rfl (row_at (a := a) (b := b) (i := i) (by omega))))
          (Ev.ix (ev_v rfl) (ev_v rfl) (SqL.of hro3) (atI_nat (part_at (a := a) (b := b) (i := i + 1) (j := j) (by omega) (by omega)))))) ?_
        refine Ev.seq (Ev.dget (ev_v rfl) (ev_v rfl) ev_c (s3 _ _ hpd)) ?_
        rw [hL.2 c]
        by_cases h0 : lastTo c a i = 0
        · rw [if_pos h0]
          refine Ev.test (Ev.i2 (ev_v rfl) ev_c) ?_
          rw [decide_eq_false (Int.lt_irrefl 0)]
          refine iteF (iteF ?_)
          refine ⟨_, rfl, ty_list hro3, _, rfl, ro, _, _, rfl, rfl, hro3, hlen, ?_⟩
          exact ends _ _ _ _ _ _ _ (cell_other hx hc hxc (.inl h0)) (by rw [hl1])
        · rw [if_neg h0]
          refine Ev.test (Ev.i2 (ev_v rfl) ev_c) ?_
          rw [decide_eq_true (show (0 : Int) < (lastTo c a i : Int) by omega)]
          refine iteT (Ev.test (Ev.i2 (ev_v rfl) ev_c) ?_)
          by_cases h2 : lastTo x b j = 0
          · rw [decide_eq_false (show ¬ (0 : Int) < (lastTo x b j : Int) by omega)]
            refine iteF ?_
            refine ⟨_, rfl, ty_list hro3, _, rfl, ro, _, _, rfl, rfl, hro3, hlen, ?_⟩
            exact ends _ _ _ _ _ _ _ (cell_other hx hc hxc (.inr h2)) (by rw [hl1])
          · rw [decide_eq_true (show (0 : Int) < (lastTo x b j : Int) by omega)]
            refine iteT ?_
            -- between
            have spr : SqL K H3 pr (rs.map V.ref) := SqL.of (s3 _ _ hpr)
            refine Ev.seq (Ev.i2 (g := fun i j => .int (i - j)) (Ev.i2 (g := fun i j => .int (i + j)) (Ev.i2 (g := fun i j => .int (i - j)) (Ev.i2 (g := fun i j => .int (i - j)) (Ev.len (ev_v rfl) spr) (ev_v rfl)) ev_c) (ev_v rfl)) (ev_v rfl)) ?_
            have hr1 : lastTo c a i - 1 < rs.length := by omega
            have hg := hrs _ _ (List.getElem?_eq_getElem hr1)
            refine Ev.fin (Ev.min2 (ev_v rfl) (Ev.i2 (g := fun i j => .int (i + j)) (Ev.i2 (g := fun i j => .int (i + j)) (Ev.ix (Ev.ix (ev_v rfl) (Ev.i2 (g := fun i j => .int (i - j)) (ev_v rfl) ev_c) spr (at_cast (j := lastTo c a i - 1) (by omega) (ref_get (List.getElem?_eq_getElem hr1))))
              (Ev.i2 (g := fun i j => .int (i - j)) (ev_v rfl) ev_c) (SqL.of (s3 _ _ hg)) (at_cast (j := lastTo x b j - 1) (by omega) (row_at (a := a) (b := b) (i := lastTo c a i - 1) (by omega)))) (ev_v rfl)) ev_c)) ?_
            refine ⟨_, rfl, ty_list hro3, _, rfl, ro, _, _, rfl, rfl, hro3, hlen, ?_⟩
            refine ends _ _ _ _ _ _ _ ?_ (by rw [hl1])
            have e := cell_swap hx hc hxc h0 h2
            rw [List.length_map, hrl]
            exact e
    · rintro σ H2 ⟨v7, v8, v9, v10, v11, rfl, s2, hro2⟩
      refine ⟨_, rfl, k ro H2 s2 hro ?_⟩
      rw [hro2, List.length_map, wz_len, rowZ_full]
end
end Sl
namespace Sl
open PySem L2 Ew
section
variable {P : Program} {w : World} {K : PySem.W.Frag} {mg : Str → Option Value} {base : Heap}
theorem Lasts.nil (a : Po.Word) : Lasts [] a 0 := ⟨Nat.le_refl _, fun _ => rfl⟩
theorem Lasts.put {kvs : List (Key × V)} {a : Po.Word} {i : Nat} {x : UInt8} (h : Lasts kvs a i) (hx : a[i]? = some x) : Lasts (putK kvs (Sum.inl (x.toNat : Int)) (.int ((i + 1 : Nat) : Int))) a (i + 1) := by
  refine ⟨Nat.le_trans (length_putK _ _ _) (Nat.succ_le_succ h.1), fun y => ?_⟩
  rw [valV_put, lastTo_succ, hx]
  by_cases e : y = x
  · subst e
    rw [if_pos rfl, if_pos rfl, if_neg (Nat.succ_ne_zero _)]
  · have e1 : ¬ (Sum.inl (y.toNat : Int) : Key) = Sum.inl (x.toNat : Int) := fun z => e (UInt8.toNat_inj.mp (by have := Sum.inl.inj z; omega))
    have e2 : ¬ some x = some y := fun z => e (Option.some.inj z).symm
    rw [if_neg e1, if_neg e2, h.2 y]
theorem rowV_zero (a b : Po.Word) : ((List.range (b.length + 1)).map fun (i : Nat) => V.int (i : Int)) = vi (rowZ a b 0) := by
  rw [rowZ_zero]
  show _ = List.map V.int (List.map _ _)
  rw [List.map_map]
  rfl
theorem scS : FnScope ["a", "b", "rows", "last_rows", "letter"] ["a", "b"] (defScope sSlips) := ⟨rfl, rfl, rfl, by decide +kernel, rfl, by decide +kernel, by decide +kernel⟩
set_option maxHeartbeats 4000000 in
theorem ok_slips {f : Addr} {fd : FuncData} (F : Fun K "slips_between" "slips_between" sSlips f fd) (T : TxS mg) (DR : Def P w K mg base "row_of" 1 ["letter", "b", "rows", "last_rows"] (spRow K)) : FnOk P w K mg base CX0 2 f fd ["a", "b"] (spSlips K) := by
  refine F.ok scS (fun vs H Q E h => ?_) (fun cdv A outer s H vs Q E hr h => ?_)
  · obtain ⟨a, b, pa, pb, rfl, _⟩ := h
    rfl
  · obtain ⟨a, b, pa, pb, rfl, ha, hb, la, lb, k⟩ := h
    have hu := hu_of hr
    have hr1 : Room 1 _ := hr.mono (by decide)
    refine ⟨_, pss_cons (ps_set (i := 2) scS.nd rfl (Or.inl rfl) (pe_lst (pa_cons (pe_callTy (cr_list_rng rfl) rfl T.list PyProof.Rows.boot_list (pa_cons (pe_callTy cr_range1 rfl T.range PyProof.Rows.boot_range (pa_cons (pe_op op_add (pe_callB call_len_seq rfl T.len PySem.boot_len (pa_cons (pv 1) pa_nil)) pe_int) pa_nil)) pa_nil)) pa_nil)))
      (pss_cons (ps_set (i := 3) scS.nd rfl (Or.inl rfl) pe_dnewK)
      (pss_cons (ps_for PassesOwn.never rfl (pi_list (pv 0)) (pg_name (i := 4) scS.nd rfl (Or.inl rfl))
        (pss_cons (ps_expr (pe_bm PySem.F.plainAttrs_list PySem.F.slot_list_append PySem.F.type_list_append mt_append (pv 2) (pa_cons (DR.call hr1 (pa_cons (pv 4) (pa_cons (pv 1) (pa_cons (pv 2) (pa_cons (pv 3) pa_nil))))) pa_nil)))
        (pss_one (ps_dput hu (pv 3) (pv 4) (pe_op op_sub (pe_callB call_len_seq rfl T.len PySem.boot_len (pa_cons (pv 2) pa_nil)) pe_int) rfl))))
      (pss_one (ps_ret (pe_ix ix_list (pe_ix ix_list (pv 2) (pe_un un_neg pe_int) (fun _ _ => rfl)) (pe_un un_neg pe_int) (fun _ _ => rfl)))))), ?_⟩
    -- rows = [list(range(len(b) + 1))]
    refine ⟨_, rfl, pb, _, rfl, .inl hb, _, _, rfl, rfl, _, rfl, fun pg hpg => ?_⟩
    refine ⟨pg, b.length + 1, rfl, ?_, by omega, fun p0 hp0 => ⟨(by show 1 ≤ sizeLine; decide), fun pr hpr => ?_⟩⟩
    · rw [upd_same, List.length_map, wz_len]
      rfl
    have s1 : Same H (upd (upd H pg (.rng 0 (((vi (wz b)).length : Nat) + 1))) p0 (.lst ((List.range (b.length + 1)).map fun (i : Nat) => V.int (i : Int)))) := (Same.put hpg).trans (Same.put hp0)
    have h1 : (upd (upd H pg (.rng 0 (((vi (wz b)).length : Nat) + 1))) p0 (.lst ((List.range (b.length + 1)).map fun (i : Nat) => V.int (i : Int)))) p0 = some (.lst (vi (rowZ a b 0))) := by rw [upd_same, rowV_zero a b]
    generalize upd (upd H pg (.rng 0 (((vi (wz b)).length : Nat) + 1))) p0 (.lst ((List.range (b.length + 1)).map fun (i : Nat) => V.int (i : Int))) = H1 at s1 h1 hpr
    have s2 : Same H1 (upd H1 pr (.lst [.ref p0])) := Same.put hpr
    have n0 : H pr = none := s1.free hpr
    have hpr2 : (upd H1 pr (.lst [.ref p0])) pr = some (.lst [.ref p0]) := upd_same
    generalize upd H1 pr (.lst [.ref p0]) = H2 at s2 hpr2
    have n1 : p0 ≠ pr := ne_of_none h1 hpr
    -- last_rows = {}
    refine fun pd hpd => ?_
    have s3 : Same H2 (upd H2 pd (.dK [])) := Same.put hpd
    have nd0 : H pd = none := (s1.trans s2).free hpd
    have npd : pr ≠ pd := ne_of_none hpr2 hpd
    refine ⟨_, rfl, pa, rfl, ⟨_, ((s1.trans s2).trans s3).seq ha⟩, for_list (K := K) (a := pa) (xs := vi (wz a)) (fun i σ H4 => ∃ (rs : List Addr) (kvs : List (Key × V)) (v4 : Option V),
        σ = [some (.ref pa), some (.ref pb), some (.ref pr), some (.ref pd), v4] ∧ Same H H4 ∧ H4 pr = some (.lst (rs.map V.ref)) ∧ rs.length = i + 1 ∧ pr ∉ rs ∧ (∀ (j : Nat) (p : Addr), rs[j]? = some p → H4 p = some (.lst (vi (rowZ a b j)))) ∧ H4 pd = some (.dK kvs) ∧ Lasts kvs a i)
      ⟨[p0], [], none, rfl, (s1.trans s2).trans s3, s3 _ _ hpr2, rfl, (by simpa using n1.symm), ?_, upd_same, Lasts.nil a⟩ (fun i σ H4 _ ⟨_, _, _, _, s4, _⟩ => s4.seq ha) ?_ ?_⟩
    · intro j p hj
      have e : j = 0 := by
        cases j with
        | zero => rfl
        | succ n => simp at hj
      subst e
      have e : p0 = p := Option.some.inj hj
      subst e
      exact s3 _ _ (s2 _ _ h1)
    · rintro i y σ H4 hy ⟨rs, kvs, v4, rfl, s4, hpr4, hrl, hni, hrs, hpd4, hL⟩
      obtain ⟨x, hx, rfl⟩ := wz_at hy
      have hil : i < a.length := (List.getElem?_eq_some_iff.mp hx).1
      -- rows.append(row_of(..))
      refine ⟨_, rfl, ty_list hpr4, _, rfl, _, rfl, _, rfl, _, rfl, a, b, i, x, pb, pr, pd, rs, kvs, rfl, hx, s4.seq hb, lb, hpr4, hrl, hrs, hpd4, hL, fun p H5 s5 hp hp5 => ?_⟩
      have hpr5 := s5 _ _ hpr4
      have hpd5 := s5 _ _ hpd4
      have npp : p ≠ pr := (ne_of_none hpr4 hp).symm
      have nppd : p ≠ pd := (ne_of_none hpd4 hp).symm
      refine ⟨pr, _, _, rfl, rfl, hpr5, by rw [List.length_map, hrl]; exact smaller_of (by omega), ?_⟩
      have e6 : rs.map V.ref ++ [V.ref p] = (rs ++ [p]).map V.ref := by simp
      rw [e6]
      have s6 : Same H (upd H5 pr (.lst ((rs ++ [p]).map V.ref))) := (s4.trans s5).new n0
      have hpr6 : (upd H5 pr (.lst ((rs ++ [p]).map V.ref))) pr = some (.lst ((rs ++ [p]).map V.ref)) := upd_same
      have hpd6 : (upd H5 pr (.lst ((rs ++ [p]).map V.ref))) pd = some (.dK kvs) := by rw [upd_ne npd.symm]; exact hpd5
      have hrs6 : ∀ (j : Nat) (q : Addr), (rs ++ [p])[j]? = some q → (upd H5 pr (.lst ((rs ++ [p]).map V.ref))) q = some (.lst (vi (rowZ a b j))) := by
        intro j q hj
        by_cases hjl : j < rs.length
        · rw [List.getElem?_append_left hjl] at hj
          rw [upd_ne fun e => hni (by rw [← e]; exact List.mem_of_getElem? hj)]
          exact s5 _ _ (hrs j q hj)
        · rw [List.getElem?_append_right (by omega)] at hj
          have e : j = rs.length := by
            cases q' : j - rs.length with
            | zero => omega
            | succ n => rw [q'] at hj; simp at hj
          subst e
          have e : p = q := by simpa using hj
          subst e
          rw [upd_ne npp, hrl]
          exact hp5
      generalize upd H5 pr (.lst ((rs ++ [p]).map V.ref)) = H6 at s6 hpr6 hpd6 hrs6
      -- last_rows[letter] = len(rows) - 1
      refine ⟨_, rfl, pr, _, rfl, .inl (SqL.of hpr6), _, _, rfl, rfl, _, rfl, _, rfl, pd, _, rfl, DPut.k (k := Sum.inl (x.toNat : Int)) hpd6 (smaller_of (by have := hL.1; omega)), ?_⟩
      have ei : (V.int (((((rs ++ [p]).map V.ref).length : Nat) : Int) - 1)) = V.int ((i + 1 : Nat) : Int) := by
        rw [List.length_map, List.length_append, hrl]
        congr 1
        simp only [List.length_cons, List.length_nil]
        omega
      refine ⟨rs ++ [p], _, _, rfl, s6.new nd0, ?_, by rw [List.length_append, hrl]; rfl, ?_, fun j q hj => ?_, upd_same.trans (congrArg (fun v => some (HO.dK (putK kvs (Sum.inl (x.toNat : Int)) v))) ei), hL.put hx⟩
      · rw [upd_ne npd]
        exact hpr6
      · intro m
        rcases List.mem_append.mp m with m | m
        · exact hni m
        · exact npp (List.mem_singleton.mp m).symm
      · rw [upd_ne (ne_of (hrs6 j q hj) hpd6 (by intro z; cases z))]
        exact hrs6 j q hj
    · rintro σ H4 ⟨rs, kvs, v4, rfl, s4, hpr4, hrl, hni, hrs, hpd4, hL⟩
      obtain ⟨p, hp, hat⟩ := ref_last hrl
      have hp4 := hrs _ _ hp
      rw [List.length_map, wz_len] at hp4
      obtain ⟨l, hl⟩ := rowZ_last a b a.length
      have hat2 : atI (vi (rowZ a b a.length)) (-1) = some (.int (Po.apartOf a b : Int)) := by
        rw [hl, apart_dist]
        show atI (List.map V.int (l ++ _)) (-1) = _
        rw [List.map_append]
        exact atI_last _ _
      exact ⟨_, rfl, _, rfl, pr, _, _, _, rfl, rfl, SqL.of hpr4, hat, _, rfl, p, _, _, _, rfl, rfl, SqL.of hp4, hat2, k H4 s4⟩
end
end Sl
namespace Sl
open PySem L2 Ew
/-! ### What the top has written -/
def DefAt (K : PySem.W.Frag) (x : Str) (st : Stmt) : Prop := ∃ f fd, Fun K x x st f fd ∧ PySem.W.nsIn K mainGlobals x = some (some (.ref f))
def GIn (K : PySem.W.Frag) (x : Str) (i : Int) : Prop := ∃ t, PySem.W.nsIn K mainGlobals x = some (some (.int i t))
theorem def_mk {K : PySem.W.Frag} {x : Str} {st : Stmt} {f : Addr} {oc : Value} {od an : Option Addr} {osl : Array (Option Value)} {kV doc pm cdv ct : Value} (a : PySem.W.nsIn K mainGlobals x = some (some (.ref f)))
    (l : K.lookup f = some ⟨oc, od, .func (PySem.W.fnOf x x (defArgs st) (defBody st) (defScope st) .none kV doc pm an cdv ct), osl⟩) (c : PySem.W.codeIn K cdv x = true) (k : PySem.W.keepIn K (.ref f) = true) : DefAt K x st := ⟨f, _, fun_mk l c k, a⟩
theorem gi_mk {K : PySem.W.Frag} {x : Str} {i : Int} {t : Tok} (h : PySem.W.nsIn K mainGlobals x = some (some (.int i t))) : GIn K x i := ⟨t, h⟩
structure Text (K : PySem.W.Frag) : Prop where
  len : PySem.W.nsIn K mainGlobals "len" = some none
  all : PySem.W.nsIn K mainGlobals "all" = some none
  min : PySem.W.nsIn K mainGlobals "min" = some none
  list : PySem.W.nsIn K mainGlobals "list" = some none
  range : PySem.W.nsIn K mainGlobals "range" = some none
  enum : PySem.W.nsIn K mainGlobals "enumerate" = some none
  g1 : GIn K "MOST_LETTERS" 32
  g2 : GIn K "NO_WORD" (-1)
  g3 : GIn K "FIRST_DIGIT" 48
  g4 : GIn K "LAST_DIGIT" 57
  g5 : GIn K "FIRST_SMALL" 97
  g6 : GIn K "LAST_SMALL" 122
  dW : DefAt K "is_word" sWord
  dL : DefAt K "is_letter" sLet
  dS : DefAt K "slips_between" sSlips
  dR : DefAt K "row_of" sRow
section
variable {P : Program} {w : World} {K : PySem.W.Frag} {mg : Str → Option Value} {h : Heap}
theorem GIn.gi {x : Str} {i : Int} (g : GIn K x i) (X : K.In h) (G : h.Ns mainGlobals mg) : GI mg x i := let ⟨t, e⟩ := g; ⟨t, PySem.W.mg_of X G e⟩
theorem DefAt.df {base : Heap} {x : Str} {st : Stmt} {k : Nat} {ps : List Str} {sp : Sp} (D : DefAt K x st) (X : K.In h) (G : h.Ns mainGlobals mg) (hb : ∀ f fd, Fun K x x st f fd → Binds K fd ps []) (ok : ∀ f fd, Fun K x x st f fd → FnOk P w K mg base CX0 k f fd ps sp) :
    Def P w K mg base x k ps sp := let ⟨f, fd, F, a⟩ := D; ⟨⟨f, fd, ok f fd F, hb f fd F, PySem.W.mg_of X G a, F.kp⟩⟩
theorem Text.tx (T : Text K) (X : K.In h) (G : h.Ns mainGlobals mg) : TxS mg :=
  ⟨PySem.W.mg_none_of X G T.len, PySem.W.mg_none_of X G T.all, PySem.W.mg_none_of X G T.min, PySem.W.mg_none_of X G T.list, PySem.W.mg_none_of X G T.range, PySem.W.mg_none_of X G T.enum, T.g1.gi X G, T.g2.gi X G, T.g3.gi X G, T.g4.gi X G, T.g5.gi X G, T.g6.gi X G⟩
/-- the defs that both calls reach -/
structure Both (P : Program) (w : World) (K : PySem.W.Frag) (mg : Str → Option Value) (base : Heap) : Prop where
  dW : Def P w K mg base "is_word" 2 ["given"] (spWord K)
  dS : Def P w K mg base "slips_between" 2 ["a", "b"] (spSlips K)
theorem both_of {base : Heap} (T : Text K) (X : K.In h) (G : h.Ns mainGlobals mg) : Both P w K mg base := by
  have TX := T.tx X G
  have DL : Def P w K mg base "is_letter" 1 ["byte"] spLet := T.dL.df X G (fun f fd F => F.binds (ps := ["byte"]) fun _ _ _ _ _ _ us hl => match us, hl with | [_], _ => rfl) fun f fd F => ok_let F TX
  have DR : Def P w K mg base "row_of" 1 ["letter", "b", "rows", "last_rows"] (spRow K) := T.dR.df X G (fun f fd F => F.binds (ps := ["letter", "b", "rows", "last_rows"]) fun _ _ _ _ _ _ us hl => match us, hl with | [_, _, _, _], _ => rfl) fun f fd F => ok_row F TX
  exact ⟨T.dW.df X G (fun f fd F => F.binds (ps := ["given"]) fun _ _ _ _ _ _ us hl => match us, hl with | [_], _ => rfl) fun f fd F => ok_word F TX DL,
    T.dS.df X G (fun f fd F => F.binds (ps := ["a", "b"]) fun _ _ _ _ _ _ us hl => match us, hl with | [_, _], _ => rfl) fun f fd F => ok_slips F TX DR⟩
end
end Sl
namespace L2
open PySem PySem.Spec PyProof.Rows
/-- an expression that gives a new list -/
def Nw (t : TE) (σ : St) (H : Hp) (xs : List V) : Prop := ∀ R : VK, (∀ (p : Addr) (H' : Hp), Same H H' → H p = none → H' p = some (.lst xs) → R (.ref p) H') → t σ H R
theorem Nw.to {K : PySem.W.Frag} {te tb : TE} {σ : St} {H : Hp} {a : Addr} {xs : List V} {n : Int} (e : Ev te σ H (.ref a)) (h : SqL K H a xs) (b : Ev tb σ H (.int n)) : Nw (tSl (rSlL K) te tNoPart (tPart tb)) σ H (cutV xs none (some n)) := fun R r =>
  e _ (b _ ⟨n, rfl, a, xs, rfl, h, fun p hp => r p _ (Same.put hp) hp upd_same⟩)
theorem Nw.off {K : PySem.W.Frag} {te tb : TE} {σ : St} {H : Hp} {a : Addr} {xs : List V} {n : Int} (e : Ev te σ H (.ref a)) (h : SqL K H a xs) (b : Ev tb σ H (.int n)) : Nw (tSl (rSlL K) te (tPart tb) tNoPart) σ H (cutV xs (some n) none) := fun R r =>
  e _ (b _ ⟨n, rfl, a, xs, rfl, h, fun p hp => r p _ (Same.put hp) hp upd_same⟩)
theorem Nw.cat {K : PySem.W.Frag} {ta tb : TE} {σ : St} {H : Hp} {xs ys : List V} (a : Nw ta σ H xs) (b : ∀ H1, Same H H1 → Nw tb σ H1 ys) (hz : xs.length + ys.length ≤ sizeLine) : Nw (tOp (rCatL K) ta tb) σ H (xs ++ ys) := fun R r =>
  a _ fun p H1 s1 n1 h1 => b H1 s1 _ fun q H2 s2 n2 h2 => ⟨p, q, xs, ys, rfl, rfl, SqL.of (s2 _ _ h1), SqL.of h2, hz, fun c hc => r c _ ((s1.trans s2).trans (Same.put hc)) ((s1.trans s2).free hc) upd_same⟩
theorem Nw.one {ta : TE} {σ : St} {H : Hp} {v : V} (a : Ev ta σ H v) : Nw (tLst (tCons ta tNil)) σ H [v] := fun R r => a _ ⟨(by show 1 ≤ sizeLine; decide), fun p hp => r p _ (Same.put hp) hp upd_same⟩
theorem Nw.two {ta tb : TE} {σ : St} {H : Hp} {v w : V} (a : Ev ta σ H v) (b : Ev tb σ H w) : Nw (tLst (tCons ta (tCons tb tNil))) σ H [v, w] := fun R r => a _ (b _ ⟨(by show 2 ≤ sizeLine; decide), fun p hp => r p _ (Same.put hp) hp upd_same⟩)
theorem Ev.neI {ta tb : TE} {σ : St} {H : Hp} {x y : Int} (a : Ev ta σ H (.int x)) (b : Ev tb σ H (.int y)) : Ev (tOp rNe ta tb) σ H (.bl (!decide (x = y))) := fun R h => a _ (b _ ⟨rfl, by
  have e : decide (V.int x = V.int y) = decide (x = y) := by rw [dec_int, Bool.beq_eq_decide_eq]
  show R (.bl (!decide (V.int x = V.int y))) H
  rw [e]
  exact h⟩)
theorem Ev.cast {t : TE} {σ : St} {H : Hp} {x y : Int} (e : x = y) (h : Ev t σ H (.int x)) : Ev t σ H (.int y) := e ▸ h
end L2
namespace Sl
open PySem L2 Ew
/-! ### lists of words -/
/-- the words stand in the list at D; all new since B -/
def WL (B H : Hp) (D : Addr) (ws : List Po.Word) : Prop := ∃ rs : List Addr, H D = some (.lst (rs.map V.ref)) ∧ D ∉ rs ∧ Paired (fun (r : Addr) (u : Po.Word) => B r = none ∧ H r = some (.lst (vi (wz u)))) rs ws
theorem pair_mem {α β : Type} {F : α → β → Prop} : ∀ {xs : List α} {ys : List β}, Paired F xs ys → ∀ x ∈ xs, ∃ y ∈ ys, F x y
  | _, _, .nil, x, h => by cases h
  | _, _, .cons q t, x, h => by
    rcases List.mem_cons.mp h with e | h
    · subst e
      exact ⟨_, List.mem_cons_self .., q⟩
    · obtain ⟨y, hy, f⟩ := pair_mem t x h
      exact ⟨y, List.mem_cons_of_mem _ hy, f⟩
theorem pair_app {α β : Type} {F : α → β → Prop} : ∀ {xs xs' : List α} {ys ys' : List β}, Paired F xs ys → Paired F xs' ys' → Paired F (xs ++ xs') (ys ++ ys')
  | _, _, _, _, .nil, h => h
  | _, _, _, _, .cons q t, h => .cons q (pair_app t h)
theorem pair_mono {α β : Type} {F G : α → β → Prop} : ∀ {xs : List α} {ys : List β}, Paired F xs ys → (∀ x ∈ xs, ∀ y, F x y → G x y) → Paired G xs ys
  | _, _, .nil, _ => .nil
  | _, _, .cons q t, h => .cons (h _ (List.mem_cons_self ..) _ q) (pair_mono t fun x hx y f => h x (List.mem_cons_of_mem _ hx) y f)
theorem WL.nil {B H : Hp} {D : Addr} (h : H D = some (.lst [])) : WL B H D [] := ⟨[], h, by simp, .nil⟩
theorem WL.keep {B H H' : Hp} {D : Addr} {ws : List Po.Word} (h : WL B H D ws) (s : Same H H') : WL B H' D ws := by
  obtain ⟨rs, h1, h2, h3⟩ := h
  exact ⟨rs, s _ _ h1, h2, pair_mono h3 fun r _ u q => ⟨q.1, s _ _ q.2⟩⟩
theorem WL.back {B B' H : Hp} {D : Addr} {ws : List Po.Word} (h : WL B H D ws) (s : Same B' B) : WL B' H D ws := by
  obtain ⟨rs, h1, h2, h3⟩ := h
  exact ⟨rs, h1, h2, pair_mono h3 fun r _ u q => ⟨s.free q.1, q.2⟩⟩
theorem WL.lst {B H : Hp} {D : Addr} {ws : List Po.Word} (h : WL B H D ws) : ∃ xs : List V, H D = some (.lst xs) ∧ xs.length = ws.length := by
  obtain ⟨rs, h1, _, h3⟩ := h
  exact ⟨_, h1, by rw [List.length_map]; exact h3.length⟩
theorem WL.push {B H : Hp} {D r : Addr} {ws : List Po.Word} {u : Po.Word} {xs : List V} (h : WL B H D ws) (hx : H D = some (.lst xs)) (hb : B r = none) (hr : H r = some (.lst (vi (wz u)))) (ne : r ≠ D) : WL B (upd H D (.lst (xs ++ [.ref r]))) D (ws ++ [u]) := by
  obtain ⟨rs, h1, h2, h3⟩ := h
  have e : xs = rs.map V.ref := by
    rw [hx] at h1
    cases h1
    rfl
  subst e
  refine ⟨rs ++ [r], by rw [upd_same, List.map_append]; rfl, fun m => ?_, pair_app (pair_mono h3 fun q hq v f => ⟨f.1, ?_⟩) (.cons ⟨hb, ?_⟩ .nil)⟩
  · rcases List.mem_append.mp m with m | m
    · exact h2 m
    · exact ne (List.mem_singleton.mp m).symm
  · rw [upd_ne (show q ≠ D from fun z => h2 (z ▸ hq))]
    exact f.2
  · rw [upd_ne ne]
    exact hr
theorem WL.extend {B B' H : Hp} {D E : Addr} {ws us : List Po.Word} {xs ys : List V} (h : WL B H D ws) (g : WL B' H E us) (s : Same B B') (hD : ∃ o, B' D = some o) (hx : H D = some (.lst xs)) (hy : H E = some (.lst ys)) : WL B (upd H D (.lst (xs ++ ys))) D (ws ++ us) := by
  obtain ⟨rs, h1, h2, h3⟩ := h
  obtain ⟨qs, g1, g2, g3⟩ := g
  obtain ⟨o, hD⟩ := hD
  have e : xs = rs.map V.ref := by
    rw [hx] at h1
    cases h1
    rfl
  have e2 : ys = qs.map V.ref := by
    rw [hy] at g1
    cases g1
    rfl
  subst e e2
  have nq : ∀ q ∈ qs, q ≠ D := fun q hq z => by
    obtain ⟨_, _, f⟩ := pair_mem g3 q hq
    rw [z, hD] at f
    cases f.1
  refine ⟨rs ++ qs, by rw [upd_same, List.map_append], fun m => ?_, pair_app (pair_mono h3 fun q hq v f => ⟨f.1, ?_⟩) (pair_mono g3 fun q hq v f => ⟨s.free f.1, ?_⟩)⟩
  · rcases List.mem_append.mp m with m | m
    · exact h2 m
    · exact nq D m rfl
  · rw [upd_ne (show q ≠ D from fun z => h2 (z ▸ hq))]
    exact f.2
  · rw [upd_ne (nq q hq)]
    exact f.2
/-! ### values -/
theorem vi_wz_take (w : Po.Word) (n : Nat) : (vi (wz w)).take n = vi (wz (w.take n)) := by
  unfold wz
  show (List.map V.int _).take n = List.map V.int _
  rw [← List.map_take, ← List.map_take]
theorem vi_wz_drop (w : Po.Word) (n : Nat) : (vi (wz w)).drop n = vi (wz (w.drop n)) := by
  unfold wz
  show (List.map V.int _).drop n = List.map V.int _
  rw [← List.map_drop, ← List.map_drop]
theorem vi_wz_append (u w : Po.Word) : vi (wz u) ++ vi (wz w) = vi (wz (u ++ w)) := by
  unfold wz
  show List.map V.int _ ++ List.map V.int _ = List.map V.int _
  rw [← List.map_append, ← List.map_append]
theorem vi_len (w : Po.Word) : (vi (wz w)).length = w.length := by rw [List.length_map, wz_len]
theorem cut_to (w : Po.Word) (n : Nat) : cutV (vi (wz w)) none (some (n : Int)) = vi (wz (w.take n)) := by
  unfold cutV
  rw [HT.sIx_none, HT.sIx_nat, List.drop_zero, Nat.sub_zero, vi_len, vi_wz_take]
  congr 2
  rw [List.take_eq_take_iff]
  omega
theorem cut_off (w : Po.Word) (n : Nat) : cutV (vi (wz w)) (some (n : Int)) none = vi (wz (w.drop n)) := by
  unfold cutV
  rw [HT.sIx_none, HT.sIx_nat, vi_len, vi_wz_drop, List.take_of_length_le (by rw [vi_len, List.length_drop]; omega)]
  congr 2
  by_cases h : n ≤ w.length
  · rw [Nat.min_eq_left h]
  · rw [Nat.min_eq_right (by omega), List.drop_length, List.drop_of_length_le (by omega)]
theorem vi_get {w : Po.Word} {i : Nat} {x : UInt8} (h : w[i]? = some x) : (vi (wz w))[i]? = some (.int (x.toNat : Int)) := by
  apply vi_at
  unfold wz
  rw [List.getElem?_map, h]
  rfl
abbrev sLess : Stmt := top 16
abbrev sMany : Stmt := top 17
abbrev sMore : Stmt := top 18
def spLess (K : PySem.W.Frag) : Sp := fun vs H Q _ => ∃ (pw : Addr) (w : Po.Word), vs = [.ref pw] ∧ SqL K H pw (vi (wz w)) ∧ w.length ≤ 100 ∧ ∀ (p : Addr) (H' : Hp), Same H H' → H p = none → WL H H' p (lessTo w w.length) → Q (.ref p) H'
def spMany (K : PySem.W.Frag) : Sp := fun vs H Q _ => ∃ (pw pl : Addr) (w ls : Po.Word), vs = [.ref pw, .ref pl] ∧ SqL K H pw (vi (wz w)) ∧ SqL K H pl (vi (wz ls)) ∧ w.length ≤ 100 ∧ ls.length ≤ 100 ∧ ∀ (p : Addr) (H' : Hp), Same H H' → H p = none → WL H H' p (sameTo ls w w.length) → Q (.ref p) H'
def spMore (K : PySem.W.Frag) : Sp := fun vs H Q _ => ∃ (pw pl : Addr) (w ls : Po.Word), vs = [.ref pw, .ref pl] ∧ SqL K H pw (vi (wz w)) ∧ SqL K H pl (vi (wz ls)) ∧ w.length ≤ 100 ∧ ls.length ≤ 100 ∧ ∀ (p : Addr) (H' : Hp), Same H H' → H p = none → WL H H' p (moreTo ls w (w.length + 1)) → Q (.ref p) H'
theorem lessTo_le (w : Po.Word) (n : Nat) : (lessTo w n).length ≤ n := by
  induction n with
  | zero => exact Nat.le_refl _
  | succ n ih =>
    unfold lessTo at ih ⊢
    rw [flat_succ, List.length_append]
    have : (lessAt w n).length ≤ 1 := by unfold lessAt; split <;> simp
    omega
theorem ne_byte (x y : UInt8) : (!decide ((x.toNat : Int) = (y.toNat : Int))) = decide (x ≠ y) := by
  rw [byte_eq]
  by_cases h : x = y <;> simp [h]
section
variable {P : Program} {w : World} {K : PySem.W.Frag} {mg : Str → Option Value} {base : Heap}
theorem scLe : FnScope ["word", "at"] ["word"] (defScope sLess) := ⟨rfl, rfl, rfl, by decide +kernel, rfl, by decide +kernel, by decide +kernel⟩
set_option maxHeartbeats 4000000 in
theorem ok_less {f : Addr} {fd : FuncData} (F : Fun K "with_one_less" "with_one_less" sLess f fd) (T : TxS mg) : FnOk P w K mg base CX0 1 f fd ["word"] (spLess K) := by
  refine F.ok scLe (fun vs H Q E h => ?_) (fun cdv A outer s H vs Q E hr h => ?_)
  · obtain ⟨pw, w, rfl, _⟩ := h
    rfl
  · obtain ⟨pw, w, rfl, hS, hw, k⟩ := h
    refine ⟨_, pss_one (ps_ret (pe_lc (own := [("at", 1)])
      (tt := tOr (tTest (tOp rEq (tVar 1) (tC (.int 0)))) (tTest (tOp rNe (tOp (rIxL K) (tVar 0) (tOp (rI0 fun i j => .int (i - j)) (tVar 1) (tC (.int 1)))) (tOp (rIxL K) (tVar 0) (tVar 1)))))
      (te := tOp (rCatL K) (tSl (rSlL K) (tVar 0) tNoPart (tPart (tVar 1))) (tSl (rSlL K) (tVar 0) (tPart (tOp (rI0 fun i j => .int (i + j)) (tVar 1) (tC (.int 1)))) tNoPart))
      rfl scLe.nd (pi_range1 rfl T.range (pa_cons (pe_callB call_len_seq rfl T.len PySem.boot_len (pa_cons (pv 0) pa_nil)) pa_nil)) (blkOk_by (by show blkC ["word", "at"] (defScope sLess) _ [("at", 1)] = true; decide +kernel)) (fun _ _ _ _ _ => pg_name (i := 1) scLe.nd rfl (Or.inl rfl))
      (fun _ _ _ _ _ => pts_one (pw_or (pt_cmpR op_eq (pv 1) pe_int (nomark _)) (pw_or1 (pt_cmpR op_ne (pe_ix ix_list (pv 0) (pe_op op_sub (pv 1) pe_int) (fun _ _ => rfl)) (pe_ix ix_list (pv 0) (pv 1) (fun _ _ => rfl)) (nomark _)))).pt)
      (fun _ _ _ _ _ => pe_op op_catL (pe_slice sl_list (pv 0) po_none (po_some (pv 1))) (pe_slice sl_list (pv 0) (po_some (pe_op op_add (pv 1) pe_int)) po_none)))), ?_⟩
    refine ⟨_, rfl, pw, _, rfl, .inl hS, _, rfl, by rw [vi_len]; omega, by rw [vi_len]; omega, fun D hD => lc_range (lo := 0) (fun i Hi => Same H Hi ∧ WL H Hi D (lessTo w i)) ⟨Same.put hD, WL.nil upd_same⟩ ?_ ?_⟩
    · rintro i Hi hi ⟨si, wi⟩
      have hi' : i < w.length := by rw [vi_len] at hi; omega
      have e0 : (0 : Int) + (i : Int) = (i : Int) := by omega
      rw [e0]
      have hx : w[i]? = some w[i] := List.getElem?_eq_getElem hi'
      have hSi := si.seq hS
      have ww : lessTo w (i + 1) = lessTo w i ++ lessAt w i := flat_succ _ _
      refine ⟨rfl, ?_⟩
      -- the test
      have test : ∀ Qb : Bool → Hp → Prop, Qb (decide (i = 0 ∨ w[i - 1]? ≠ w[i]?)) Hi → tOr (tTest (tOp rEq (tVar 1) (tC (.int 0)))) (tTest (tOp rNe (tOp (rIxL K) (tVar 0) (tOp (rI0 fun i j => .int (i - j)) (tVar 1) (tC (.int 1)))) (tOp (rIxL K) (tVar 0) (tVar 1)))) [some (.ref pw), some (.int (i : Int))] Hi Qb := by
        intro Qb hq
        refine Ev.test (Ev.eqI (ev_v rfl) ev_c) ?_
        by_cases h0 : i = 0
        · subst h0
          rw [decide_eq_true (show ((0 : Nat) : Int) = 0 by rfl)]
          refine iteT ?_
          rw [decide_eq_true (.inl rfl)] at hq
          exact hq
        · rw [decide_eq_false (show ¬ (i : Int) = 0 by omega)]
          refine iteF ?_
          have hy : w[i - 1]? = some w[i - 1] := List.getElem?_eq_getElem (by omega)
          refine Ev.test (Ev.neI (Ev.ix (ev_v rfl) (Ev.i2 (g := fun i j => .int (i - j)) (ev_v rfl) ev_c) hSi (at_cast (j := i - 1) (by omega) (vi_get hy))) (Ev.ix (ev_v rfl) (ev_v rfl) hSi (atI_nat (vi_get hx)))) ?_
          rw [ne_byte]
          have e : decide (i = 0 ∨ w[i - 1]? ≠ w[i]?) = decide (w[i - 1] ≠ w[i]) := by
            apply decide_eq_decide.mpr
            rw [hx, hy]
            simp [h0]
          rw [e] at hq
          exact hq
      refine test _ ?_
      by_cases hc : i = 0 ∨ w[i - 1]? ≠ w[i]?
      · rw [decide_eq_true hc]
        refine iteT ?_
        refine Nw.cat (Nw.to (n := (i : Int)) (ev_v rfl) hSi (ev_v rfl)) (fun H1 s1 => Nw.off (n := (i : Int) + 1) (ev_v rfl) (s1.seq hSi) (Ev.i2 (g := fun i j => .int (i + j)) (ev_v rfl) ev_c)) ?_ _ fun p H2 s2 np hp => ?_
        · refine small_of (Nat.le_trans (Nat.add_le_add (cutV_length _ _ _) (cutV_length _ _ _)) ?_)
          rw [vi_len]
          omega
        have hp' : H2 p = some (.lst (vi (wz (w.take i ++ w.drop (i + 1))))) := by
          rw [hp, cut_to, show ((i : Int) + 1) = ((i + 1 : Nat) : Int) by omega, cut_off, vi_wz_append]
        have w2 := wi.keep s2
        obtain ⟨xs, hx2, lx⟩ := w2.lst
        refine ⟨xs, hx2, by rw [lx]; exact smaller_of (by have := lessTo_le w i; omega), (si.trans s2).new hD, ?_⟩
        rw [ww, show lessAt w i = [w.take i ++ w.drop (i + 1)] by unfold lessAt; rw [if_pos hc]]
        exact w2.push hx2 (si.free np) hp' (fun e => by
          obtain ⟨ys, hy2, _⟩ := wi.lst
          rw [e, hy2] at np
          cases np)
      · rw [decide_eq_false hc]
        refine iteF ⟨si, ?_⟩
        rw [ww, show lessAt w i = [] by unfold lessAt; rw [if_neg hc], List.append_nil]
        exact wi
    · rintro Hi ⟨si, wi⟩
      refine k D Hi si hD ?_
      have e : (((vi (wz w)).length : Nat) : Int).toNat = w.length := by rw [vi_len]; rfl
      rw [e] at wi
      exact wi
end
end Sl
namespace Sl
open PySem L2 Ew
theorem change_snoc {ls : Po.Word} {j : Nat} {d : UInt8} (h : ls[j]? = some d) (w : Po.Word) (i : Nat) (x : UInt8) : changeAt (ls.take (j + 1)) w i x = changeAt (ls.take j) w i x ++ (if d = x then [] else [w.take i ++ d :: w.drop (i + 1)]) := by
  unfold changeAt
  rw [List.take_add_one, h, Option.toList_some, List.filter_append, List.map_append]
  by_cases e : d = x
  · subst e
    simp
  · simp [e]
theorem moreAt_snoc {ls : Po.Word} {j : Nat} {d : UInt8} (h : ls[j]? = some d) (w : Po.Word) (i : Nat) : moreAt (ls.take (j + 1)) w i = moreAt (ls.take j) w i ++ (if i = 0 ∨ w[i - 1]? ≠ some d then [w.take i ++ d :: w.drop i] else []) := by
  unfold moreAt
  rw [List.take_add_one, h, Option.toList_some, List.filter_append, List.map_append]
  by_cases e : i = 0 ∨ w[i - 1]? ≠ some d
  · rw [if_pos e, List.filter_cons, if_pos (by simpa using e)]
    simp
  · rw [if_neg e, List.filter_cons, if_neg (by simpa using e)]
    simp
theorem change_le (ls w : Po.Word) (i : Nat) (x : UInt8) : (changeAt ls w i x).length ≤ ls.length := by
  unfold changeAt
  rw [List.length_map]
  exact List.length_filter_le _ _
theorem moreAt_le (ls w : Po.Word) (i : Nat) : (moreAt ls w i).length ≤ ls.length := by
  unfold moreAt
  rw [List.length_map]
  exact List.length_filter_le _ _
theorem sameTo_le (ls w : Po.Word) (n : Nat) : (sameTo ls w n).length ≤ n * (ls.length + 1) := by
  induction n with
  | zero => exact Nat.zero_le _
  | succ n ih =>
    unfold sameTo at ih ⊢
    rw [flat_succ, List.length_append]
    have : (sameAt ls w n).length ≤ ls.length + 1 := by
      unfold sameAt
      split
      · rw [List.length_append]
        have h1 := change_le ls w n (by assumption)
        have h2 : ∀ x, (turnAt w n x).length ≤ 1 := fun x => by unfold turnAt; split <;> simp
        exact Nat.add_le_add h1 (h2 _)
      · simp
    rw [Nat.succ_mul]
    omega
theorem moreTo_le (ls w : Po.Word) (n : Nat) : (moreTo ls w n).length ≤ n * ls.length := by
  induction n with
  | zero => exact Nat.zero_le _
  | succ n ih =>
    unfold moreTo at ih ⊢
    rw [flat_succ, List.length_append]
    have := moreAt_le ls w n
    rw [Nat.succ_mul]
    omega
theorem mul_small {a b c : Nat} (h1 : a ≤ 101) (h2 : b ≤ 101) (h : c ≤ a * b) : c ≤ 10201 := Nat.le_trans h (Nat.le_trans (Nat.mul_le_mul h1 h2) (by decide))
theorem vi_one (x : UInt8) : [V.int (x.toNat : Int)] = vi (wz [x]) := rfl
section
variable {P : Program} {w : World} {K : PySem.W.Frag} {mg : Str → Option Value} {base : Heap}
/-- word[:at] + [letter] + word[to:] -/
theorem nw_put {pw : Addr} {w : Po.Word} {σ : St} {H : Hp} {i j : Nat} {d : UInt8} {tx ta tb td : TE} (hS : SqL K H pw (vi (wz w))) (hw : w.length ≤ 100) (ex : ∀ H, Ev tx σ H (.ref pw)) (ea : ∀ H, Ev ta σ H (.int (i : Int))) (ed : ∀ H, Ev td σ H (.int (d.toNat : Int))) (eb : ∀ H, Ev tb σ H (.int (j : Int))) :
    Nw (tOp (rCatL K) (tOp (rCatL K) (tSl (rSlL K) tx tNoPart (tPart ta)) (tLst (tCons td tNil))) (tSl (rSlL K) tx (tPart tb) tNoPart)) σ H (vi (wz (w.take i ++ d :: w.drop j))) := by
  have q := Nw.cat (K := K) (Nw.cat (K := K) (Nw.to (ex H) hS (ea H)) (fun H1 _ => Nw.one (ed H1)) (small_of (by rw [cut_to, vi_len, List.length_take]; simp only [List.length_cons, List.length_nil]; omega))) (fun H1 s1 => Nw.off (ex H1) (s1.seq hS) (eb H1))
    (small_of (by rw [cut_to, cut_off, List.length_append, vi_len, vi_len, List.length_take, List.length_drop]; simp only [List.length_cons, List.length_nil]; omega))
  rw [cut_to, cut_off, vi_one, vi_wz_append, vi_wz_append] at q
  have e : w.take i ++ [d] ++ w.drop j = w.take i ++ d :: w.drop j := by simp
  rw [e] at q
  exact q
theorem nw_turn {pw : Addr} {w : Po.Word} {σ : St} {H : Hp} {i j : Nat} {d c : UInt8} {tx ta tb td tc : TE} (hS : SqL K H pw (vi (wz w))) (hw : w.length ≤ 100) (ex : ∀ H, Ev tx σ H (.ref pw)) (ea : ∀ H, Ev ta σ H (.int (i : Int))) (ed : ∀ H, Ev td σ H (.int (d.toNat : Int))) (ec : ∀ H1, Same H H1 → Ev tc σ H1 (.int (c.toNat : Int))) (eb : ∀ H, Ev tb σ H (.int (j : Int))) :
    Nw (tOp (rCatL K) (tOp (rCatL K) (tSl (rSlL K) tx tNoPart (tPart ta)) (tLst (tCons td (tCons tc tNil)))) (tSl (rSlL K) tx (tPart tb) tNoPart)) σ H (vi (wz (w.take i ++ d :: c :: w.drop j))) := by
  have q := Nw.cat (K := K) (Nw.cat (K := K) (Nw.to (ex H) hS (ea H)) (fun H1 s1 => Nw.two (ed H1) (ec H1 s1)) (small_of (by rw [cut_to, vi_len, List.length_take]; simp only [List.length_cons, List.length_nil]; omega))) (fun H1 s1 => Nw.off (ex H1) (s1.seq hS) (eb H1))
    (small_of (by rw [cut_to, cut_off, List.length_append, vi_len, vi_len, List.length_take, List.length_drop]; simp only [List.length_cons, List.length_nil]; omega))
  have e1 : [V.int (d.toNat : Int), V.int (c.toNat : Int)] = vi (wz [d, c]) := rfl
  rw [cut_to, cut_off, e1, vi_wz_append, vi_wz_append] at q
  have e : w.take i ++ [d, c] ++ w.drop j = w.take i ++ d :: c :: w.drop j := by simp
  rw [e] at q
  exact q
theorem scMa : FnScope ["word", "letters", "found", "at", "old", "letter"] ["word", "letters"] (defScope sMany) := ⟨rfl, rfl, rfl, by decide +kernel, rfl, by decide +kernel, by decide +kernel⟩
set_option maxHeartbeats 8000000 in
theorem ok_many {f : Addr} {fd : FuncData} (F : Fun K "with_as_many" "with_as_many" sMany f fd) (T : TxS mg) : FnOk P w K mg base CX0 1 f fd ["word", "letters"] (spMany K) := by
  refine F.ok scMa (fun vs H Q E h => ?_) (fun cdv A outer s H vs Q E hr h => ?_)
  · obtain ⟨pw, pl, w, ls, rfl, _⟩ := h
    rfl
  · obtain ⟨pw, pl, w, ls, rfl, hS, hSl, hw, hls, k⟩ := h
    refine ⟨_, pss_cons (ps_set (i := 2) scMa.nd rfl (Or.inl rfl) (pe_lst pa_nil))
      (pss_cons (ps_for PassesOwn.never rfl (pi_enum rfl T.enum (pa_cons (pv 0) pa_nil)) (pg_tup rfl (pgs_cons (pg_name (i := 3) scMa.nd rfl (Or.inr rfl)) (pgs_cons (pg_name (i := 4) scMa.nd rfl (Or.inr rfl)) pgs_nil)))
        (pss_cons (ps_expr (pe_bm PySem.F.plainAttrs_list PySem.F.slot_list_extend PySem.F.type_list_extend mt_extend (pv 2) (pa_cons (pe_lc (own := [("letter", 5)]) (tt := tTest (tOp rNe (tVar 5) (tVar 4)))
          (te := tOp (rCatL K) (tOp (rCatL K) (tSl (rSlL K) (tVar 0) tNoPart (tPart (tVar 3))) (tLst (tCons (tVar 5) tNil))) (tSl (rSlL K) (tVar 0) (tPart (tOp (rI0 fun i j => .int (i + j)) (tVar 3) (tC (.int 1)))) tNoPart))
          rfl scMa.nd (pi_list (pv 1)) (blkOk_by (by show blkC ["word", "letters", "found", "at", "old", "letter"] (defScope sMany) _ [("letter", 5)] = true; decide +kernel)) (fun _ _ _ _ _ => pg_name (i := 5) scMa.nd rfl (Or.inl rfl))
          (fun _ _ _ _ _ => pts_one (pt_cmpR op_ne (pv 5) (pv 4) (nomark _)))
          (fun _ _ _ _ _ => pe_op op_catL (pe_op op_catL (pe_slice sl_list (pv 0) po_none (po_some (pv 3))) (pe_lst (pa_cons (pv 5) pa_nil))) (pe_slice sl_list (pv 0) (po_some (pe_op op_add (pv 3) pe_int)) po_none))) pa_nil)))
        (pss_one (ps_if (pw_and (pt_cmpR op_gt (pv 3) pe_int (nomark _)) (pw_and1 (pt_cmpR op_ne (pe_ix ix_list (pv 0) (pe_op op_sub (pv 3) pe_int) (fun _ _ => rfl)) (pv 4) (nomark _)))).pt
          (pss_one (ps_expr (pe_bm PySem.F.plainAttrs_list PySem.F.slot_list_append PySem.F.type_list_append mt_append (pv 2) (pa_cons (pe_op op_catL (pe_op op_catL (pe_slice sl_list (pv 0) po_none (po_some (pe_op op_sub (pv 3) pe_int))) (pe_lst (pa_cons (pv 4) (pa_cons (pe_ix ix_list (pv 0) (pe_op op_sub (pv 3) pe_int) (fun _ _ => rfl)) pa_nil)))) (pe_slice sl_list (pv 0) (po_some (pe_op op_add (pv 3) pe_int)) po_none)) pa_nil)))) pss_nil))))
      (pss_one (ps_ret (pv 2)))), ?_⟩
    refine ⟨(by show 0 ≤ sizeLine; decide), fun fo hfo => ?_⟩
    have s0 : Same H (upd H fo (.lst [])) := Same.put hfo
    refine ⟨_, rfl, pw, _, rfl, s0.seq hS, for_enum (K := K) (a := pw) (xs := vi (wz w)) (fun i σ H2 => ∃ v3 v4 : Option V, σ = [some (.ref pw), some (.ref pl), some (.ref fo), v3, v4, none] ∧ Same H H2 ∧ WL H H2 fo (sameTo ls w i))
      ⟨none, none, rfl, s0, WL.nil upd_same⟩ (fun i σ H2 _ ⟨_, _, _, s2, _⟩ => s2.seq hS) ?_ ?_⟩
    · rintro i y σ H2 Tu hi ⟨v3, v4, rfl, s2, wl2⟩ hTu
      obtain ⟨x, hx, rfl⟩ := wz_at hi
      have hil : i < w.length := (List.getElem?_eq_some_iff.mp hx).1
      refine g_pair ?_
      have s3' : Same H2 (upd H2 Tu (.tup [.int (i : Nat), .int (x.toNat : Int)])) := Same.put hTu
      have s3 := s2.trans s3'
      have wl3 := wl2.keep s3'
      generalize upd H2 Tu (.tup [.int (i : Nat), .int (x.toNat : Int)]) = H3 at s3 wl3
      have hS3 := s3.seq hS
      have hSl3 := s3.seq hSl
      have ww : sameTo ls w (i + 1) = sameTo ls w i ++ (changeAt ls w i x ++ turnAt w i x) := by
        unfold sameTo
        rw [flat_succ]
        congr 1
        unfold sameAt
        rw [hx]
      have hle := sameTo_le ls w i
      have hle' : (sameTo ls w i).length ≤ 10201 := mul_small (by omega) (by omega) hle
      obtain ⟨xs3, hfo3, lx3⟩ := wl3.lst
      -- found.extend([..])
      refine ⟨_, rfl, ty_list hfo3, _, rfl, pl, rfl, ⟨_, hSl3⟩, fun D hD => lc_list (K := K) (a := pl) (xs := vi (wz ls)) (fun j Hj => Same H3 Hj ∧ WL H3 Hj D (changeAt (ls.take j) w i x)) ⟨Same.put hD, WL.nil upd_same⟩ (fun j Hj _ q => q.1.seq hSl3) ?_ ?_⟩
      · rintro j y Hj hj ⟨sj, wj⟩
        obtain ⟨d, hd, rfl⟩ := wz_at hj
        have hjl : j < ls.length := (List.getElem?_eq_some_iff.mp hd).1
        refine ⟨rfl, ?_⟩
        refine Ev.test (Ev.neI (ev_v rfl) (ev_v rfl)) ?_
        rw [ne_byte]
        by_cases e : d = x
        · rw [decide_eq_false (fun z => z e)]
          refine iteF ⟨sj, ?_⟩
          rw [change_snoc hd, if_pos e, List.append_nil]
          exact wj
        · rw [decide_eq_true e]
          refine iteT ?_
          refine nw_put (i := i) (j := i + 1) (d := d) (sj.seq hS3) hw (fun _ => ev_v rfl) (fun _ => ev_v rfl) (fun _ => ev_v rfl) (fun _ => Ev.cast (x := (i : Int) + 1) (by omega) (Ev.i2 (g := fun i j => .int (i + j)) (ev_v rfl) ev_c)) _ fun p H4 s4 np hp => ?_
          have w4 := wj.keep s4
          obtain ⟨xs, hx4, lx⟩ := w4.lst
          have hcl := change_le (ls.take j) w i x
          rw [List.length_take] at hcl
          refine ⟨xs, hx4, by rw [lx]; exact smaller_of (by omega), (sj.trans s4).new hD, ?_⟩
          rw [change_snoc hd, if_neg e]
          exact w4.push hx4 (sj.free np) hp (fun z => by
            obtain ⟨ys, hy4, _⟩ := wj.lst
            rw [z, hy4] at np
            cases np)
      · rintro Hj ⟨sj, wj⟩
        rw [vi_len, List.take_length] at wj
        have wl4 := wl3.keep sj
        obtain ⟨xs, hx4, lx⟩ := wl4.lst
        obtain ⟨zs, hz4, lz⟩ := wj.lst
        have hcl := change_le ls w i x
        refine ⟨fo, D, xs, zs, rfl, rfl, hx4, hz4, small_of (by omega), ?_⟩
        have wl5 := wl4.extend wj s3 ⟨_, hfo3⟩ hx4 hz4
        have s5 : Same H (upd Hj fo (.lst (xs ++ zs))) := (s3.trans sj).new hfo
        generalize upd Hj fo (.lst (xs ++ zs)) = H5 at wl5 s5
        have hS5 := s5.seq hS
        -- if at > 0 and word[at - 1] != old
        refine Ev.test (Ev.i2 (σ := [some (.ref pw), some (.ref pl), some (.ref fo), some (.int (i : Nat)), some (.int (x.toNat : Int)), none]) (g := fun i j => .bl (decide (j < i))) (ta := tVar 3) (tb := tC (.int 0)) (x := (i : Int)) (y := 0) (ev_v rfl) ev_c) ?_
        by_cases h0 : i = 0
        · subst h0
          rw [decide_eq_false (show ¬ (0 : Int) < ((0 : Nat) : Int) by decide)]
          refine iteF (iteF ⟨_, _, rfl, s5, ?_⟩)
          rw [ww, show turnAt w 0 x = [] by unfold turnAt; rw [if_pos (.inl rfl)], List.append_nil]
          exact wl5
        · rw [decide_eq_true (show (0 : Int) < (i : Int) by omega)]
          have hy : w[i - 1]? = some w[i - 1] := List.getElem?_eq_getElem (by omega)
          refine iteT (Ev.test (Ev.neI (Ev.ix (ev_v rfl) (Ev.i2 (g := fun i j => .int (i - j)) (ev_v rfl) ev_c) hS5 (at_cast (j := i - 1) (by omega) (vi_get hy))) (ev_v rfl)) ?_)
          rw [ne_byte]
          by_cases e : w[i - 1] = x
          · rw [decide_eq_false (fun z => z e)]
            refine iteF ⟨_, _, rfl, s5, ?_⟩
            rw [ww, show turnAt w i x = [] by unfold turnAt; rw [if_pos (.inr (by rw [hy, e]))], List.append_nil]
            exact wl5
          · rw [decide_eq_true e]
            refine iteT ?_
            obtain ⟨xs5, hfo5, lx5⟩ := wl5.lst
            refine ⟨_, rfl, ty_list hfo5, nw_turn (i := i - 1) (j := i + 1) (d := x) (c := w[i - 1]) hS5 hw (fun _ => ev_v rfl) (fun H1 => ?_) (fun _ => ev_v rfl) (fun H1 s1 => ?_) (fun _ => Ev.cast (x := (i : Int) + 1) (by omega) (Ev.i2 (g := fun i j => .int (i + j)) (ev_v rfl) ev_c)) _ fun p H6 s6 np hp => ?_⟩
            · have q : Ev (tOp (rI0 fun i j => .int (i - j)) (tVar 3) (tC (.int 1))) [some (.ref pw), some (.ref pl), some (.ref fo), some (.int (i : Nat)), some (.int (x.toNat : Int)), none] H1 (.int ((i : Int) - 1)) := Ev.i2 (g := fun i j => .int (i - j)) (ev_v rfl) ev_c
              rw [show ((i : Int) - 1) = ((i - 1 : Nat) : Int) by omega] at q
              exact q
            · exact Ev.ix (ev_v rfl) (Ev.i2 (g := fun i j => .int (i - j)) (ev_v rfl) ev_c) (s1.seq hS5) (at_cast (j := i - 1) (by omega) (vi_get hy))
            · have wl6 := wl5.keep s6
              have hfo6 := s6 _ _ hfo5
              rw [List.length_append] at lx5
              refine ⟨fo, xs5, _, rfl, rfl, hfo6, smaller_of (by omega), _, _, rfl, (s5.trans s6).new hfo, ?_⟩
              rw [ww, show turnAt w i x = [w.take (i - 1) ++ x :: w[i - 1] :: w.drop (i + 1)] by
                unfold turnAt
                rw [if_neg (by rintro (z | z); · exact h0 z
                               · rw [hy] at z; exact e (Option.some.inj z)), hy]
                rfl, ← List.append_assoc]
              exact wl6.push hfo6 (s5.free np) hp (fun z => by rw [z, hfo5] at np; cases np)
    · rintro σ H2 ⟨v3, v4, rfl, s2, wl2⟩
      rw [vi_len] at wl2
      exact ⟨_, rfl, k fo H2 s2 hfo wl2⟩
theorem scMo : FnScope ["word", "letters", "found", "at", "letter"] ["word", "letters"] (defScope sMore) := ⟨rfl, rfl, rfl, by decide +kernel, rfl, by decide +kernel, by decide +kernel⟩
set_option maxHeartbeats 8000000 in
theorem ok_more {f : Addr} {fd : FuncData} (F : Fun K "with_one_more" "with_one_more" sMore f fd) (T : TxS mg) : FnOk P w K mg base CX0 1 f fd ["word", "letters"] (spMore K) := by
  refine F.ok scMo (fun vs H Q E h => ?_) (fun cdv A outer s H vs Q E hr h => ?_)
  · obtain ⟨pw, pl, w, ls, rfl, _⟩ := h
    rfl
  · obtain ⟨pw, pl, w, ls, rfl, hS, hSl, hw, hls, k⟩ := h
    refine ⟨_, pss_cons (ps_set (i := 2) scMo.nd rfl (Or.inl rfl) (pe_lst pa_nil))
      (pss_cons (ps_for PassesOwn.never rfl (pi_range1 rfl T.range (pa_cons (pe_op op_add (pe_callB call_len_seq rfl T.len PySem.boot_len (pa_cons (pv 0) pa_nil)) pe_int) pa_nil)) (pg_name (i := 3) scMo.nd rfl (Or.inr rfl))
        (pss_one (ps_expr (pe_bm PySem.F.plainAttrs_list PySem.F.slot_list_extend PySem.F.type_list_extend mt_extend (pv 2) (pa_cons (pe_lc (own := [("letter", 4)])
          (tt := tOr (tTest (tOp rEq (tVar 3) (tC (.int 0)))) (tTest (tOp rNe (tOp (rIxL K) (tVar 0) (tOp (rI0 fun i j => .int (i - j)) (tVar 3) (tC (.int 1)))) (tVar 4))))
          (te := tOp (rCatL K) (tOp (rCatL K) (tSl (rSlL K) (tVar 0) tNoPart (tPart (tVar 3))) (tLst (tCons (tVar 4) tNil))) (tSl (rSlL K) (tVar 0) (tPart (tVar 3)) tNoPart))
          rfl scMo.nd (pi_list (pv 1)) (blkOk_by (by show blkC ["word", "letters", "found", "at", "letter"] (defScope sMore) _ [("letter", 4)] = true; decide +kernel)) (fun _ _ _ _ _ => pg_name (i := 4) scMo.nd rfl (Or.inl rfl))
          (fun _ _ _ _ _ => pts_one (pw_or (pt_cmpR op_eq (pv 3) pe_int (nomark _)) (pw_or1 (pt_cmpR op_ne (pe_ix ix_list (pv 0) (pe_op op_sub (pv 3) pe_int) (fun _ _ => rfl)) (pv 4) (nomark _)))).pt)
          (fun _ _ _ _ _ => pe_op op_catL (pe_op op_catL (pe_slice sl_list (pv 0) po_none (po_some (pv 3))) (pe_lst (pa_cons (pv 4) pa_nil))) (pe_slice sl_list (pv 0) (po_some (pv 3)) po_none))) pa_nil)))))
      (pss_one (ps_ret (pv 2)))), ?_⟩
    refine ⟨(by show 0 ≤ sizeLine; decide), fun fo hfo => ?_⟩
    have s0 : Same H (upd H fo (.lst [])) := Same.put hfo
    have en : ((((vi (wz w)).length : Nat) : Int) + 1).toNat = w.length + 1 := by rw [vi_len]; omega
    refine ⟨_, rfl, pw, _, rfl, .inl (s0.seq hS), _, _, rfl, rfl, _, rfl, by rw [vi_len]; omega, by rw [vi_len]; omega, for_range (fun i σ H2 => ∃ v3 : Option V, σ = [some (.ref pw), some (.ref pl), some (.ref fo), v3, none] ∧ Same H H2 ∧ WL H H2 fo (moreTo ls w i))
      ⟨none, rfl, s0, WL.nil upd_same⟩ ?_ ?_⟩
    · rintro i σ H2 hi ⟨v3, rfl, s2, wl2⟩
      rw [en] at hi
      have e0 : (0 : Int) + (i : Int) = (i : Int) := by omega
      rw [e0]
      have hS2 := s2.seq hS
      have hSl2 := s2.seq hSl
      have ww : moreTo ls w (i + 1) = moreTo ls w i ++ moreAt ls w i := flat_succ _ _
      have hle' : (moreTo ls w i).length ≤ 10201 := mul_small (by omega) (by omega) (moreTo_le ls w i)
      obtain ⟨xs2, hfo2, lx2⟩ := wl2.lst
      refine ⟨_, rfl, ty_list hfo2, _, rfl, pl, rfl, ⟨_, hSl2⟩, fun D hD => lc_list (K := K) (a := pl) (xs := vi (wz ls)) (fun j Hj => Same H2 Hj ∧ WL H2 Hj D (moreAt (ls.take j) w i)) ⟨Same.put hD, WL.nil upd_same⟩ (fun j Hj _ q => q.1.seq hSl2) ?_ ?_⟩
      · rintro j y Hj hj ⟨sj, wj⟩
        obtain ⟨d, hd, rfl⟩ := wz_at hj
        have hjl : j < ls.length := (List.getElem?_eq_some_iff.mp hd).1
        have hSj := sj.seq hS2
        refine ⟨rfl, ?_⟩
        have test : ∀ Qb : Bool → Hp → Prop, Qb (decide (i = 0 ∨ w[i - 1]? ≠ some d)) Hj → tOr (tTest (tOp rEq (tVar 3) (tC (.int 0)))) (tTest (tOp rNe (tOp (rIxL K) (tVar 0) (tOp (rI0 fun i j => .int (i - j)) (tVar 3) (tC (.int 1)))) (tVar 4))) [some (.ref pw), some (.ref pl), some (.ref fo), some (.int (i : Int)), some (.int (d.toNat : Int))] Hj Qb := by
          intro Qb hq
          refine Ev.test (Ev.eqI (ev_v rfl) ev_c) ?_
          by_cases h0 : i = 0
          · subst h0
            rw [decide_eq_true (show ((0 : Nat) : Int) = 0 by rfl)]
            refine iteT ?_
            rw [decide_eq_true (.inl rfl)] at hq
            exact hq
          · rw [decide_eq_false (show ¬ (i : Int) = 0 by omega)]
            refine iteF ?_
            have hy : w[i - 1]? = some w[i - 1] := List.getElem?_eq_getElem (by omega)
            refine Ev.test (Ev.neI (Ev.ix (ev_v rfl) (Ev.i2 (g := fun i j => .int (i - j)) (ev_v rfl) ev_c) hSj (at_cast (j := i - 1) (by omega) (vi_get hy))) (ev_v rfl)) ?_
            rw [ne_byte]
            have e : decide (i = 0 ∨ w[i - 1]? ≠ some d) = decide (w[i - 1] ≠ d) := by
              apply decide_eq_decide.mpr
              rw [hy]
              simp [h0]
            rw [e] at hq
            exact hq
        refine test _ ?_
        by_cases hc : i = 0 ∨ w[i - 1]? ≠ some d
        · rw [decide_eq_true hc]
          refine iteT ?_
          refine nw_put (i := i) (j := i) (d := d) hSj hw (fun _ => ev_v rfl) (fun _ => ev_v rfl) (fun _ => ev_v rfl) (fun _ => ev_v rfl) _ fun p H4 s4 np hp => ?_
          have w4 := wj.keep s4
          obtain ⟨xs, hx4, lx⟩ := w4.lst
          have hcl := moreAt_le (ls.take j) w i
          rw [List.length_take] at hcl
          refine ⟨xs, hx4, by rw [lx]; exact smaller_of (by omega), (sj.trans s4).new hD, ?_⟩
          rw [moreAt_snoc hd, if_pos hc]
          exact w4.push hx4 (sj.free np) hp (fun z => by
            obtain ⟨ys, hy4, _⟩ := wj.lst
            rw [z, hy4] at np
            cases np)
        · rw [decide_eq_false hc]
          refine iteF ⟨sj, ?_⟩
          rw [moreAt_snoc hd, if_neg hc, List.append_nil]
          exact wj
      · rintro Hj ⟨sj, wj⟩
        rw [vi_len, List.take_length] at wj
        have wl4 := wl2.keep sj
        obtain ⟨xs, hx4, lx⟩ := wl4.lst
        obtain ⟨zs, hz4, lz⟩ := wj.lst
        have hcl := moreAt_le ls w i
        refine ⟨fo, D, xs, zs, rfl, rfl, hx4, hz4, small_of (by omega), _, rfl, (s2.trans sj).new hfo, ?_⟩
        rw [ww]
        exact wl4.extend wj s2 ⟨_, hfo2⟩ hx4 hz4
    · rintro σ H2 ⟨v3, rfl, s2, wl2⟩
      rw [en] at wl2
      exact ⟨_, rfl, k fo H2 s2 hfo wl2⟩
end
end Sl
namespace Sl
open PySem L2 Ew
abbrev sNext : Stmt := top 14
abbrev sAway : Stmt := top 15
abbrev sChain : Stmt := top 9
/-! ### in order -/
theorem lex_bytes : ∀ {u v : Po.Word}, u.length = v.length → PyProof.Rows.lexLt PyProof.Rows.itemOrd (inls (wz u)) (inls (wz v)) = Po.lessBytes u v
  | [], [], _ => rfl
  | [], _ :: _, h => by simp at h
  | _ :: _, [], h => by simp at h
  | x :: u, y :: v, h => by
    have ih := lex_bytes (u := u) (v := v) (by simpa using h)
    show PyProof.Rows.lexLt PyProof.Rows.itemOrd (Sum.inl (x.toNat : Int) :: inls (wz u)) (Sum.inl (y.toNat : Int) :: inls (wz v)) = _
    rw [PyProof.Rows.lex_cons, ih]
    show (decide ((x.toNat : Int) < (y.toNat : Int)) || (!decide ((y.toNat : Int) < (x.toNat : Int)) && Po.lessBytes u v)) = (decide (x < y) || (x == y && Po.lessBytes u v))
    have e1 : decide ((x.toNat : Int) < (y.toNat : Int)) = decide (x < y) := by
      apply decide_eq_decide.mpr
      rw [UInt8.lt_iff_toNat_lt]
      omega
    rw [e1]
    by_cases h1 : x < y
    · rw [decide_eq_true h1]
      rfl
    · rw [decide_eq_false h1, Bool.false_or, Bool.false_or]
      congr 1
      by_cases h2 : x = y
      · subst h2
        simp
      · have h3 : y < x := by
          rw [UInt8.lt_iff_toNat_lt]
          rw [UInt8.lt_iff_toNat_lt] at h1
          have : x.toNat ≠ y.toNat := fun z => h2 (UInt8.toNat_inj.mp z)
          omega
        have h3' : (y.toNat : Int) < (x.toNat : Int) := by
          have := UInt8.lt_iff_toNat_lt.mp h3
          omega
        rw [decide_eq_true h3', beq_eq_false_iff_ne.mpr h2]
        rfl
abbrev RL (B H : Hp) (rs : List Addr) (ws : List Po.Word) : Prop := Paired (fun (r : Addr) (u : Po.Word) => B r = none ∧ H r = some (.lst (vi (wz u)))) rs ws
theorem RL.keep {B H H' : Hp} {rs : List Addr} {ws : List Po.Word} (h : RL B H rs ws) (s : Same H H') : RL B H' rs ws := pair_mono h fun _ _ _ q => ⟨q.1, s _ _ q.2⟩
theorem RL.back {B B' H : Hp} {rs : List Addr} {ws : List Po.Word} (h : RL B H rs ws) (s : Same B' B) : RL B' H rs ws := pair_mono h fun _ _ _ q => ⟨s.free q.1, q.2⟩
theorem pair_perm {α β : Type} {F : α → β → Prop} {rs' rs : List α} (h : rs'.Perm rs) : ∀ {ws : List β}, Paired F rs ws → ∃ ws' : List β, ws'.Perm ws ∧ Paired F rs' ws' := by
  induction h with
  | nil => intro ws q; cases q; exact ⟨[], .refl _, .nil⟩
  | cons x _ ih =>
    intro ws q
    cases q with
    | cons q t =>
      obtain ⟨ws', h1, h2⟩ := ih t
      exact ⟨_ :: ws', h1.cons _, .cons q h2⟩
  | swap x y l =>
    intro ws q
    cases q with
    | cons q1 t =>
      cases t with
      | cons q2 t => exact ⟨_ :: _ :: _, .swap .., .cons q2 (.cons q1 t)⟩
  | trans _ _ ih1 ih2 =>
    intro ws q
    obtain ⟨ws2, h1, h2⟩ := ih2 q
    obtain ⟨ws3, h3, h4⟩ := ih1 h2
    exact ⟨ws3, h3.trans h1, h4⟩
theorem pair_get {α β : Type} {F : α → β → Prop} : ∀ {xs : List α} {ys : List β}, Paired F xs ys → ∀ (j : Nat) (y : β), ys[j]? = some y → ∃ x, xs[j]? = some x ∧ F x y
  | _, _, .nil, j, y, h => by simp at h
  | _, _, .cons q t, 0, y, h => by
    have e := Option.some.inj h
    subst e
    exact ⟨_, rfl, q⟩
  | _, _, .cons q t, j + 1, y, h => pair_get t j y h
section
variable {P : Program} {w : World} {K : PySem.W.Frag} {mg : Str → Option Value} {base : Heap}
/-- sorted(a call that gathers words of one length) -/
theorem sorted_words {tcall : TE} {σ : St} {H : Hp} {L : List Po.Word} {n : Nat} (hc : ∀ R : VK, (∀ (p : Addr) (H' : Hp), Same H H' → H p = none → WL H H' p L → R (.ref p) H') → tcall σ H R) (hn : ∀ u ∈ L, u.length = n) :
    ∀ R : VK, (∀ (q : Addr) (H' : Hp) (rs : List Addr) (ws : List Po.Word), Same H H' → H q = none → H' q = some (.lst (rs.map V.ref)) → RL H H' rs ws → ws.Perm L → Weak ws → R (.ref q) H') → tCB (rSortedL K) (tCons tcall tNil) σ H R := by
  intro R r
  refine hc _ fun p H1 s1 np wl => ?_
  obtain ⟨rs, h1, h2, h3⟩ := wl
  refine ⟨p, rs, rfl, SqL.of h1, fun a ha => ?_, fun q rs' hp hs nq => ?_⟩
  · obtain ⟨u, _, _, e⟩ := pair_mem h3 a ha
    exact ⟨wz u, SqL.of e⟩
  · obtain ⟨ws, hw, h4⟩ := pair_perm hp h3
    refine r q _ rs' ws (s1.trans (Same.put nq)) (s1.free nq) upd_same (RL.keep h4 (Same.put nq)) hw ?_
    rw [Weak, List.pairwise_iff_getElem]
    intro i j hi hj hij
    have ei : ws[i]? = some ws[i] := List.getElem?_eq_getElem hi
    have ej : ws[j]? = some ws[j] := List.getElem?_eq_getElem hj
    obtain ⟨a, ha, _, ha2⟩ := pair_get h4 i _ ei
    obtain ⟨b, hb, _, hb2⟩ := pair_get h4 j _ ej
    have z := hs i j a b (wz ws[i]) (wz ws[j]) (by omega) ha hb (SqL.of ha2) (SqL.of hb2)
    have l1 := hn _ (hw.mem_iff.mp (List.getElem_mem hi))
    have l2 := hn _ (hw.mem_iff.mp (List.getElem_mem hj))
    rw [before_same (by omega), ← lex_bytes (by omega)]
    exact z
def spAway (K : PySem.W.Frag) : Sp := fun vs H Q _ => ∃ (pw pl : Addr) (w ls : Po.Word), vs = [.ref pw, .ref pl] ∧ SqL K H pw (vi (wz w)) ∧ SqL K H pl (vi (wz ls)) ∧ w.length ≤ 100 ∧ ls.length ≤ 100 ∧
  ∀ (p : Addr) (H' : Hp) (rs : List Addr) (os : List Po.Word), Same H H' → H p = none → H' p = some (.lst (rs.map V.ref)) → RL H H' rs os → (∀ u, u ∈ os ↔ u ∈ Po.slipped ls w) → Weak os → Q (.ref p) H'
theorem scAw : FnScope ["word", "letters"] ["word", "letters"] (defScope sAway) := ⟨rfl, rfl, rfl, by decide +kernel, rfl, by decide +kernel, by decide +kernel⟩
set_option maxHeartbeats 4000000 in
theorem ok_away {f : Addr} {fd : FuncData} (F : Fun K "one_slip_away" "one_slip_away" sAway f fd) (hso : mg "sorted" = none) (DL : Def P w K mg base "with_one_less" 1 ["word"] (spLess K)) (DM : Def P w K mg base "with_as_many" 1 ["word", "letters"] (spMany K))
    (DO : Def P w K mg base "with_one_more" 1 ["word", "letters"] (spMore K)) : FnOk P w K mg base CX0 2 f fd ["word", "letters"] (spAway K) := by
  refine F.ok scAw (fun vs H Q E h => ?_) (fun cdv A outer s H vs Q E hr h => ?_)
  · obtain ⟨pw, pl, w, ls, rfl, _⟩ := h
    rfl
  · obtain ⟨pw, pl, w, ls, rfl, hS, hSl, hw, hls, k⟩ := h
    have hr1 : Room 1 _ := hr.mono (by decide)
    have hu : _ + 8 < cLine := Nat.lt_of_le_of_lt (Nat.add_le_add_left (by decide : 8 ≤ 64) _) hr.units
    refine ⟨_, pss_one (ps_ret (pe_op op_catL (pe_op op_catL (pe_callB (cr_sortedL hu) rfl hso PyProof.Rows.boot_sorted (pa_cons (DL.call hr1 (pa_cons (pv 0) pa_nil)) pa_nil)) (pe_callB (cr_sortedL hu) rfl hso PyProof.Rows.boot_sorted (pa_cons (DM.call hr1 (pa_cons (pv 0) (pa_cons (pv 1) pa_nil))) pa_nil)))
      (pe_callB (cr_sortedL hu) rfl hso PyProof.Rows.boot_sorted (pa_cons (DO.call hr1 (pa_cons (pv 0) (pa_cons (pv 1) pa_nil))) pa_nil)))), ?_⟩
    have h1 := lessTo_le w w.length
    have h2 : (sameTo ls w w.length).length ≤ 10201 := mul_small (by omega) (by omega) (sameTo_le ls w w.length)
    have h3 : (moreTo ls w (w.length + 1)).length ≤ 10201 := mul_small (by omega) (by omega) (moreTo_le ls w (w.length + 1))
    refine sorted_words (K := K) (n := w.length - 1) (fun R r => ⟨_, rfl, pw, w, rfl, hS, hw, r⟩) (fun u hu => by have := less_len (Nat.le_refl _) hu; omega) _ fun q1 H1 rs1 ws1 s1 n1 g1 l1 p1 k1 => ?_
    refine sorted_words (K := K) (n := w.length) (fun R r => ⟨_, rfl, _, rfl, pw, pl, w, ls, rfl, s1.seq hS, s1.seq hSl, hw, hls, r⟩) (fun u hu => same_len hu) _ fun q2 H2 rs2 ws2 s2 n2 g2 l2 p2 k2 => ?_
    have e1 := l1.length
    have e2 := l2.length
    have f1 := p1.length_eq
    have f2 := p2.length_eq
    refine ⟨q1, q2, _, _, rfl, rfl, SqL.of (s2 _ _ g1), SqL.of g2, by rw [List.length_map, List.length_map]; exact small_of (by omega), fun c1 nc1 => ?_⟩
    have s3 : Same H2 (upd H2 c1 (.lst (rs1.map V.ref ++ rs2.map V.ref))) := Same.put nc1
    have hc1 : (upd H2 c1 (.lst (rs1.map V.ref ++ rs2.map V.ref))) c1 = some (.lst ((rs1 ++ rs2).map V.ref)) := by rw [upd_same, List.map_append]
    generalize upd H2 c1 (.lst (rs1.map V.ref ++ rs2.map V.ref)) = H3 at s3 hc1
    have s13 := s1.trans (s2.trans s3)
    refine sorted_words (K := K) (n := w.length + 1) (fun R r => ⟨_, rfl, _, rfl, pw, pl, w, ls, rfl, s13.seq hS, s13.seq hSl, hw, hls, r⟩) (fun u hu => more_len (Nat.le_refl _) hu) _ fun q3 H4 rs3 ws3 s4 n4 g4 l4 p3 k3 => ?_
    have e3 := l4.length
    have f3 := p3.length_eq
    refine ⟨c1, q3, _, _, rfl, rfl, SqL.of (s4 _ _ hc1), SqL.of g4, by rw [List.length_map, List.length_map, List.length_append]; exact small_of (by omega), fun c2 nc2 => ?_⟩
    have s5 : Same H4 (upd H4 c2 (.lst ((rs1 ++ rs2).map V.ref ++ rs3.map V.ref))) := Same.put nc2
    have s14 := s13.trans s4
    refine k c2 _ (rs1 ++ rs2 ++ rs3) (ws1 ++ ws2 ++ ws3) (s14.trans s5) (s14.free nc2) (by rw [upd_same, ← List.map_append]) ?_ (fun u => three_mem p1 p2 p3) (three_weak p1 p2 p3 k1 k2 k3)
    refine pair_app (pair_app (RL.keep l1 (s2.trans (s3.trans (s4.trans s5)))) (RL.back (RL.keep l2 (s3.trans (s4.trans s5))) s1)) (RL.back (RL.keep l4 s5) s13)
end
end Sl
namespace L2
open PySem PySem.Spec PyProof.Rows
/-- what is asked of set(list) and of sorted(set) -/
structure SetRules (w : World) (SO : Addr → List Int → HO) : Prop where
  set : ∀ X : Cx, X.w = w → X.calm = true → CallR X (.type "set") (fun xs H Q => ∃ (a : Addr) (ns : List Int), xs = [.ref a] ∧ SqL X.K H a (ns.map V.int) ∧ ns.length ≤ 1000 ∧ ∀ p, H p = none → Q (.ref p) (upd H p (SO p ns)))
  srt : ∀ X : Cx, X.w = w → X.calm = true → CallR X (.builtin "sorted") (fun xs H Q => ∃ (p : Addr) (ns : List Int), xs = [.ref p] ∧ H p = some (SO p ns) ∧ ∀ (q : Addr) (ls : List Int), ls.Pairwise (· ≤ ·) → (∀ z, z ∈ ls ↔ z ∈ ns) → ls.length ≤ ns.length → H q = none → Q (.ref q) (upd H q (.lst (ls.map V.int))))
theorem first_ex {p : Nat → Prop} [DecidablePred p] (h : ∃ n, p n) : ∃ n, p n ∧ ∀ m, m < n → ¬ p m := by
  obtain ⟨n, hn⟩ := h
  induction n using Nat.strongRecOn with
  | _ n ih =>
    by_cases q : ∃ m, m < n ∧ p m
    · obtain ⟨m, hm, hp⟩ := q
      exact ih m hm hp
    · exact ⟨n, hn, fun m hm hp => q ⟨m, hm, hp⟩⟩
end L2
namespace Sl
open PySem L2 Ew
def spNext (K : PySem.W.Frag) : Sp := fun vs H Q _ => ∃ (pw pg : Addr) (w g : Po.Word) (n : Nat), vs = [.ref pw, .ref pg, .int (n : Int)] ∧ SqL K H pw (vi (wz w)) ∧ SqL K H pg (vi (wz g)) ∧ w.length ≤ 90 ∧ g.length ≤ 90 ∧ Po.apartOf w g = n + 1 ∧
  ∀ (p : Addr) (H' : Hp), Same H H' → H p = none → H' p = some (.lst (vi (wz (Po.nextOf g n w)))) → Q (.ref p) H'
theorem slip_le {ls w u : Po.Word} (h : u ∈ Po.slipped ls w) : u.length ≤ w.length + 1 := by
  unfold Po.slipped at h
  rw [List.mem_append, List.mem_append, List.mem_append] at h
  rcases h with h | h | h | h
  · obtain ⟨i, hi, rfl⟩ := taken_mem.mp h
    rw [List.length_append, List.length_take, List.length_drop]
    omega
  · obtain ⟨i, d, hi, _, rfl⟩ := put_mem.mp h
    rw [List.length_append, List.length_cons, List.length_take, List.length_drop]
    omega
  · obtain ⟨i, d, x, hi, _, _, rfl⟩ := changed_mem.mp h
    have := (List.getElem?_eq_some_iff.mp hi).1
    rw [List.length_append, List.length_cons, List.length_take, List.length_drop]
    omega
  · obtain ⟨i, x, y, h1, h2, _, rfl⟩ := exchanged_mem.mp h
    have := (List.getElem?_eq_some_iff.mp h2).1
    rw [List.length_append, List.length_cons, List.length_cons, List.length_take, List.length_drop]
    omega
section
variable {P : Program} {w : World} {K : PySem.W.Frag} {mg : Str → Option Value} {base : Heap} {SO : Addr → List Int → HO}
theorem scNx : FnScope ["word", "goal", "left", "others", "at"] ["word", "goal", "left"] (defScope sNext) := ⟨rfl, rfl, rfl, by decide +kernel, rfl, by decide +kernel, by decide +kernel⟩
set_option maxHeartbeats 4000000 in
theorem ok_next {f : Addr} {fd : FuncData} (SR : SetRules w SO) (F : Fun K "next_in_chain" "next_in_chain" sNext f fd) (hso : mg "sorted" = none) (hse : mg "set" = none) (DA : Def P w K mg base "one_slip_away" 2 ["word", "letters"] (spAway K)) (DS : Def P w K mg base "slips_between" 2 ["a", "b"] (spSlips K)) :
    FnOk P w K mg base CX0 3 f fd ["word", "goal", "left"] (spNext K) := by
  refine F.ok scNx (fun vs H Q E h => ?_) (fun cdv A outer s H vs Q E hr h => ?_)
  · obtain ⟨pw, pg, w, g, n, rfl, _⟩ := h
    rfl
  · obtain ⟨pw, pg, w, g, n, rfl, hS, hG, hw, hg, hn, k⟩ := h
    have hr2 : Room 2 _ := hr.mono (by decide)
    refine ⟨_, pss_cons (ps_set (i := 3) scNx.nd rfl (Or.inl rfl) (DA.call hr2 (pa_cons (pv 0) (pa_cons (pe_callB (SR.srt _ rfl rfl) rfl hso PyProof.Rows.boot_sorted (pa_cons (pe_callTy (SR.set _ rfl rfl) rfl hse PyProof.Rows.boot_set (pa_cons (pv 1) pa_nil)) pa_nil)) pa_nil))))
      (pss_cons (ps_set (i := 4) scNx.nd rfl (Or.inl rfl) pe_int)
      (pss_cons (ps_while PassesOwn.never (pt_cmpR op_ne (DS.call hr2 (pa_cons (pe_ix ix_list (pv 3) (pv 4) (fun _ _ => rfl)) (pa_cons (pv 1) pa_nil))) (pv 2) (nomark _)) (pss_one (ps_aug (i := 4) scNx.nd rfl (Or.inl rfl) pe_int ip_add)))
      (pss_one (ps_ret (pe_ix ix_list (pv 3) (pv 4) (fun _ _ => rfl)))))), ?_⟩
    -- others = one_slip_away(word, sorted(set(goal)))
    refine ⟨_, rfl, _, rfl, pg, wz g, rfl, hG, by rw [wz_len]; omega, fun ps hps => ⟨ps, wz g, rfl, upd_same, fun pl zs hz1 hz2 hz3 hpl => ?_⟩⟩
    have s1 : Same H (upd (upd H ps (SO ps (wz g))) pl (.lst (vi zs))) := (Same.put hps).trans (Same.put hpl)
    have hl1 : (upd (upd H ps (SO ps (wz g))) pl (.lst (vi zs))) pl = some (.lst (vi zs)) := upd_same
    generalize upd (upd H ps (SO ps (wz g))) pl (.lst (vi zs)) = H1 at s1 hl1
    have bz : IsBytes zs := fun z hz => wz_isBytes g z ((hz2 z).mp hz)
    have ez : wz (WqatckNeutral.bytes zs) = zs := wz_bytes bz
    have hl : ∀ x ∈ g, x ∈ WqatckNeutral.bytes zs := fun x hx => by
      have m : (x.toNat : Int) ∈ zs := (hz2 _).mpr (List.mem_map.mpr ⟨x, hx, rfl⟩)
      rw [← ez] at m
      obtain ⟨y, hy, e⟩ := List.mem_map.mp m
      have e' : y = x := UInt8.toNat_inj.mp (by omega)
      rw [← e']
      exact hy
    rw [wz_len] at hz3
    refine ⟨pw, pl, w, WqatckNeutral.bytes zs, rfl, s1.seq hS, by rw [ez]; exact SqL.of hl1, by omega, by rw [bytes_len]; omega, fun po H2 rs os s2 no hpo rl hm hwk => ?_⟩
    -- which one
    have ex : ∃ j : Nat, ∃ c, os[j]? = some c ∧ Po.apartOf c g = n := by
      obtain ⟨c, hc, e⟩ := next_there (ls := WqatckNeutral.bytes zs) hn hl hm
      obtain ⟨j, hj, q⟩ := List.getElem_of_mem hc
      exact ⟨j, c, by rw [List.getElem?_eq_getElem hj, q], e⟩
    obtain ⟨j, ⟨c, hc, hcn⟩, hfst⟩ := @first_ex (fun (j : Nat) => ∃ c, os[j]? = some c ∧ Po.apartOf c g = n) (fun _ => Classical.propDecidable _) ex
    have hnext : Po.nextOf g n w = c := next_first hn hl hm hwk hc hcn fun i d hi hd e => hfst i hi ⟨d, hd, e⟩
    have s12 := s1.trans s2
    have hjl : j < os.length := (List.getElem?_eq_some_iff.mp hc).1
    refine while_by (fun σ H3 => ∃ i : Nat, i ≤ j ∧ σ = [some (.ref pw), some (.ref pg), some (.int (n : Int)), some (.ref po), some (.int (i : Int))] ∧ Same H2 H3) (fun σ _ => match σ with | [_, _, _, _, some (.int i)] => j - i.toNat | _ => 0) ⟨0, Nat.zero_le _, rfl, Same.refl _⟩ ?_ ?_
    · rintro σ H3 ⟨i, hi, rfl, s3⟩
      have hd : os[i]? = some os[i] := List.getElem?_eq_getElem (by omega)
      obtain ⟨r, hr', _, hr3⟩ := pair_get rl i _ hd
      have hpo3 := s3 _ _ hpo
      have hul := slip_le ((hm _).mp (List.mem_of_getElem? hd))
      refine Ev.ix (ev_v rfl) (ev_v rfl) (SqL.of hpo3) (atI_nat (ref_get hr')) _ ⟨_, rfl, os[i], g, r, pg, rfl, SqL.of (s3 _ _ hr3), (s12.trans s3).seq hG, by omega, by omega, fun H4 s4 => ⟨_, rfl, rfl, _, rfl, ?_⟩⟩
      have eb : (!decide (V.int (Po.apartOf os[i] g : Int) = V.int (n : Int))) = !decide (Po.apartOf os[i] g = n) := by
        congr 1
        apply decide_eq_decide.mpr
        constructor
        · intro z
          have := V.int.inj z
          omega
        · intro z
          rw [z]
      rw [eb]
      by_cases e : i = j
      · subst e
        have ec : os[i] = c := by
          rw [hd] at hc
          exact Option.some.inj hc
        rw [decide_eq_true (by rw [ec]; exact hcn)]
        refine iteF ?_
        refine Ev.ix (ev_v rfl) (ev_v rfl) (SqL.of (s4 _ _ hpo3)) (atI_nat (ref_get hr')) _ ?_
        refine k r H4 (s12.trans (s3.trans s4)) ?_ ?_
        · obtain ⟨_, _, q⟩ := pair_mem rl r (List.mem_of_getElem? hr')
          exact s1.free q.1
        · rw [hnext, ← ec]
          exact s4 _ _ (s3 _ _ hr3)
      · rw [decide_eq_false (fun z => hfst i (by omega) ⟨_, hd, z⟩)]
        refine iteT ⟨_, rfl, _, _, rfl, rfl, ⟨i + 1, by omega, rfl, s3.trans s4⟩, ?_⟩
        show j - ((i : Int) + 1).toNat < j - ((i : Int)).toNat
        omega
    · intro σ H3 Q1 Q2 hq h
      obtain ⟨x, hx, y, hy, p, xs, i, v, e1, e2, e3, e4, z, hz, a, b, pa, pb, e5, e6, e7, e8, e9, h⟩ := h
      refine ⟨x, hx, y, hy, p, xs, i, v, e1, e2, e3, e4, z, hz, a, b, pa, pb, e5, e6, e7, e8, e9, fun H4 s4 => ?_⟩
      obtain ⟨u, hu, e10, c', e11, q⟩ := h H4 s4
      exact ⟨u, hu, e10, c', e11, hq _ _ q⟩
end
end Sl
namespace Sl
open PySem L2 Ew
theorem dist_sum {a b : Po.Word} : ∀ (i j : Nat), i ≤ a.length → j ≤ b.length → dist a b i j ≤ i + j
  | 0, j, _, hj => by rw [dist_zero a b hj]; omega
  | i + 1, 0, _, _ => by rw [dist_left]; omega
  | i + 1, j + 1, hi, hj => by
    have ih := dist_sum (a := a) (b := b) i (j + 1) (by omega) hj
    rw [dist_succ (by omega) (by omega)]
    unfold cellD
    simp only [Nat.add_sub_cancel]
    split <;> omega
theorem apart_sum (a b : Po.Word) : Po.apartOf a b ≤ a.length + b.length := by
  rw [apart_dist]
  exact dist_sum _ _ (Nat.le_refl _) (Nat.le_refl _)
theorem chain_head {b u : Po.Word} {m : Nat} (h : Po.apartOf u b = m) : Po.chainFrom b m u = u :: (Po.chainFrom b m u).tail := by
  cases m with
  | zero =>
    have e : u = b := apart_zero h
    subst e
    rfl
  | succ m => rfl
def spChain (K : PySem.W.Frag) : Sp := fun vs H Q _ => ∃ (pa pb : Addr) (a b : List Int), vs = [.ref pa, .ref pb] ∧ SqL K H pa (vi a) ∧ SqL K H pb (vi b) ∧ a.length ≤ 60 ∧ b.length ≤ 60 ∧ IsBytes a ∧ IsBytes b ∧
  ∀ (p : Addr) (H' : Hp), H' p = some (.lst (vi (PyWqatck.chain a b))) → Q (.ref p) H'
section
variable {P : Program} {w : World} {K : PySem.W.Frag} {mg : Str → Option Value} {base : Heap}
theorem scC : FnScope ["a", "b", "left", "answer", "word"] ["a", "b"] (defScope sChain) := ⟨rfl, rfl, rfl, by decide +kernel, rfl, by decide +kernel, by decide +kernel⟩
set_option maxHeartbeats 4000000 in
theorem ok_chain {f : Addr} {fd : FuncData} (F : Fun K "chain" "chain" sChain f fd) (T : TxS mg) (g7 : GI mg "MOST_CHAINED" 16) (g8 : GI mg "TOO_MUCH" (-2)) (DW : Def P w K mg base "is_word" 2 ["given"] (spWord K)) (DS : Def P w K mg base "slips_between" 2 ["a", "b"] (spSlips K))
    (DN : Def P w K mg base "next_in_chain" 3 ["word", "goal", "left"] (spNext K)) : FnOk P w K mg base CX0 4 f fd ["a", "b"] (spChain K) := by
  refine F.ok scC (fun vs H Q E h => ?_) (fun cdv A outer s H vs Q E hr h => ?_)
  · obtain ⟨pa, pb, a, b, rfl, _⟩ := h
    rfl
  · obtain ⟨pa, pb, a, b, rfl, ha, hb, la, lb, ba, bb, k⟩ := h
    have hr2 : Room 2 _ := hr.mono (by decide)
    have hr3 : Room 3 _ := hr.mono (by decide)
    rw [chain_due ba bb] at k
    refine ⟨_, pss_cons (ps_if (pt_not (pw_and (pt_val (DW.call hr2 (pa_cons (pv 0) pa_nil))) (pw_and1 (pt_val (DW.call hr2 (pa_cons (pv 1) pa_nil))))).pt) (pss_one (ps_ret (pe_lst (pa_cons (pe_gi T.g2) pa_nil)))) pss_nil)
      (pss_cons (ps_if (pw_or (pt_cmpR op_gt (pe_callB call_len_seq (by rfl) T.len PySem.boot_len (pa_cons (pv 0) pa_nil)) (pe_gi g7) (nomark _)) (pw_or1 (pt_cmpR op_gt (pe_callB call_len_seq (by rfl) T.len PySem.boot_len (pa_cons (pv 1) pa_nil)) (pe_gi g7) (nomark _)))).pt (pss_one (ps_ret (pe_lst (pa_cons (pe_gi g8) pa_nil)))) pss_nil)
      (pss_cons (ps_set (i := 2) scC.nd rfl (Or.inl rfl) (DS.call hr2 (pa_cons (pv 0) (pa_cons (pv 1) pa_nil))))
      (pss_cons (ps_set (i := 3) scC.nd rfl (Or.inl rfl) (pe_op op_catL (pe_lst (pa_cons (pv 2) (pa_cons (pe_callB call_len_seq rfl T.len PySem.boot_len (pa_cons (pv 0) pa_nil)) pa_nil))) (pv 0)))
      (pss_cons (ps_set (i := 4) scC.nd rfl (Or.inl rfl) (pv 0))
      (pss_cons (ps_while PassesOwn.never (pt_cmpR op_gt (pv 2) pe_int (nomark _))
        (pss_cons (ps_aug (i := 2) scC.nd rfl (Or.inl rfl) pe_int ip_sub)
        (pss_cons (ps_set (i := 4) scC.nd rfl (Or.inl rfl) (DN.call hr3 (pa_cons (pv 4) (pa_cons (pv 1) (pa_cons (pv 2) pa_nil)))))
        (pss_cons (ps_expr (pe_bm PySem.F.plainAttrs_list PySem.F.slot_list_append PySem.F.type_list_append mt_append (pv 3) (pa_cons (pe_callB call_len_seq rfl T.len PySem.boot_len (pa_cons (pv 4) pa_nil)) pa_nil)))
        (pss_one (ps_expr (pe_bm PySem.F.plainAttrs_list PySem.F.slot_list_extend PySem.F.type_list_extend mt_extend (pv 3) (pa_cons (pv 4) pa_nil))))))))
      (pss_one (ps_ret (pv 3)))))))), ?_⟩
    have no : ∀ H1 : Hp, (wordZ a = false ∨ wordZ b = false) → ∀ p, H1 p = none → Q (.ref p) (upd H1 p (.lst [.int (-1)])) := fun H1 hw p hp => by
      rw [if_pos hw] at k
      exact k p _ upd_same
    refine ⟨_, rfl, pa, a, rfl, ha, by omega, fun H1 s1 => ⟨_, rfl, ite2 (fun h1 => ?_) fun h1 => ?_⟩⟩
    · refine ⟨_, rfl, pb, b, rfl, s1.seq hb, by omega, fun H2 s2 => ⟨_, rfl, ?_⟩⟩
      cases h2 : wordZ b with
      | false => exact iteT ⟨(by show 1 ≤ sizeLine; decide), no H2 (.inr h2)⟩
      | true =>
        refine iteF ?_
        have s12 := s1.trans s2
        have ha2 := s12.seq ha
        have hb2 := s12.seq hb
        rw [if_neg (by rw [h1, h2]; simp)] at k
        -- too many letters
        have two : (16 < a.length ∨ 16 < b.length) → ∀ p, H2 p = none → Q (.ref p) (upd H2 p (.lst [.int (-2)])) := fun hw p hp => by
          rw [if_pos hw] at k
          exact k p _ upd_same
        refine Ev.test (Ev.i2 (g := fun i j => .bl (decide (j < i))) (Ev.len (K := K) (ev_v rfl) ha2) ev_c) ?_
        refine ite2 (fun h3 => iteT ⟨(by show 1 ≤ sizeLine; decide), two (.inl ?_)⟩) fun h3 => ?_
        · have := of_decide_eq_true h3
          rw [List.length_map] at this
          omega
        refine Ev.test (Ev.i2 (g := fun i j => .bl (decide (j < i))) (Ev.len (K := K) (ev_v rfl) hb2) ev_c) ?_
        refine ite2 (fun h4 => ⟨(by show 1 ≤ sizeLine; decide), two (.inr ?_)⟩) fun h4 => ?_
        · have := of_decide_eq_true h4
          rw [List.length_map] at this
          omega
        have h3' : a.length ≤ 16 := by
          have : ¬ (16 : Int) < ((vi a).length : Int) := fun e => h3 (decide_eq_true e)
          rw [List.length_map] at this
          omega
        have h4' : b.length ≤ 16 := by
          have : ¬ (16 : Int) < ((vi b).length : Int) := fun e => h4 (decide_eq_true e)
          rw [List.length_map] at this
          omega
        rw [if_neg (by omega)] at k
        obtain ⟨aw, rfl⟩ : ∃ aw, a = wz aw := ⟨_, (wz_bytes ba).symm⟩
        obtain ⟨bw, rfl⟩ : ∃ bw, b = wz bw := ⟨_, (wz_bytes bb).symm⟩
        rw [bytes_wz, bytes_wz] at k
        rw [wz_len] at h3' h4'
        have hd := apart_sum aw bw
        generalize hD : Po.apartOf aw bw = d at k hd
        -- left = slips_between(a, b)
        refine ⟨_, rfl, _, rfl, aw, bw, pa, pb, rfl, ha2, hb2, by omega, by omega, fun H3 s3 => ?_⟩
        rw [hD]
        have ha3 := s3.seq ha2
        have hb3 := s3.seq hb2
        -- answer = [left, len(a)] + a; word = a
        refine ⟨_, rfl, _, rfl, pa, _, rfl, .inl ha3, (by show 2 ≤ sizeLine; decide), fun p1 hp1 => ⟨_, rfl, p1, pa, _, _, rfl, rfl, SqL.of upd_same, (Same.put hp1).seq ha3, small_of (by rw [vi_len]; show 2 + _ ≤ _; omega), fun pn hpn => ?_⟩⟩
        refine ⟨_, rfl, ?_⟩
        have s4 : Same H3 (upd (upd H3 p1 (.lst [.int (d : Int), .int ((vi (wz aw)).length : Nat)])) pn (.lst ([.int (d : Int), .int ((vi (wz aw)).length : Nat)] ++ vi (wz aw)))) := (Same.put hp1).trans (Same.put hpn)
        have npn : H3 pn = none := (Same.put hp1).free hpn
        have hn4 : (upd (upd H3 p1 (.lst [.int (d : Int), .int ((vi (wz aw)).length : Nat)])) pn (.lst ([.int (d : Int), .int ((vi (wz aw)).length : Nat)] ++ vi (wz aw)))) pn = some (.lst (vi ((d : Int) :: toldZ aw))) := by
          rw [upd_same, vi_len]
          rfl
        generalize upd (upd H3 p1 (.lst [.int (d : Int), .int ((vi (wz aw)).length : Nat)])) pn (.lst ([.int (d : Int), .int ((vi (wz aw)).length : Nat)] ++ vi (wz aw))) = H4 at s4 hn4
        refine while_by (fun σ H5 => ∃ (m : Nat) (u : Po.Word) (pu : Addr) (pre : List Int), σ = [some (.ref pa), some (.ref pb), some (.int (m : Int)), some (.ref pn), some (.ref pu)] ∧ Same H3 H5 ∧ H5 pn = some (.lst (vi pre)) ∧ SqL K H5 pu (vi (wz u)) ∧ Po.apartOf u bw = m ∧ u.length + m ≤ 16 + d ∧ pre.length + 100 * m ≤ 20 + 100 * d ∧
            pre ++ (Po.chainFrom bw m u).tail.flatMap toldZ = (d : Int) :: (Po.chainOf aw bw).flatMap toldZ)
          (fun σ _ => match σ with | [_, _, some (.int m), _, _] => m.toNat | _ => 0) ⟨d, aw, pa, _, rfl, s4, hn4, s4.seq ha3, hD, by omega, ?_, ?_⟩ ?_ ?_
        · show (toldZ aw).length + 1 + _ ≤ _
          unfold toldZ
          rw [List.length_cons, wz_len]
          omega
        · unfold Po.chainOf
          rw [hD, chain_head hD, List.flatMap_cons]
          rfl
        · rintro σ H5 ⟨m, u, pu, pre, rfl, s5, hn5, hu5, hm, hul, hpl, hdue⟩
          refine Ev.i2 (g := fun i j => .bl (decide (j < i))) (ev_v rfl) ev_c _ ⟨_, rfl, ?_⟩
          cases m with
          | zero =>
            rw [decide_eq_false (show ¬ (0 : Int) < ((0 : Nat) : Int) by decide)]
            refine iteF ⟨_, rfl, ?_⟩
            have e : pre = (d : Int) :: (Po.chainOf aw bw).flatMap toldZ := by
              have z : (Po.chainFrom bw 0 u).tail.flatMap toldZ = [] := rfl
              rw [z, List.append_nil] at hdue
              exact hdue
            rw [e] at hn5
            exact k pn H5 hn5
          | succ m =>
            rw [decide_eq_true (show (0 : Int) < ((m + 1 : Nat) : Int) by omega)]
            refine iteT ⟨_, rfl, _, _, rfl, rfl, ?_⟩
            obtain ⟨v1, v2, _⟩ := next_spec hm
            have vl := slip_le v1
            have em : (((m + 1 : Nat) : Int) - 1) = (m : Int) := by omega
            refine ⟨_, rfl, _, rfl, _, rfl, pu, pb, u, bw, m, congrArg (fun z => [V.ref pu, V.ref pb, V.int z]) em, hu5, s5.seq hb3, by omega, by omega, hm, fun pv' H6 s6 nv hv6 => ?_⟩
            have hn6 := s6 _ _ hn5
            have nvn : pv' ≠ pn := (ne_of_none hn5 nv).symm
            refine ⟨_, rfl, ty_list hn6, _, rfl, pv', _, rfl, .inl (SqL.of hv6), pn, _, _, rfl, rfl, hn6, by rw [List.length_map]; exact smaller_of (by omega), ?_⟩
            refine ⟨_, rfl, ty_list upd_same, _, rfl, pn, pv', _, _, rfl, rfl, upd_same, by rw [upd_ne nvn]; exact hv6, ?_, ?_⟩
            · rw [List.length_append, vi_len, List.length_map]
              simp only [List.length_cons, List.length_nil]
              exact small_of (by omega)
            · have ep : vi pre ++ [V.int ((vi (wz (Po.nextOf bw m u))).length : Nat)] ++ vi (wz (Po.nextOf bw m u)) = vi (pre ++ toldZ (Po.nextOf bw m u)) := by
                rw [vi_len]
                show _ = List.map V.int (pre ++ ((Po.nextOf bw m u).length : Int) :: wz (Po.nextOf bw m u))
                rw [List.map_append, List.map_cons, List.append_assoc]
                rfl
              refine ⟨⟨m, Po.nextOf bw m u, pv', pre ++ toldZ (Po.nextOf bw m u), congrArg (fun z => [some (V.ref pa), some (V.ref pb), some (V.int z), some (V.ref pn), some (V.ref pv')]) em, ((s5.trans s6).new npn).new npn, by rw [upd_same, ep], SqL.of (by rw [upd_ne nvn, upd_ne nvn]; exact hv6), v2, by omega, ?_, ?_⟩, ?_⟩
              · rw [List.length_append]
                unfold toldZ
                rw [List.length_cons, wz_len]
                omega
              · have e1 : (Po.chainFrom bw (m + 1) u).tail = Po.chainFrom bw m (Po.nextOf bw m u) := rfl
                rw [e1, chain_head v2, List.flatMap_cons] at hdue
                rw [List.append_assoc]
                exact hdue
              · show (((m + 1 : Nat) : Int) - 1).toNat < ((m + 1 : Nat) : Int).toNat
                omega
        · intro σ H5 Q1 Q2 hq h
          obtain ⟨x, hx, i, j, e1, e2, c', e3, q⟩ := h
          exact ⟨x, hx, i, j, e1, e2, c', e3, hq _ _ q⟩
    · exact iteT ⟨(by show 1 ≤ sizeLine; decide), no H1 (.inl (eq_false_of_ne_true h1))⟩
end
end Sl
namespace L2
open PySem PySem.Spec PyProof.Rows
/-- a set of these whole numbers -/
def SetZ (w : World) (p : Addr) (ns : List Int) : HO := .ext fun h => ∃ (es : Array (Int × Value)) (ep : Nat) (t : SetTable), Sl.SetAt h p (Sl.ledOf w) es ep t ∧ es.size ≤ ns.length ∧ es.size ≤ 2000 ∧ ∀ z, Sl.HasZ es z ↔ z ∈ ns
theorem setZ_ok {P : Program} {w : World} {H : Hp} {h : Heap} {p : Addr} {ns : List Int} {es : Array (Int × Value)} {ep : Nat} {t : SetTable} (q : Sl.SetAt h p (Sl.ledOf w) es ep t) (h1 : es.size ≤ ns.length) (h2 : es.size ≤ 2000) (h3 : ∀ z, Sl.HasZ es z ↔ z ∈ ns) : ObjOk P w H h p (SetZ w p ns) :=
  ⟨⟨es, ep, t, q, h1, h2, h3⟩, ⟨_, q.at_⟩, fun _ _ ⟨es, ep, t, q, a⟩ k => ⟨es, ep, t, q.keep k, a⟩⟩
theorem Inv.drawn {X : Cx} {pins : List (Addr × Obj)} {σ : List (Option V)} {H : Hp} {s : Shared} (I : Inv X pins σ H s) (d : Drawn) : Inv X pins σ H { s with drawn := d } := ⟨I.ok, I.os, I.bare, I.base, I.loc, I.cell, I.free, I.freeC, I.pin, I.hok, I.len⟩
theorem has_get {ns : List Int} {n : Nat} (h : n = ns.length) (z : Int) : (∃ j, j < n ∧ ns.getD j 0 = z) ↔ z ∈ ns := by
  subst h
  constructor
  · rintro ⟨j, hj, e⟩
    rw [List.getD_eq_getElem?_getD, List.getElem?_eq_getElem hj] at e
    have e' : ns[j] = z := e
    rw [← e']
    exact List.getElem_mem hj
  · intro m
    obtain ⟨j, hj, e⟩ := List.getElem_of_mem m
    exact ⟨j, hj, by rw [List.getD_eq_getElem?_getD, List.getElem?_eq_getElem hj, e]; rfl⟩
theorem set_rules (w : World) : SetRules w (SetZ w) where
  set := fun X hw hc pins s σ H xs us Q I r h => by
    subst hw
    obtain ⟨a, ns, rfl, hs, hn, q⟩ := h
    obtain ⟨its, rv, hl, _⟩ := I.list hs
    rw [Vals.ref1 r]
    have hI := rv.ints
    have e1 : its.toArray.size = ns.length := by rw [List.size_toArray, hI.length]
    refine Sl.set_of (I.ok.hd hc) hl.isList (by simpa using hI) (by rw [e1]; show _ < 4096; omega) fun h' tk es ep t g1 g2 g3 g4 => ?_
    rw [e1] at g2
    refine ⟨.ref s.heap.objs.size, _, I.laid (a := s.heap.objs.size) (o := SetZ X.w s.heap.objs.size ns) (fun b u e => g4 b u (Heap.lt_size e) e) (Nat.le_refl _) (setZ_ok g1 g2 (by omega) fun z => ?_), rfl, q _ (I.hok.fresh (Nat.le_refl _))⟩
    rw [g3 z]
    exact has_get e1 z
  srt := fun X hw hc pins s σ H xs us Q I r h => by
    subst hw
    obtain ⟨p, ns, rfl, hp, q⟩ := h
    rw [Vals.ref1 r]
    obtain ⟨⟨es, ep, t, g1, g2, g3, g4⟩, _⟩ := I.hok p _ hp
    refine Sl.sorted_set (I.ok.hd hc) g1 (Nat.le_trans g3 (by decide)) fun a h' d out zs e la ga gi gs gl gm gk => ?_
    have hz : (zs.map V.int).length ≤ sizeLine := by rw [List.length_map, gl]; exact Nat.le_trans g3 (by decide)
    refine ⟨.ref a, upd H a (.lst (zs.map V.int)), (Inv.drawn I d).laid (s := { s with drawn := d }) (t' := s.toks) gk la ⟨hz, out.toList, e, vals_of_ints gi, by simpa using ga⟩, rfl, q a zs gs (fun z => ?_) (by omega) (I.hok.fresh la)⟩
    rw [gm z, g4 z]
end L2
namespace Sl
open PySem L2 Ew
structure TextC (K : PySem.W.Frag) : Prop where
  so : PySem.W.nsIn K mainGlobals "sorted" = some none
  se : PySem.W.nsIn K mainGlobals "set" = some none
  g7 : GIn K "MOST_CHAINED" 16
  g8 : GIn K "TOO_MUCH" (-2)
  dN : DefAt K "next_in_chain" sNext
  dA : DefAt K "one_slip_away" sAway
  dL : DefAt K "with_one_less" sLess
  dM : DefAt K "with_as_many" sMany
  dO : DefAt K "with_one_more" sMore
section
variable {P : Program} {w : World} {K : PySem.W.Frag} {mg : Str → Option Value} {h : Heap}
theorem call_fn {fa : Addr} (X : K.In h) (G : h.Ns mainGlobals mg) (hfa : mg "chain" = some (.ref fa)) (T : Text K) (TC : TextC K) (hF : DefAt K "chain" sChain) :
    ∃ fd : FuncData, Binds K fd ["a", "b"] [] ∧ ∀ base : Heap, K.In base → base.Ns mainGlobals mg → FnOk P w K mg base CX0 4 fa fd ["a", "b"] (spChain K) := by
  obtain ⟨f, fd, F, a⟩ := hF
  have e := hfa.symm.trans (PySem.W.mg_of X G a)
  cases e
  refine ⟨fd, F.binds (ps := ["a", "b"]) fun _ _ _ _ _ _ us hl => match us, hl with | [_, _], _ => rfl, fun base _ _ => ?_⟩
  have B : Both P w K mg base := both_of T X G
  have TX := T.tx X G
  have so := PySem.W.mg_none_of X G TC.so
  have se := PySem.W.mg_none_of X G TC.se
  have DL : Def P w K mg base "with_one_less" 1 ["word"] (spLess K) := TC.dL.df X G (fun f fd F => F.binds (ps := ["word"]) fun _ _ _ _ _ _ us hl => match us, hl with | [_], _ => rfl) fun f fd F => ok_less F TX
  have DM : Def P w K mg base "with_as_many" 1 ["word", "letters"] (spMany K) := TC.dM.df X G (fun f fd F => F.binds (ps := ["word", "letters"]) fun _ _ _ _ _ _ us hl => match us, hl with | [_, _], _ => rfl) fun f fd F => ok_many F TX
  have DO : Def P w K mg base "with_one_more" 1 ["word", "letters"] (spMore K) := TC.dO.df X G (fun f fd F => F.binds (ps := ["word", "letters"]) fun _ _ _ _ _ _ us hl => match us, hl with | [_, _], _ => rfl) fun f fd F => ok_more F TX
  have DA : Def P w K mg base "one_slip_away" 2 ["word", "letters"] (spAway K) := TC.dA.df X G (fun f fd F => F.binds (ps := ["word", "letters"]) fun _ _ _ _ _ _ us hl => match us, hl with | [_, _], _ => rfl) fun f fd F => ok_away F so DL DM DO
  have DN : Def P w K mg base "next_in_chain" 3 ["word", "goal", "left"] (spNext K) := TC.dN.df X G (fun f fd F => F.binds (ps := ["word", "goal", "left"]) fun _ _ _ _ _ _ us hl => match us, hl with | [_, _, _], _ => rfl) fun f fd F => ok_next (set_rules w) F so se DA B.dS
  exact ok_chain F TX (TC.g7.gi X G) (TC.g8.gi X G) B.dW B.dS DN
end
theorem call_sp (K : PySem.W.Frag) (H : Hp) (as : List L2.Arg) (vs : List V) (hP : ∃ ns ms : List Int, as = [L2.Arg.lst ns, L2.Arg.lst ms] ∧ (ns.length ≤ 60 ∧ ∀ z ∈ ns, 0 ≤ z ∧ z ≤ 255) ∧ (ms.length ≤ 60 ∧ ∀ z ∈ ms, 0 ≤ z ∧ z ≤ 255)) (hA : ArgsIn K H as vs) : spChain K vs H (L2.Told (dueLL PyWqatck.chain as)) fun _ _ _ => False := by
  obtain ⟨ns, ms, rfl, ⟨l1, b1⟩, l2, b2⟩ := hP
  cases hA with
  | lst hS r =>
    cases r with
    | lst hS2 r =>
      cases r
      exact ⟨_, _, ns, ms, rfl, hS, hS2, l1, l2, b1, b2, fun p H' h' => ⟨p, rfl, .inl h'⟩⟩
end Sl
theorem Sl.said : PySem.Challenge.rw_envelopewords_s04_chain.wellSaid = true := by decide +kernel
open PySem PySem.W PyProof.Rows
set_option maxRecDepth 100000 in
set_option maxHeartbeats 0 in
theorem PySem.Challenge.cw_envelopewords_s04_chain_holds : PySem.Challenge.rw_envelopewords_s04_chain.Holds := by
  w_on; k_headS; (case hw => exact ⟨[.list [], .list []], by decide +kernel, by decide +kernel⟩)
  k_fillS
  refine L2.walk_spec (r := PySem.Challenge.rw_envelopewords_s04_chain) (k := 4) (ps := ["a", "b"]) (sp := Sl.spChain) (fun as => ∃ ns ms : List Int, as = [L2.Arg.lst ns, L2.Arg.lst ms] ∧ (ns.length ≤ 60 ∧ ∀ z ∈ ns, 0 ≤ z ∧ z ≤ 255) ∧ (ms.length ≤ 60 ∧ ∀ z ∈ ms, 0 ≤ z ∧ z ≤ 255)) (L2.dueLL PyWqatck.chain) (L2.args_ll rfl Sl.said) ?qLen ⟨rfl, by decide, by decide⟩ (fun w h Y => PySem.W.kIn_of Y) ?qFn (fun K H as vs hP _ hA => Sl.call_sp K H as vs hP hA)
  case qLen =>
    rintro as ⟨ns, ms, rfl, ⟨hn, _⟩, hm, _⟩ ks hk
    have e : ks = ns ∨ ks = ms := by simpa using hk
    rcases e with e | e
    · subst e
      exact Nat.le_trans hn (by decide)
    · subst e
      exact Nat.le_trans hm (by decide)
  case qFn =>
    intro w mg fa h KX G hmg
    have TX : Sl.Text (L2.KOf KX) := by
      dsimp only [L2.KOf]
      refine' Sl.Text.mk ?xlen ?xall ?xmin ?xlist ?xrange ?xenum (Sl.gi_mk ?xg1) (Sl.gi_mk ?xg2) (Sl.gi_mk ?xg3) (Sl.gi_mk ?xg4) (Sl.gi_mk ?xg5) (Sl.gi_mk ?xg6) (Sl.def_mk ?adW ?ldW ?cdW ?kdW) (Sl.def_mk ?adL ?ldL ?cdL ?kdL) (Sl.def_mk ?adS ?ldS ?cdS ?kdS) (Sl.def_mk ?adR ?ldR ?cdR ?kdR)
      (case xlen => k_is)
      (case xall => k_is)
      (case xmin => k_is)
      (case xlist => k_is)
      (case xrange => k_is)
      (case xenum => k_is)
      (case xg1 => k_is)
      (case xg2 => k_is)
      (case xg3 => k_is)
      (case xg4 => k_is)
      (case xg5 => k_is)
      (case xg6 => k_is)
      (case adW => k_is)
      (case ldW => k_is)
      (case cdW => k_is)
      (case kdW => k_is)
      (case adL => k_is)
      (case ldL => k_is)
      (case cdL => k_is)
      (case kdL => k_is)
      (case adS => k_is)
      (case ldS => k_is)
      (case cdS => k_is)
      (case kdS => k_is)
      (case adR => k_is)
      (case ldR => k_is)
      (case cdR => k_is)
      (case kdR => k_is)
    have TC : Sl.TextC (L2.KOf KX) := by
      dsimp only [L2.KOf]
      refine' Sl.TextC.mk ?yso ?yse (Sl.gi_mk ?yg7) (Sl.gi_mk ?yg8) (Sl.def_mk ?adN ?ldN ?cdN ?kdN) (Sl.def_mk ?adA ?ldA ?cdA ?kdA) (Sl.def_mk ?adE ?ldE ?cdE ?kdE) (Sl.def_mk ?adM ?ldM ?cdM ?kdM) (Sl.def_mk ?adO ?ldO ?cdO ?kdO)
      (case yso => k_is)
      (case yse => k_is)
      (case yg7 => k_is)
      (case yg8 => k_is)
      (case adN => k_is)
      (case ldN => k_is)
      (case cdN => k_is)
      (case kdN => k_is)
      (case adA => k_is)
      (case ldA => k_is)
      (case cdA => k_is)
      (case kdA => k_is)
      (case adE => k_is)
      (case ldE => k_is)
      (case cdE => k_is)
      (case kdE => k_is)
      (case adM => k_is)
      (case ldM => k_is)
      (case cdM => k_is)
      (case kdM => k_is)
      (case adO => k_is)
      (case ldO => k_is)
      (case cdO => k_is)
      (case kdO => k_is)
    have D1 : Sl.DefAt (L2.KOf KX) "chain" Sl.sChain := by
      dsimp only [L2.KOf]
      refine' Sl.def_mk ?a ?l ?c ?k
      (case a => k_is)
      (case l => k_is)
      (case c => k_is)
      (case k => k_is)
    exact Sl.call_fn KX G hmg TX TC D1
#print axioms PySem.Challenge.cw_envelopewords_s04_chain_holds

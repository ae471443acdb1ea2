import PyProof.Rows.All
import Wide.All
import OpenK.AllK
import Wide.FinOn
import PyProof.EqAt
import PyProof.EqKinds
import PyProof.TupleCall
import KE.BitLaws
import PyProof.Rows.SortShellAny
import KE.KSortTupG
import KE.KItemsList
import KE.KDictLaws
import PyProof.MaxThree
import KE.KMinKey
import PySem.Challenge.RW_huesbelow_k36_trees_written
set_option Elab.async false
set_option linter.all false
set_option maxRecDepth 100000
/-! THE HAND LAYER, for ints, bools, texts, own classes, lists, tuples, dicts, comprehensions, walks over dicts, enumerate, zip, reversed, texts, calls, loops. Paste it whole ahead of your own text; what your proof does not reach may be deleted. -/
namespace L2
open PySem PySem.Spec PyProof.Rows

/-- a key: an int or a str -/
abbrev Key := Sum Int Str
def keyIs : Key → Value → Bool
  | .inl k, v => Value.isInt k v
  | .inr x, v => Value.isStrOf x v
def keyH (w : World) : Key → Int
  | .inl k => hashInt k
  | .inr x => hashStr w x
theorem keyIs_shape : ∀ {k : Key} {v : Value}, keyIs k v = true → (∃ i t, k = Sum.inl i ∧ v = Value.int i t) ∨ (∃ x t, k = Sum.inr x ∧ v = Value.str x t)
  | .inl i, v, h => by
    obtain ⟨t, e⟩ := Value.isInt_shape (k := i) (v := v) h
    exact .inl ⟨i, t, rfl, e⟩
  | .inr x, v, h => by
    obtain ⟨t, e⟩ := Value.isStrOf_shape (x := x) (v := v) h
    exact .inr ⟨x, t, rfl, e⟩
theorem keyIs_str (x : Str) (t : Tok) : keyIs (.inr x) (.str x t) = true := by simp [keyIs, Value.isStrOf]
theorem key_ll (a b : Int) : decide ((Sum.inl a : Key) = Sum.inl b) = (a == b) := by
  by_cases e : a = b
  · subst e; simp
  · have h : ¬ (Sum.inl a : Key) = Sum.inl b := fun q => e (Sum.inl.inj q)
    rw [decide_eq_false h]
    exact (beq_eq_false_iff_ne.mpr e).symm
theorem key_rr (a b : Str) : decide ((Sum.inr a : Key) = Sum.inr b) = decide (a = b) := by
  by_cases e : a = b
  · subst e; simp
  · have h : ¬ (Sum.inr a : Key) = Sum.inr b := fun q => e (Sum.inr.inj q)
    rw [decide_eq_false h, decide_eq_false e]
theorem key_lr (a : Int) (b : Str) : decide ((Sum.inl a : Key) = Sum.inr b) = false := decide_eq_false (fun q => nomatch q)
theorem key_rl (a : Str) (b : Int) : decide ((Sum.inr a : Key) = Sum.inl b) = false := decide_eq_false (fun q => nomatch q)

def mixKind (prog : Program) (w : World) : PySem.KeyKind prog w Key where
  is := keyIs
  hash := keyH w
  inj := fun v a b ha hb => by
    rcases keyIs_shape ha with ⟨i, t, rfl, rfl⟩ | ⟨x, t, rfl, rfl⟩
    · rcases keyIs_shape hb with ⟨j, u, rfl, e⟩ | ⟨y, u, rfl, e⟩
      · injection e with e1 _; rw [e1]
      · exact nomatch e
    · rcases keyIs_shape hb with ⟨j, u, rfl, e⟩ | ⟨y, u, rfl, e⟩
      · exact nomatch e
      · injection e with e1 _; rw [e1]
  byValue := fun k v h => by
    rcases keyIs_shape h with ⟨i, t, rfl, rfl⟩ | ⟨x, t, rfl, rfl⟩ <;> rfl
  pyHash := fun hv h => by
    rcases keyIs_shape hv with ⟨i, t, rfl, rfl⟩ | ⟨x, t, rfl, rfl⟩
    · exact wpAny_pyHash_int h
    · exact wpAny_pyHash_str h
  eqBool := fun hu hv h => by
    rcases keyIs_shape hu with ⟨i, t, rfl, rfl⟩ | ⟨x, t, rfl, rfl⟩
    · rcases keyIs_shape hv with ⟨j, u, rfl, rfl⟩ | ⟨y, u, rfl, rfl⟩
      · rw [key_ll] at h; exact wpAny_eqBool_int h
      · rw [key_lr] at h; exact SeqAt.EqAt.int_str i t y u _ _ _ _ h
    · rcases keyIs_shape hv with ⟨j, u, rfl, rfl⟩ | ⟨y, u, rfl, rfl⟩
      · rw [key_rl] at h; exact SeqAt.EqAt.str_int x t j u _ _ _ _ h
      · rw [key_rr] at h; exact wpAny_eqBool_str h
  «strs» := fun k x t v h => by
    rcases keyIs_shape h with ⟨i, u, rfl, e⟩ | ⟨y, u, rfl, e⟩
    · exact nomatch e
    · injection e with e1 _
      subst e1
      cases v <;> rfl

end L2

namespace L2
open PySem PySem.Spec PyProof.Rows

/-- a value, without the heap -/
inductive V where
  | non | bl (b : Bool) | int (i : Int) | str (x : Str) | byt (b : Array UInt8) | flt (b : UInt64) | ref (a : Addr) | ty (n : String)
  deriving DecidableEq

def RelV : V → Value → Prop
  | .non, u => u = Value.none
  | .bl b, u => u = Value.bool b
  | .int i, u => ∃ t, u = Value.int i t
  | .str x, u => ∃ t, u = Value.str x t
  | .byt b, u => ∃ t, u = Value.bytes b t
  | .flt b, u => ∃ t, u = Value.float b t
  | .ref a, u => u = Value.ref a
  | .ty n, u => u = Value.type n

abbrev Vals : List V → List Value → Prop := Paired RelV
theorem Vals.length {xs : List V} {us : List Value} (r : Vals xs us) : xs.length = us.length := Paired.length r
theorem Vals.get : ∀ {xs : List V} {us : List Value} {i : Nat} {x : V}, Vals xs us → xs[i]? = some x → ∃ u, us[i]? = some u ∧ RelV x u
  | _, _, _, _, .nil, e => by simp at e
  | _, _, 0, _, .cons r _, e => by simp at e; subst e; exact ⟨_, rfl, r⟩
  | _, _, i + 1, x, .cons _ t, e => by
    obtain ⟨u, h1, h2⟩ := Vals.get (i := i) (x := x) t (by simpa using e)
    exact ⟨u, by simpa using h1, h2⟩
theorem Vals.set {x : V} {u : Value} (r : RelV x u) : ∀ {xs : List V} {us : List Value} (i : Nat), Vals xs us → Vals (xs.set i x) (us.set i u)
  | _, _, _, .nil => .nil
  | _, _, 0, .cons _ t => .cons r t
  | _, _, i + 1, .cons q t => .cons q (Vals.set r i t)
theorem Vals.append : ∀ {xs ys : List V} {us ws : List Value}, Vals xs us → Vals ys ws → Vals (xs ++ ys) (us ++ ws)
  | _, _, _, _, .nil, s => s
  | _, _, _, _, .cons r t, s => .cons r (Vals.append t s)
theorem Vals.take : ∀ {xs : List V} {us : List Value} (n : Nat), Vals xs us → Vals (xs.take n) (us.take n)
  | _, _, 0, _ => .nil
  | _, _, _ + 1, .nil => .nil
  | _, _, n + 1, .cons r t => .cons r (Vals.take n t)
theorem Vals.drop : ∀ {xs : List V} {us : List Value} (n : Nat), Vals xs us → Vals (xs.drop n) (us.drop n)
  | _, _, 0, r => r
  | _, _, _ + 1, .nil => .nil
  | _, _, n + 1, .cons _ t => Vals.drop n t

def RelO : Option V → Option Value → Prop
  | some v, some u => RelV v u
  | none, none => True
  | _, _ => False
def KV {κ : Type} : List (κ × V) → List (κ × Value) → Prop := Paired fun (p : κ × V) (q : κ × Value) => p.1 = q.1 ∧ RelV p.2 q.2

/-- a key of a dict (00_mix): an int or a text -/
def kV : Key → V
  | .inl i => .int i
  | .inr x => .str x

/-- what stands at a tracked address -/
inductive HO where
  /-- a list -/
  | lst (xs : List V)
  /-- a tuple (never changes) -/
  | tup (xs : List V)
  /-- a dict whose keys are ints and texts; one whose keys are tuples of ints and texts (the empty one is both) -/
  | dK (kvs : List (Key × V)) | dT (kvs : List (List Key × V))
  /-- a set of ints: its members, its size -/
  | set (S : Int → Bool) (n : Nat)
  /-- an instance of the class at C, its dict at dx, its attributes -/
  | ins (C dx : Addr) (fs : List (Str × V))
  /-- the dict of the instance at x -/
  | own (x : Addr)
  /-- the dict of an exception -/
  | xd (fs : List (Str × V))
  /-- a bound method, f of x -/
  | met (f x : Addr)
  /-- a range object lo, lo + 1, .. below hi -/
  | rng (lo hi : Int)
  /-- a thing that is known to the object (the script; a dict while a loop walks it): read, never written while it is so -/
  | frz (o : Obj) (u : HO)
  /-- a code object's table -/
  | tbl (ps : Array Value)
  /-- any other thing, by what is true of its one object (a def of one's own: SetO a S n := HO.ext fun h => ..) -/
  | ext (φ : Heap → Prop)

abbrev Hp := Addr → Option HO
def upd (H : Hp) (a : Addr) (o : HO) : Hp := fun b => if b = a then some o else H b
theorem upd_same {H : Hp} {a : Addr} {o : HO} : upd H a o a = some o := by unfold upd; rw [if_pos rfl]
theorem upd_ne {H : Hp} {a b : Addr} {o : HO} (h : b ≠ a) : upd H a o b = H b := by unfold upd; rw [if_neg h]
theorem ne_of_none {H : Hp} {a b : Addr} {o : HO} (h : H a = some o) (h' : H b = none) : a ≠ b := by
  intro e; subst e; rw [h] at h'; cases h'

section
variable (P : Program) (w : World)
def ObjOk (H : Hp) (h : Heap) (a : Addr) : HO → Prop
  | .lst xs => xs.length ≤ sizeLine ∧ ∃ (its : List Value) (n : Nat), Vals xs its ∧ h.get? a = some { cls := .type "list", data := .seq its.toArray n }
  | .tup xs => xs.length ≤ sizeLine ∧ ∃ its : List Value, Vals xs its ∧ IsTup h a its.toArray
  | .dK kvs => kvs.length ≤ sizeLine ∧ (a == sysModules) = false ∧ ∃ vs, KV kvs vs ∧ h.DictOf (mixKind P w) a vs
  | .dT kvs => kvs.length ≤ sizeLine ∧ (a == sysModules) = false ∧ ∃ xs : List (List Key × Addr × Value),
      Paired (fun (p : List Key × V) (q : List Key × Addr × Value) => p.1 = q.1 ∧ H q.2.1 = some (.tup (p.1.map kV)) ∧ RelV p.2 q.2.2) kvs xs ∧
      ∃ o es ep, h.get? a = some o ∧ o.ExactDict ∧ o.data = .dict es ep ∧ es.toList = xs.map (entryOfKey (tupleKind (mixKind P w))) ∧ (xs.map (·.1)).Nodup
  | .set S n => h.SetOf (intKind P w) a S n
  | .ins C dx fs => H dx = some (.own a) ∧ fs.length ≤ 1000 ∧ dx ≠ a ∧ h.get? a = some (PySem.W.instObj C dx) ∧
      ∃ mA, h.Ns1 dx mA ∧ (∀ f, RelO (fs.lookup f) (mA f)) ∧ PySem.Within mA (fs.map (·.1))
  | .own _ => ∃ o, h.get? a = some o
  | .xd fs => ∃ mA, h.Ns1 a mA ∧ ∀ f, RelO (fs.lookup f) (mA f)
  | .rng lo hi => ∃ t u v, h.get? a = some { cls := .type "range", data := .fields #[.int lo t, .int hi u, .int 1 v] }
  | .frz o u => h.get? a = some o ∧ ObjOk H h a u
  | .tbl ps => h.get? a = some { cls := .none, data := .fields ps }
  | .met f x => h.get? a = some (PySem.W.methodObj (.ref f) (.ref x))
  | .ext φ => φ h ∧ (∃ o, h.get? a = some o) ∧ ∀ h1 h2 : Heap, φ h1 → (∀ o, h1.get? a = some o → h2.get? a = some o) → φ h2
/-- the abstract heap is held -/
def HOk (H : Hp) (h : Heap) : Prop := ∀ a o, H a = some o → ObjOk P w H h a o
end

section
variable {P : Program} {w : World} {H H' : Hp} {h h' : Heap} {a : Addr} {o : HO}
theorem ObjOk.lt (x : ObjOk P w H h a o) : a < h.objs.size := by
  cases o with
  | lst xs => obtain ⟨_, _, _, _, e⟩ := x; exact Heap.lt_size e
  | tup xs => obtain ⟨_, _, _, p⟩ := x; exact p.lt
  | dK kvs => obtain ⟨_, _, _, _, o, _, _, e, _⟩ := x; exact Heap.lt_size e
  | dT kvs => obtain ⟨_, _, _, _, o, _, _, e, _⟩ := x; exact Heap.lt_size e
  | set S n => obtain ⟨o, _, _, _, e, _⟩ := x; exact Heap.lt_size e
  | ins C dx fs => obtain ⟨_, _, _, e, _⟩ := x; exact Heap.lt_size e
  | own y => obtain ⟨_, e⟩ := x; exact Heap.lt_size e
  | xd fs => obtain ⟨_, ⟨_, _, _, e, _⟩, _⟩ := x; exact Heap.lt_size e
  | rng lo hi => obtain ⟨_, _, _, e⟩ := x; exact Heap.lt_size e
  | frz ob u => obtain ⟨e, _⟩ := x; exact Heap.lt_size e
  | tbl ps => exact Heap.lt_size (show h.get? a = some _ from x)
  | met f y => exact Heap.lt_size (show h.get? a = some _ from x)
  | ext φ => obtain ⟨_, ⟨_, e⟩, _⟩ := x; exact Heap.lt_size e
theorem Paired.mapP {α β : Type} {F G : α → β → Prop} : ∀ {l₁ : List α} {l₂ : List β}, Paired F l₁ l₂ → (∀ a b, F a b → G a b) → Paired G l₁ l₂
  | _, _, .nil, _ => .nil
  | _, _, .cons r t, f => .cons (f _ _ r) (Paired.mapP t f)
/-- what an object's description leans on: its own object, its own dict, the tuples -/
theorem ObjOk.stay (x : ObjOk P w H h a o) (k : ∀ b u, (b = a ∨ H b = some (.own a)) → h.get? b = some u → h'.get? b = some u)
    (ho : ∀ b, H b = some (.own a) → H' b = some (.own a)) (ht : ∀ b xs, H b = some (.tup xs) → H' b = some (.tup xs)) : ObjOk P w H' h' a o := by
  induction o with
  | lst xs => obtain ⟨z, its, n, r, e⟩ := x; exact ⟨z, its, n, r, k _ _ (.inl rfl) e⟩
  | tup xs => obtain ⟨z, its, r, ob, e, c⟩ := x; exact ⟨z, its, r, ob, k _ _ (.inl rfl) e, c⟩
  | dK kvs => obtain ⟨z, y, vs, r, ob, es, ep, e, c⟩ := x; exact ⟨z, y, vs, r, ob, es, ep, k _ _ (.inl rfl) e, c⟩
  | dT kvs =>
    obtain ⟨z, y, xs, r, ob, es, ep, e, c⟩ := x
    exact ⟨z, y, xs, Paired.mapP r fun p q z => ⟨z.1, ht _ _ z.2.1, z.2.2⟩, ob, es, ep, k _ _ (.inl rfl) e, c⟩
  | set S n => obtain ⟨ob, es, ep, t, e, c⟩ := x; exact ⟨ob, es, ep, t, k _ _ (.inl rfl) e, c⟩
  | ins C dx fs =>
    obtain ⟨d, z, ne, e, mA, ⟨od, es, ep, e2, c⟩, r⟩ := x
    exact ⟨ho _ d, z, ne, k _ _ (.inl rfl) e, mA, ⟨od, es, ep, k _ _ (.inr d) e2, c⟩, r⟩
  | own y => obtain ⟨ob, e⟩ := x; exact ⟨ob, k _ _ (.inl rfl) e⟩
  | xd fs => obtain ⟨mA, ⟨od, es, ep, e, c⟩, r⟩ := x; exact ⟨mA, ⟨od, es, ep, k _ _ (.inl rfl) e, c⟩, r⟩
  | rng lo hi => obtain ⟨t, u, v, e⟩ := x; exact ⟨t, u, v, k _ _ (.inl rfl) e⟩
  | frz ob u ih => obtain ⟨e, q⟩ := x; exact ⟨k _ _ (.inl rfl) e, ih q⟩
  | tbl ps =>
    have e : h.get? a = some { cls := .none, data := .fields ps } := x
    show h'.get? a = some { cls := .none, data := .fields ps }
    exact k a _ (.inl rfl) e
  | met f y =>
    have e : h.get? a = some (PySem.W.methodObj (.ref f) (.ref y)) := x
    show h'.get? a = some (PySem.W.methodObj (.ref f) (.ref y))
    exact k a _ (.inl rfl) e
  | ext φ => obtain ⟨p, ⟨o, e⟩, st⟩ := x; exact ⟨st _ _ p fun o q => k _ _ (.inl rfl) q, ⟨o, k _ _ (.inl rfl) e⟩, st⟩
theorem HOk.lt (x : HOk P w H h) (e : H a = some o) : a < h.objs.size := (x a o e).lt
theorem HOk.fresh (x : HOk P w H h) (e : h.objs.size ≤ a) : H a = none := by
  cases q : H a with
  | none => rfl
  | some u => exact absurd (Nat.lt_of_lt_of_le (x.lt q) e) (Nat.lt_irrefl _)
/-- every object of the heap is kept -/
theorem HOk.kept (x : HOk P w H h) (k : ∀ b u, h.get? b = some u → h'.get? b = some u) : HOk P w H h' := fun a o e =>
  (x a o e).stay (fun b u _ q => k b u q) (fun _ q => q) fun _ _ q => q
/-- a new object is laid and tracked -/
theorem HOk.laid (x : HOk P w H h) (k : ∀ b u, h.get? b = some u → h'.get? b = some u) (hp : h.objs.size ≤ a) (new : ObjOk P w (upd H a o) h' a o) : HOk P w (upd H a o) h' := fun b u e => by
  have hn := x.fresh hp
  by_cases hb : b = a
  · subst hb; rw [upd_same] at e; cases e; exact new
  · rw [upd_ne hb] at e
    exact (x b u e).stay (fun c v _ q => k c v q) (fun c q => by rw [upd_ne (ne_of_none q hn)]; exact q) fun c xs q => by rw [upd_ne (ne_of_none q hn)]; exact q
end

/-- what may be read as u: it is u, or a known u -/
def Rd (H : Hp) (a : Addr) (u : HO) : Prop := H a = some u ∨ ∃ o, H a = some (.frz o u)
theorem Rd.of {H : Hp} {a : Addr} {u : HO} (h : H a = some u) : Rd H a u := .inl h
theorem Rd.ok {P : Program} {w : World} {H : Hp} {h : Heap} {a : Addr} {u : HO} (r : Rd H a u) (x : HOk P w H h) : ObjOk P w H h a u := by
  rcases r with r | ⟨o, r⟩
  · exact x a u r
  · obtain ⟨_, q⟩ := x a _ r
    exact q
/-- what may be written -/
def Mut : Option HO → Prop
  | some (.lst _) => True
  | some (.dK _) => True
  | some (.dT _) => True
  | some (.set _ _) => True
  | some (.ins _ _ _) => True
  | some (.ext _) => True
  | _ => False
section
variable {P : Program} {w : World} {H : Hp} {h h' : Heap} {x e : Addr} {o' : HO}
/-- the object at e is changed: x itself, or the dict of the instance x -/
theorem HOk.write (ok : HOk P w H h) (mu : Mut (H x)) (he : e = x ∨ H e = some (.own x)) (k : ∀ b u, b ≠ e → h.get? b = some u → h'.get? b = some u) (heo : ∃ u, h'.get? e = some u)
    (new : ObjOk P w (upd H x o') h' x o') : HOk P w (upd H x o') h' := fun b u q => by
  have nown : ∀ c y, H c = some (.own y) → c ≠ x := fun c y r z => by subst z; rw [r] at mu; exact mu
  have ntup : ∀ c xs, H c = some (.tup xs) → c ≠ x := fun c xs r z => by subst z; rw [r] at mu; exact mu
  by_cases hb : b = x
  · subst hb; rw [upd_same] at q; cases q; exact new
  · rw [upd_ne hb] at q
    by_cases hbe : b = e
    · have q' : H b = some (.own x) := by
        rcases he with z | z
        · exact absurd (hbe.trans z) hb
        · rw [hbe]; exact z
      rw [q] at q'; cases q'
      obtain ⟨v, hv⟩ := heo
      exact ⟨v, by rw [hbe]; exact hv⟩
    · refine (ok b u q).stay (fun c v hc r => k c v ?_ r) (fun c r => by rw [upd_ne (nown c b r)]; exact r) fun c xs r => by rw [upd_ne (ntup c xs r)]; exact r
      rcases hc with rfl | hc
      · exact hbe
      · rintro rfl
        rcases he with z | z
        · exact nown c b hc z
        · rw [hc] at z; cases z; exact hb rfl
end

/-! ### kept unless tracked; of the frames at fs (the callers') the slots may change (an exception that passes writes there); of the records at ex (iterators) nothing is said -/
structure Un (fs ex : List Addr) (H H' : Hp) (h h' : Heap) : Prop where
  keep : ∀ b o, h.get? b = some o → H b = none → b ∉ fs → b ∉ ex → h'.get? b = some o
  slot : ∀ b o, h.get? b = some o → H b = none → b ∈ fs → b ∉ ex → ∃ sl, h'.get? b = some { o with slots := sl }
  free : ∀ b o, h.get? b = some o → H b = none → b ∉ ex → H' b = none
  there : ∀ b o, h.get? b = some o → b ∉ ex → ∃ o', h'.get? b = some o'
  tups : ∀ b xs, H b = some (.tup xs) → H' b = some (.tup xs)
  frzs : ∀ b o u, H b = some (.frz o u) → H' b = some (.frz o u)
  tbls : ∀ b ps, H b = some (.tbl ps) → ∃ more, H' b = some (.tbl (ps ++ more))
section
variable {fs fs' ex ex' : List Addr} {H H1 H2 : Hp} {h h1 h2 h' : Heap} {a x e : Addr} {o : HO}
theorem Un.any (u : Un fs ex H H1 h h1) {b : Addr} {ob : Obj} (q : h.get? b = some ob) (n : H b = none) (hx : b ∉ ex) : ∃ sl, h1.get? b = some { ob with slots := sl } := by
  by_cases hb : b ∈ fs
  · exact u.slot b ob q n hb hx
  · exact ⟨ob.slots, u.keep b ob q n hb hx⟩
theorem Un.trans (a : Un fs ex H H1 h h1) (b : Un fs ex H1 H2 h1 h2) : Un fs ex H H2 h h2 where
  keep := fun c ob q n hc hx => b.keep c ob (a.keep c ob q n hc hx) (a.free c ob q n hx) hc hx
  slot := fun c ob q n hc hx => by
    obtain ⟨sl, e1⟩ := a.slot c ob q n hc hx
    obtain ⟨sl', e2⟩ := b.slot c _ e1 (a.free c ob q n hx) hc hx
    exact ⟨sl', e2⟩
  free := fun c ob q n hx => by
    obtain ⟨o', e1⟩ := a.there c ob q hx
    exact b.free c o' e1 (a.free c ob q n hx) hx
  there := fun c ob q hx => by
    obtain ⟨o', e1⟩ := a.there c ob q hx
    exact b.there c o' e1 hx
  tups := fun c xs q => b.tups c xs (a.tups c xs q)
  frzs := fun c ob xs q => b.frzs c ob xs (a.frzs c ob xs q)
  tbls := fun c ps q => by
    obtain ⟨m1, e1⟩ := a.tbls c ps q
    obtain ⟨m2, e2⟩ := b.tbls c _ e1
    exact ⟨m1 ++ m2, by rw [e2, Array.append_assoc]⟩
theorem Un.kept (k : ∀ b u, h.get? b = some u → h'.get? b = some u) : Un fs ex H H h h' :=
  ⟨fun b ob q _ _ _ => k b ob q, fun b ob q _ _ _ => ⟨ob.slots, k b ob q⟩, fun _ _ _ n _ => n, fun b ob q _ => ⟨ob, k b ob q⟩, fun _ _ q => q, fun _ _ _ q => q, fun _ ps q => ⟨#[], by rw [q]; simp⟩⟩
theorem Un.refl : Un fs ex H H h h := Un.kept fun _ _ q => q
theorem Un.laid (k : ∀ b u, h.get? b = some u → h'.get? b = some u) (hp : h.objs.size ≤ a) (hn : H a = none) : Un fs ex H (upd H a o) h h' where
  keep := fun b u q _ _ _ => k b u q
  slot := fun b u q _ _ _ => ⟨u.slots, k b u q⟩
  free := fun b u q n _ => by rw [upd_ne (Nat.ne_of_lt (Nat.lt_of_lt_of_le (Heap.lt_size q) hp))]; exact n
  there := fun b u q _ => ⟨u, k b u q⟩
  tups := fun b xs q => by rw [upd_ne (ne_of_none q hn)]; exact q
  frzs := fun b u xs q => by rw [upd_ne (ne_of_none q hn)]; exact q
  tbls := fun b ps q => ⟨#[], by rw [upd_ne (ne_of_none q hn), q]; simp⟩
theorem Un.write (mu : Mut (H x)) (he : e = x ∨ H e = some (.own x)) (k : ∀ b u, b ≠ e → h.get? b = some u → h'.get? b = some u) (heo : ∃ u, h'.get? e = some u) : Un fs ex H (upd H x o) h h' := by
  have hx : ∀ b, H b = none → b ≠ x := fun b n z => by subst z; rw [n] at mu; exact mu
  have hb : ∀ b, H b = none → b ≠ e := fun b n z => by
    subst z
    rcases he with r | r
    · exact hx b n r
    · rw [n] at r; cases r
  have hm : ∀ b u, H b = some u → ¬ Mut (some u) → b ≠ x := fun b u q nm z => by subst z; rw [q] at mu; exact nm mu
  refine ⟨fun b u q n _ _ => k b u (hb b n) q, fun b u q n _ _ => ⟨u.slots, k b u (hb b n) q⟩, fun b u q n _ => by rw [upd_ne (hx b n)]; exact n, fun b u q _ => ?_,
    fun b xs q => by rw [upd_ne (hm b _ q fun z => z)]; exact q, fun b u xs q => by rw [upd_ne (hm b _ q fun z => z)]; exact q, fun b ps q => ⟨#[], by rw [upd_ne (hm b _ q fun z => z), q]; simp⟩⟩
  by_cases hbe : b = e
  · subst hbe; exact heo
  · exact ⟨u, k b u hbe q⟩
theorem Un.mono (u : Un fs ex H H1 h h1) (hs : ∀ b ∈ fs, b ∈ fs') (hx : ∀ b ∈ ex, b ∈ ex') : Un fs' ex' H H1 h h1 :=
  ⟨fun b ob q n hb he => u.keep b ob q n (fun z => hb (hs b z)) fun z => he (hx b z), fun _ _ q n _ he => u.any q n fun z => he (hx _ z), fun b ob q n he => u.free b ob q n fun z => he (hx b z), fun b ob q he => u.there b ob q fun z => he (hx b z), u.tups, u.frzs, u.tbls⟩
end

/-! ### the heap without what is tracked -/
def trk (h : Heap) (H : Hp) : List Addr := (List.range h.objs.size).filter fun a => (H a).isSome
def hidT (h : Heap) (H : Hp) : Heap := PySem.W.hideAll h (trk h H)
theorem hidT_size (h : Heap) (H : Hp) : (hidT h H).objs.size = h.objs.size := PySem.W.hideAll_size _ _
theorem hidT_get {h : Heap} {H : Hp} {b : Addr} {o : Obj} (e : h.get? b = some o) (n : H b = none) : (hidT h H).get? b = some o :=
  PySem.W.hideAll_get _ e fun hm => by
    have q : (H b).isSome = true := (List.mem_filter.mp hm).2
    rw [n] at q; simp at q
theorem of_hidT {h : Heap} {H : Hp} {b : Addr} {o : Obj} (e : (hidT h H).get? b = some o) : h.get? b = some o ∧ H b = none := by
  have e' : h.get? b = some o := PySem.W.of_hideAll (trk h H) e
  refine ⟨e', ?_⟩
  cases q : H b with
  | none => rfl
  | some x =>
    have hm : b ∈ trk h H := List.mem_filter.mpr ⟨List.mem_range.mpr (Heap.lt_size e'), by simp [q]⟩
    have z : (hidT h H).get? b = none := PySem.W.hideAll_none (trk h H) hm
    rw [z] at e; cases e

/-! ### OpenK's ledger, filled with every new object but one -/
def allNews (g h : Heap) (L : Addr) : List (Addr × Obj) := (List.range h.objs.size).filterMap fun a => if a = L ∨ (g.get? a).isSome = true then none else (h.get? a).map fun o => (a, o)
def rest (g h : Heap) (L d : Addr) : List (Addr × Obj) := (allNews g h L).filter fun p => decide (p.1 ≠ d)
end L2

namespace L2
open PySem PySem.Spec PyProof.Rows

/-- the module's facts, over the base: the heap at the law's entry without what is tracked there -/
structure Mod (K : PySem.W.Frag) (mg : Str → Option Value) (base : Heap) : Prop where
  kin : K.In base
  glob : base.Ns mainGlobals mg
  blt : ∃ mb, base.Ns builtinsNs mb ∧ ∀ x : Str, x ≠ "__name__" → mb x = bootBuiltins x
  nolimit : base.NoLimit

/-- the context: a def's body (or a comprehension's block) running. base: fixed through the whole law; s₀, H₀: the entry; outer: the frames whose slots others may change (a def's callers); stack: all frames that run;
   ex: iterators that were made ahead of the entry and are walked here (a comprehension's); fn: the names whose cells were made at the entry (a def: all; a comprehension's block: its own); calm: not within an except suite; pn: pins that every state bears; xe: what is wanted of an exception that leaves the code -/
structure Cx where
  prog : Program
  w : World
  K : PySem.W.Frag
  mg : Str → Option Value
  base : Heap
  A : Around
  N : List Str
  s_0 : Shared
  H_0 : Hp
  env : Env
  outer : List Env
  stack : List Env
  ex : List Addr
  fn : Str → Bool
  calm : Bool
  pn : List (Addr × Obj)
  xe : Value → Shared → Prop
/-- the callers' frames -/
def frs (l : List Env) : List Addr := l.filterMap (·.frame)
abbrev Cx.fs (X : Cx) : List Addr := frs X.outer

def Vis (sc : Scope) (x : Str) : Prop := sc.names.lookup x = some .local ∨ sc.names.lookup x = some .cell ∨ sc.names.lookup x = some .free
def Loc (sc : Scope) (x : Str) : Prop := sc.names.lookup x = some .local ∨ sc.names.lookup x = some .cell
def Look (env : Env) (h : Heap) (m : Str → Option Value) (x : Str) (u : Value) : Prop :=
  (env.kindOf x = some .local ∧ m x = some u) ∨ ((env.kindOf x = some .cell ∨ env.kindOf x = some .free) ∧ ∃ c, env.cells.lookup x = some c ∧ h.IsCell c (some u))

structure Cx.Ok (X : Cx) : Prop where
  mod : Mod X.K X.mg X.base
  kind : X.env.scope.kind = .function
  glob : X.env.globals = mainGlobals
  blt : X.env.builtins = builtinsNs
  above : X.s_0.heap.objs.size ≤ X.env.locals
  inj : ∀ x y c, X.env.cells.lookup x = some c → X.env.cells.lookup y = some c → x = y
  has : ∀ x, (X.env.kindOf x = some .cell ∨ X.env.kindOf x = some .free) → ∃ c, X.env.cells.lookup x = some c
  cab : ∀ x c, X.fn x = true → X.env.cells.lookup x = some c → X.s_0.heap.objs.size ≤ c
  hd : X.calm = true → X.A.handled = none
  frames : X.A.frames = some X.stack
  stk : X.stack = X.outer ∨ (X.stack = X.env :: X.outer ∧ X.env.frame = some X.env.locals)
  exf : ∀ b ∈ X.ex, b ≠ X.env.locals ∧ ∀ x c, X.env.cells.lookup x = some c → c ≠ b
  bs : ∀ b o, X.base.get? b = some o → X.s_0.heap.get? b = some o ∧ X.H_0 b = none
  bsz : X.base.objs.size ≤ X.s_0.heap.objs.size
  noex : ∀ b o, X.base.get? b = some o → b ∉ X.ex
  exfs : ∀ b ∈ X.ex, b ∉ X.fs
  funs : X.s_0.heap.FunFrames X.base X.outer
  frf : ∀ b ∈ X.fs, X.H_0 b = none

structure Inv (X : Cx) (pins : List (Addr × Obj)) (σ : List (Option V)) (H : Hp) (s : Shared) : Prop where
  ok : X.Ok
  os : s.os = X.s_0.os
  bare : AllBare s.gens
  base : Un X.fs X.ex X.H_0 H X.s_0.heap s.heap
  loc : ∃ m, s.heap.Ns X.env.locals m ∧ ∀ (i : Nat) (x : Str) (v : V), X.N[i]? = some x → σ[i]? = some (some v) → Vis X.env.scope x → ∃ u, RelV v u ∧ Look X.env s.heap m x u
  cell : ∀ x c, X.env.cells.lookup x = some c → ∃ v, s.heap.IsCell c v
  free : H X.env.locals = none
  freeC : ∀ x c, X.env.cells.lookup x = some c → H c = none
  pin : ∀ p ∈ X.pn ++ pins, s.heap.get? p.1 = some p.2 ∧ H p.1 = none ∧ p.1 ≠ X.env.locals ∧ p.1 ∉ X.fs ∧ ∀ v, p.2.data ≠ .cell v
  hok : HOk X.prog X.w H s.heap
  len : σ.length = X.N.length

section
variable {X : Cx} {pins : List (Addr × Obj)} {σ : List (Option V)} {H H' : Hp} {s : Shared} {h' : Heap}

theorem Cx.Ok.nofr (ok : X.Ok) {b : Addr} {o : Obj} (e : X.base.get? b = some o) : b ∉ X.fs := fun hb => by
  have := (ok.funs.mem hb).1
  rw [e] at this; cases this
theorem Inv.bs (I : Inv X pins σ H s) : ∀ b o, X.base.get? b = some o → s.heap.get? b = some o ∧ H b = none := fun b o e =>
  ⟨I.base.keep b o (I.ok.bs b o e).1 (I.ok.bs b o e).2 (I.ok.nofr e) (I.ok.noex b o e), I.base.free b o (I.ok.bs b o e).1 (I.ok.bs b o e).2 (I.ok.noex b o e)⟩
theorem Inv.bk (I : Inv X pins σ H s) : ∀ b o, X.base.get? b = some o → s.heap.get? b = some o := fun b o e => (I.bs b o e).1
theorem Inv.mod (I : Inv X pins σ H s) : Mod X.K X.mg X.base := I.ok.mod
theorem Inv.kIn (I : Inv X pins σ H s) : X.K.In s.heap := I.ok.mod.kin.keeps I.bk
theorem Inv.nolimit (I : Inv X pins σ H s) : s.heap.NoLimit := I.ok.mod.nolimit.keeps I.bk
/-- the frame over the base: for OpenK's rules (K.In X.base is I.mod.kin) -/
theorem Inv.fr (I : Inv X pins σ H s) : ∃ m, Fr X.base X.env.locals s.heap m :=
  let ⟨m, hn, _⟩ := I.loc
  ⟨m, hn, I.bk, Nat.le_trans I.ok.bsz I.ok.above⟩
theorem Inv.lt (I : Inv X pins σ H s) : X.env.locals < s.heap.objs.size := let ⟨_, hn, _⟩ := I.loc; hn.lt
theorem Inv.sz (I : Inv X pins σ H s) : X.s_0.heap.objs.size ≤ s.heap.objs.size := Nat.le_trans I.ok.above (Nat.le_of_lt I.lt)
theorem Inv.nofs (I : Inv X pins σ H s) {a : Addr} (h : s.heap.objs.size ≤ a) : a ∉ X.fs := fun hb => by
  obtain ⟨_, o, ho, _⟩ := I.ok.funs.mem hb
  exact absurd (Nat.lt_of_lt_of_le (Heap.lt_size ho) (Nat.le_trans I.sz h)) (Nat.lt_irrefl _)
theorem Inv.cne (I : Inv X pins σ H s) : ∀ x c, X.env.cells.lookup x = some c → c ≠ X.env.locals := fun x c e z => by
  obtain ⟨v, o, ho, hd⟩ := I.cell x c e
  obtain ⟨m, ⟨o', es, ep, ho', hd', _⟩, _⟩ := I.loc
  rw [z, ho'] at ho; cases ho; rw [hd'] at hd; cases hd
theorem Inv.funs (I : Inv X pins σ H s) : s.heap.FunFrames X.base X.outer := by
  have all : ∀ (l : List Env), (∀ b ∈ frs l, b ∈ X.fs) → X.s_0.heap.FunFrames X.base l → s.heap.FunFrames X.base l := by
    intro l
    induction l with
    | nil => intro _ _; trivial
    | cons env r ih =>
      intro hs hl
      obtain ⟨hk, ⟨L, o, hf, hn, ho, hd⟩, hr⟩ := hl
      have hL : L ∈ X.fs := hs L (by unfold frs; rw [List.filterMap_cons, hf]; exact List.mem_cons_self)
      obtain ⟨sl, e⟩ := I.base.slot L o ho (I.ok.frf L hL) hL fun z => I.ok.exfs L z hL
      exact ⟨hk, ⟨L, _, hf, hn, e, hd⟩, ih (fun b hb => hs b (by unfold frs; rw [List.filterMap_cons, hf]; exact List.mem_cons_of_mem _ hb)) hr⟩
  exact all X.outer (fun _ hb => hb) I.ok.funs

/-- the frames that run, for a call -/
theorem Inv.stack (I : Inv X pins σ H s) : s.heap.FunFrames X.base X.stack := by
  rcases I.ok.stk with e | ⟨e, hf⟩
  · rw [e]; exact I.funs
  · rw [e]
    obtain ⟨m, hn, _⟩ := I.loc
    refine .cons (by rw [I.ok.kind]; decide) hf hn ?_ I.funs
    exact Heap.get?_none_of_le (Nat.le_trans I.ok.bsz I.ok.above)
theorem Inv.stkSub (I : Inv X pins σ H s) : ∀ b ∈ frs X.stack, b ∈ X.env.locals :: X.fs := fun b hb => by
  rcases I.ok.stk with e | ⟨e, hf⟩
  · rw [e] at hb; exact List.mem_cons_of_mem _ hb
  · rw [e] at hb
    unfold frs at hb
    rw [List.filterMap_cons, hf] at hb
    exact hb
theorem Inv.stkFree (I : Inv X pins σ H s) : ∀ b ∈ frs X.stack, H b = none := fun b hb => by
  rcases List.mem_cons.mp (I.stkSub b hb) with e | hb
  · rw [e]; exact I.free
  · obtain ⟨_, o, ho, _⟩ := I.ok.funs.mem hb
    exact I.base.free b o ho (I.ok.frf b hb) fun z => I.ok.exfs b z hb

/-- THE STEP: the untracked objects but the frame and the records at ch are kept (the callers' frames up to slots), the frame's map is kept, the new abstract heap is held -/
theorem Inv.step {g' : Array GenState} {t' : Nat} {d' : Drawn} {ch : List Addr} (I : Inv X pins σ H s)
    (hch : ∀ b ∈ ch, (b ∈ X.ex ∨ X.s_0.heap.objs.size ≤ b) ∧ b ≠ X.env.locals ∧ (∀ x c, X.env.cells.lookup x = some c → c ≠ b) ∧ ∀ p ∈ X.pn ++ pins, p.1 ≠ b)
    (keep : ∀ b o, b ≠ X.env.locals → b ∉ X.fs → b ∉ ch → s.heap.get? b = some o → H b = none → h'.get? b = some o)
    (slot : ∀ b o, b ≠ X.env.locals → b ∈ X.fs → b ∉ ch → s.heap.get? b = some o → H b = none → ∃ sl, h'.get? b = some { o with slots := sl }) (free : ∀ b o, b ∉ ch → s.heap.get? b = some o → H b = none → H' b = none)
    (there : ∀ b o, b ∉ ch → s.heap.get? b = some o → ∃ o', h'.get? b = some o')
    (tups : ∀ b xs, H b = some (.tup xs) → H' b = some (.tup xs)) (frzs : ∀ b o u, H b = some (.frz o u) → H' b = some (.frz o u)) (tbls : ∀ b ps, H b = some (.tbl ps) → ∃ more, H' b = some (.tbl (ps ++ more)))
    (ns : ∀ m, s.heap.Ns X.env.locals m → h'.Ns X.env.locals m) (hok : HOk X.prog X.w H' h') (hg : AllBare g') :
    Inv X pins σ H' { s with heap := h', gens := g', drawn := d', toks := t' } := by
  have neL : ∀ b o, X.s_0.heap.get? b = some o → b ≠ X.env.locals := fun b o e => Nat.ne_of_lt (Nat.lt_of_lt_of_le (Heap.lt_size e) I.ok.above)
  have neC : ∀ b o, X.s_0.heap.get? b = some o → b ∉ X.ex → b ∉ ch := fun b o e hx hb => by
    rcases (hch b hb).1 with z | z
    · exact hx z
    · exact absurd (Nat.lt_of_lt_of_le (Heap.lt_size e) z) (Nat.lt_irrefl _)
  have cellK : ∀ x c, X.env.cells.lookup x = some c → ∀ v, s.heap.IsCell c v → h'.IsCell c v := fun x c e v ⟨o, ho, hd⟩ => by
    have nch : c ∉ ch := fun z => (hch c z).2.2.1 x c e rfl
    by_cases hc : c ∈ X.fs
    · obtain ⟨sl, q⟩ := slot c o (I.cne x c e) hc nch ho (I.freeC x c e)
      exact ⟨_, q, hd⟩
    · exact ⟨o, keep c o (I.cne x c e) hc nch ho (I.freeC x c e), hd⟩
  refine ⟨I.ok, I.os, hg, ⟨fun b o e n hb hx => ?_, fun b o e n hb hx => ?_, fun b o e n hx => ?_, fun b o e hx => ?_, fun b xs e => tups b xs (I.base.tups b xs e), fun b o xs e => frzs b o xs (I.base.frzs b o xs e), fun b ps e => ?_⟩, ?_, fun x c e => ?_, ?_, fun x c e => ?_, fun p hp => ?_, hok, I.len⟩
  · exact keep b o (neL b o e) hb (neC b o e hx) (I.base.keep b o e n hb hx) (I.base.free b o e n hx)
  · obtain ⟨sl, e1⟩ := I.base.slot b o e n hb hx
    obtain ⟨sl', e2⟩ := slot b _ (neL b o e) hb (neC b o e hx) e1 (I.base.free b o e n hx)
    exact ⟨sl', e2⟩
  · obtain ⟨o', e1⟩ := I.base.there b o e hx
    exact free b o' (neC b o e hx) e1 (I.base.free b o e n hx)
  · obtain ⟨o', e1⟩ := I.base.there b o e hx
    exact there b o' (neC b o e hx) e1
  · obtain ⟨m1, e1⟩ := I.base.tbls b ps e
    obtain ⟨m2, e2⟩ := tbls b _ e1
    exact ⟨m1 ++ m2, by rw [e2, Array.append_assoc]⟩
  · obtain ⟨m, hn, hl⟩ := I.loc
    refine ⟨m, ns m hn, fun i x v e1 e2 e3 => ?_⟩
    obtain ⟨u, r, l⟩ := hl i x v e1 e2 e3
    refine ⟨u, r, ?_⟩
    rcases l with l | ⟨k, c, e, z⟩
    · exact .inl l
    · exact .inr ⟨k, c, e, cellK x c e _ z⟩
  · obtain ⟨v, z⟩ := I.cell x c e
    exact ⟨v, cellK x c e v z⟩
  · obtain ⟨m, ⟨o, _, _, ho, _⟩, _⟩ := I.loc
    exact free _ o (fun z => (hch _ z).2.1 rfl) ho I.free
  · obtain ⟨v, o, ho, hd⟩ := I.cell x c e
    exact free c o (fun z => (hch c z).2.2.1 x c e rfl) ho (I.freeC x c e)
  · obtain ⟨e, n, ne, nf, d⟩ := I.pin p hp
    have nch : p.1 ∉ ch := fun z => (hch p.1 z).2.2.2 p hp rfl
    exact ⟨keep p.1 p.2 ne nf nch e n, free p.1 p.2 nch e n, ne, nf, d⟩
/-- .. where the frame's own object is kept too -/
theorem Inv.un {t' : Nat} (I : Inv X pins σ H s) (u : Un X.fs [] H H' s.heap h') (hok : HOk X.prog X.w H' h') : Inv X pins σ H' { s with heap := h', toks := t' } := by
  obtain ⟨m, ⟨o, es, ep, ho, r⟩, _⟩ := id I.loc
  obtain ⟨sl, hL⟩ := u.any ho I.free (by simp)
  exact I.step (g' := s.gens) (d' := s.drawn) (ch := []) (fun _ z => nomatch z) (fun b o _ hb _ e n => u.keep b o e n hb (by simp)) (fun b o _ hb _ e n => u.slot b o e n hb (by simp)) (fun b o _ e n => u.free b o e n (by simp)) (fun b o _ e => u.there b o e (by simp)) u.tups u.frzs u.tbls (fun m' hm => by
    obtain ⟨o', es', ep', ho', r'⟩ := hm
    rw [ho] at ho'; cases ho'
    exact ⟨_, es', ep', hL, r'⟩) hok I.bare
/-- behind a call (or a comprehension's block): the slots of this frame may have changed too, the records at ch may have turned -/
theorem Inv.call {g' : Array GenState} {t' : Nat} {d' : Drawn} {ch : List Addr} (I : Inv X pins σ H s) (u : Un (frs X.stack) ch H H' s.heap h') (hok : HOk X.prog X.w H' h') (hg : AllBare g')
    (hch : ∀ b ∈ ch, (b ∈ X.ex ∨ X.s_0.heap.objs.size ≤ b) ∧ b ≠ X.env.locals ∧ (∀ x c, X.env.cells.lookup x = some c → c ≠ b) ∧ ∀ p ∈ X.pn ++ pins, p.1 ≠ b) :
    Inv X pins σ H' { s with heap := h', gens := g', drawn := d', toks := t' } := by
  obtain ⟨m, ⟨o, es, ep, ho, r⟩, _⟩ := id I.loc
  obtain ⟨sl, hL⟩ := u.any ho I.free fun z => (hch _ z).2.1 rfl
  exact I.step (ch := ch) hch (fun b o hL hb hc e n => u.keep b o e n (fun z => (List.mem_cons.mp (I.stkSub b z)).elim hL hb) hc) (fun b o _ _ hc e n => u.any e n hc) (fun b o hc e n => u.free b o e n hc) (fun b o hc e => u.there b o e hc) u.tups u.frzs u.tbls (fun m' hm => by
    obtain ⟨o', es', ep', ho', r'⟩ := hm
    rw [ho] at ho'; cases ho'
    exact ⟨_, es', ep', hL, r'⟩) hok hg
/-- an untracked record of ours (an iterator) has turned -/
theorem Inv.turned {t' : Nat} {it : Addr} (I : Inv X pins σ H s) (k : ∀ b o, b ≠ it → s.heap.get? b = some o → h'.get? b = some o) (hn : H it = none) (hL : it ≠ X.env.locals)
    (h1 : it ∈ X.ex ∨ X.s_0.heap.objs.size ≤ it) (h2 : ∀ x c, X.env.cells.lookup x = some c → c ≠ it) (h3 : ∀ p ∈ X.pn ++ pins, p.1 ≠ it) : Inv X pins σ H { s with heap := h', toks := t' } := by
  have nit : ∀ b u, H b = some u → b ≠ it := fun b u e z => by rw [z, hn] at e; cases e
  refine I.step (g' := s.gens) (d' := s.drawn) (ch := [it]) (fun b hb => ?_) (fun b o _ _ hc e _ => k b o (fun z => hc (by simp [z])) e) (fun b o _ _ hc e _ => ⟨o.slots, k b o (fun z => hc (by simp [z])) e⟩) (fun _ _ _ _ n => n)
    (fun b o hc e => ⟨o, k b o (fun z => hc (by simp [z])) e⟩) (fun _ _ e => e) (fun _ _ _ e => e) (fun b ps e => ⟨#[], by rw [e]; simp⟩) (fun m hm => ?_) (fun b u e => ?_) I.bare
  · have e : b = it := by simpa using hb
    subst e
    exact ⟨h1, hL, h2, h3⟩
  · obtain ⟨o, es, ep, ho, r⟩ := hm
    exact ⟨o, es, ep, k _ o (Ne.symm hL) ho, r⟩
  · refine (I.hok b u e).stay (fun c v hc q => k c v ?_ q) (fun _ q => q) fun _ _ q => q
    rcases hc with z | z
    · rw [z]; exact nit b u e
    · exact nit c _ z
theorem Inv.tok (I : Inv X pins σ H s) (t : Nat) : Inv X pins σ H { s with toks := t } := I.un (h' := s.heap) (t' := t) Un.refl I.hok
/-- all objects kept -/
theorem Inv.kept {t' : Nat} (I : Inv X pins σ H s) (k : ∀ b u, s.heap.get? b = some u → h'.get? b = some u) : Inv X pins σ H { s with heap := h', toks := t' } := I.un (Un.kept k) (I.hok.kept k)
/-- a new object laid and tracked -/
theorem Inv.laid {a : Addr} {o : HO} {t' : Nat} (I : Inv X pins σ H s) (k : ∀ b u, s.heap.get? b = some u → h'.get? b = some u) (hp : s.heap.objs.size ≤ a) (new : ObjOk X.prog X.w (upd H a o) h' a o) :
    Inv X pins σ (upd H a o) { s with heap := h', toks := t' } := I.un (Un.laid k hp (I.hok.fresh hp)) (I.hok.laid k hp new)
/-- an object written -/
theorem Inv.write {x e : Addr} {o : HO} {t' : Nat} (I : Inv X pins σ H s) (mu : Mut (H x)) (he : e = x ∨ H e = some (.own x)) (k : ∀ b u, b ≠ e → s.heap.get? b = some u → h'.get? b = some u) (heo : ∃ u, h'.get? e = some u)
    (new : ObjOk X.prog X.w (upd H x o) h' x o) : Inv X pins σ (upd H x o) { s with heap := h', toks := t' } := I.un (Un.write mu he k heo) (I.hok.write mu he k heo new)
/-- forgetting slots, pins -/
theorem Inv.weak {σ' : List (Option V)} (I : Inv X pins σ H s) (hl : σ'.length = σ.length) (w : ∀ (i : Nat) v, σ'[i]? = some (some v) → σ[i]? = some (some v)) : Inv X pins σ' H s :=
  ⟨I.ok, I.os, I.bare, I.base, let ⟨m, hn, hl'⟩ := I.loc; ⟨m, hn, fun i x v e1 e2 e3 => hl' i x v e1 (w i v e2) e3⟩, I.cell, I.free, I.freeC, I.pin, I.hok, hl.trans I.len⟩
theorem Inv.pins_of {pins' : List (Addr × Obj)} (I : Inv X pins σ H s) (h : ∀ p ∈ pins', s.heap.get? p.1 = some p.2 ∧ H p.1 = none ∧ p.1 ≠ X.env.locals ∧ p.1 ∉ X.fs ∧ ∀ v, p.2.data ≠ .cell v) : Inv X pins' σ H s :=
  ⟨I.ok, I.os, I.bare, I.base, I.loc, I.cell, I.free, I.freeC, fun p hp => (List.mem_append.mp hp).elim (fun z => I.pin p (List.mem_append_left _ z)) (h p), I.hok, I.len⟩

theorem nodup_ix {N : List Str} (hN : N.Nodup) {i j : Nat} {x : Str} (a : N[i]? = some x) (b : N[j]? = some x) : i = j := by
  obtain ⟨h1, e1⟩ := List.getElem?_eq_some_iff.mp a
  obtain ⟨h2, e2⟩ := List.getElem?_eq_some_iff.mp b
  exact (List.getElem_inj hN).mp (e1.trans e2.symm)

/-- a name is stored; what changed -/
theorem store_ok2 {M : Model} {A : Around} {E : Value → Shared → Prop} {i : Nat} {x : Str} {v : V} {u : Value} {Q : Unit → Shared → Prop} (I : Inv X pins σ H s) (hN : X.N.Nodup) (hi : X.N[i]? = some x) (hx : Loc X.env.scope x) (r : RelV v u)
    (h : ∀ s', Inv X pins (σ.set i (some v)) H s' → (∃ a, Heap.SameBut a s.heap s'.heap ∧ (a = X.env.locals ∨ X.env.cells.lookup x = some a)) → Q () s') (hf : X.fn x = true ∨ X.env.scope.names.lookup x = some .local := by first | exact .inl rfl | exact .inr rfl | assumption) : wpAny M A (storeName X.env x u) Q E s := by
  obtain ⟨m, hn, hl⟩ := id I.loc
  have hcls : (X.env.scope.kind == .class || (X.env.scope.kind == .module && X.env.locals != X.env.globals)) = false := by rw [I.ok.kind]; rfl
  have hiσ : i < σ.length := by rw [I.len]; exact (List.getElem?_eq_some_iff.mp hi).1
  have cne := I.cne
  have tracked : ∀ {a : Addr} {h' : Heap}, (∃ o, s.heap.get? a = some o ∧ H a = none) → Heap.SameBut a s.heap h' → HOk X.prog X.w H h' := fun {a h'} ha hs b ob e => by
    obtain ⟨_, _, hfree⟩ := ha
    refine (I.hok b ob e).stay (fun c w' hc q => (hs.2 c ?_).trans q) (fun _ q => q) fun _ _ q => q
    rintro rfl
    rcases hc with rfl | hc
    · rw [hfree] at e; cases e
    · rw [hfree] at hc; cases hc
  rcases hx with hk | hk
  · refine wpAny_storeName_local hk hn (fun h' hn' hs => ?_) hcls
    obtain ⟨oL, _, _, hoL, _⟩ := id hn
    refine h _ ⟨I.ok, I.os, I.bare, ⟨fun b o e n hb hx => ?_, fun b o e n hb hx => ?_, I.base.free, fun b o e hx => ?_, I.base.tups, I.base.frzs, I.base.tbls⟩, ⟨_, hn', fun j y v' e1 e2 e3 => ?_⟩, fun y c e => ?_, I.free, I.freeC, fun p hp => ?_, tracked ⟨oL, hoL, I.free⟩ hs, by simpa using I.len⟩ ⟨_, hs, .inl rfl⟩
    · exact (hs.2 b (Nat.ne_of_lt (Nat.lt_of_lt_of_le (Heap.lt_size e) I.ok.above))).trans (I.base.keep b o e n hb hx)
    · obtain ⟨sl, e1⟩ := I.base.slot b o e n hb hx
      exact ⟨sl, (hs.2 b (Nat.ne_of_lt (Nat.lt_of_lt_of_le (Heap.lt_size e) I.ok.above))).trans e1⟩
    · obtain ⟨o', e1⟩ := I.base.there b o e hx
      exact ⟨o', (hs.2 b (Nat.ne_of_lt (Nat.lt_of_lt_of_le (Heap.lt_size e) I.ok.above))).trans e1⟩
    · by_cases hj : j = i
      · subst hj
        rw [hi] at e1; cases e1
        rw [List.getElem?_set_self hiσ] at e2
        cases e2
        exact ⟨u, r, .inl ⟨hk, by simp⟩⟩
      · rw [List.getElem?_set_ne (Ne.symm hj)] at e2
        obtain ⟨u', r', q⟩ := hl j y v' e1 e2 e3
        refine ⟨u', r', ?_⟩
        rcases q with ⟨k, e⟩ | ⟨k, c, e, z⟩
        · refine .inl ⟨k, ?_⟩
          have : y ≠ x := fun e => hj (nodup_ix hN e1 (e ▸ hi))
          simp [this, e]
        · exact .inr ⟨k, c, e, z.sameBut hs (cne y c e)⟩
    · obtain ⟨w', z⟩ := I.cell y c e
      exact ⟨w', z.sameBut hs (cne y c e)⟩
    · obtain ⟨e, n, ne, nf, d⟩ := I.pin p hp
      exact ⟨(hs.2 p.1 ne).trans e, n, ne, nf, d⟩
  · have hfn : X.fn x = true := by
      rcases hf with z | z
      · exact z
      · rw [z] at hk; cases hk
    obtain ⟨c, hc⟩ := I.ok.has x (.inl hk)
    obtain ⟨w', z⟩ := I.cell x c hc
    refine wpAny_storeName_cell I.ok.kind hk hc z (fun h' hc' hs => ?_)
    obtain ⟨oc, hoc, hocd⟩ := id z
    refine h { s with heap := h' } ⟨I.ok, I.os, I.bare, ⟨fun b o e n hb hx => ?_, fun b o e n hb hx => ?_, I.base.free, fun b o e hx => ?_, I.base.tups, I.base.frzs, I.base.tbls⟩, ⟨m, hn.sameBut hs (Ne.symm (cne x c hc)), fun j y v' e1 e2 e3 => ?_⟩, fun y c' e => ?_, I.free, I.freeC, fun p hp => ?_, tracked ⟨oc, hoc, I.freeC x c hc⟩ hs, by simpa using I.len⟩ ⟨c, hs, .inr hc⟩
    · exact (hs.2 b (Nat.ne_of_lt (Nat.lt_of_lt_of_le (Heap.lt_size e) (I.ok.cab x c hfn hc)))).trans (I.base.keep b o e n hb hx)
    · obtain ⟨sl, e1⟩ := I.base.slot b o e n hb hx
      exact ⟨sl, (hs.2 b (Nat.ne_of_lt (Nat.lt_of_lt_of_le (Heap.lt_size e) (I.ok.cab x c hfn hc)))).trans e1⟩
    · obtain ⟨o', e1⟩ := I.base.there b o e hx
      exact ⟨o', (hs.2 b (Nat.ne_of_lt (Nat.lt_of_lt_of_le (Heap.lt_size e) (I.ok.cab x c hfn hc)))).trans e1⟩
    · by_cases hj : j = i
      · subst hj
        rw [hi] at e1; cases e1
        rw [List.getElem?_set_self hiσ] at e2
        cases e2
        exact ⟨u, r, .inr ⟨.inl hk, c, hc, hc'⟩⟩
      · rw [List.getElem?_set_ne (Ne.symm hj)] at e2
        obtain ⟨u', r', q⟩ := hl j y v' e1 e2 e3
        refine ⟨u', r', ?_⟩
        rcases q with q | ⟨k, c', e, z'⟩
        · exact .inl q
        · refine .inr ⟨k, c', e, z'.sameBut hs ?_⟩
          rintro rfl
          exact hj (nodup_ix hN e1 (I.ok.inj _ _ _ e hc ▸ hi))
    · by_cases hcc : c' = c
      · subst hcc; exact ⟨_, hc'⟩
      · obtain ⟨w2, z2⟩ := I.cell y c' e
        exact ⟨w2, z2.sameBut hs hcc⟩
    · obtain ⟨e, n, ne, nf, d⟩ := I.pin p hp
      refine ⟨(hs.2 p.1 ?_).trans e, n, ne, nf, d⟩
      intro q
      rw [q, hoc] at e
      have q' : oc = p.2 := Option.some.inj e
      exact d w' (by rw [← q']; exact hocd)
theorem store_ok {M : Model} {A : Around} {E : Value → Shared → Prop} {i : Nat} {x : Str} {v : V} {u : Value} {Q : Unit → Shared → Prop} (I : Inv X pins σ H s) (hN : X.N.Nodup) (hi : X.N[i]? = some x) (hx : Loc X.env.scope x) (r : RelV v u)
    (h : ∀ s', Inv X pins (σ.set i (some v)) H s' → Q () s') (hf : X.fn x = true ∨ X.env.scope.names.lookup x = some .local := by first | exact .inl rfl | exact .inr rfl | assumption) : wpAny M A (storeName X.env x u) Q E s :=
  store_ok2 I hN hi hx r (fun s' I' _ => h s' I') hf
/-- behind a call or a block, the state as it is -/
theorem Inv.call' {s' : Shared} {ch : List Addr} (I : Inv X pins σ H s) (ho : s'.os = s.os) (u : Un (frs X.stack) ch H H' s.heap s'.heap) (hok : HOk X.prog X.w H' s'.heap) (hg : AllBare s'.gens)
    (hch : ∀ b ∈ ch, (b ∈ X.ex ∨ X.s_0.heap.objs.size ≤ b) ∧ b ≠ X.env.locals ∧ (∀ x c, X.env.cells.lookup x = some c → c ≠ b) ∧ ∀ p ∈ X.pn ++ pins, p.1 ≠ b) : Inv X pins σ H' s' := by
  obtain ⟨h', g', d', t', o'⟩ := s'
  have e : o' = s.os := ho
  subst e
  exact I.call (g' := g') (t' := t') (d' := d') u hok hg hch
end

/-! ### the judgements -/
/-- an exception: its class, its own dict's address (where it has one), the abstract heap behind it -/
abbrev XK := Value → Option Addr → Hp → Prop
abbrev St := List (Option V)
abbrev VK := V → Hp → Prop
/-- an expression's reading; a test's; an argument list's -/
abbrev TE := St → Hp → VK → Prop
abbrev TT := St → Hp → (Bool → Hp → Prop) → Prop
abbrev TA := St → Hp → (List V → Hp → Prop) → Prop
/-- what is wanted behind a statement -/
structure Ends where
  nx : St → Hp → Prop
  rt : VK
  bk : St → Hp → Prop := fun _ _ => False
  ct : St → Hp → Prop := fun _ _ => False
abbrev TS := Ends → St → Hp → Prop

def EP (X : Cx) (pins : List (Addr × Obj)) (σ : St) (Q : VK) (u : Value) (s' : Shared) : Prop := ∃ v H', Inv X pins σ H' s' ∧ RelV v u ∧ Q v H'
def TP (X : Cx) (pins : List (Addr × Obj)) (σ : St) (Q : Bool → Hp → Prop) (b : Bool) (s' : Shared) : Prop := ∃ H', Inv X pins σ H' s' ∧ Q b H'
def AP (X : Cx) (pins : List (Addr × Obj)) (σ : St) (Q : List V → Hp → Prop) (us : List Value) (s' : Shared) : Prop := ∃ vs H', Inv X pins σ H' s' ∧ Vals vs us ∧ Q vs H'
def SP (X : Cx) (pins : List (Addr × Obj)) (D : Ends) (f : Flow) (s' : Shared) : Prop :=
  match f with
  | .next => ∃ σ' H', Inv X pins σ' H' s' ∧ D.nx σ' H'
  | .brk => ∃ σ' H', Inv X pins σ' H' s' ∧ D.bk σ' H'
  | .cont => ∃ σ' H', Inv X pins σ' H' s' ∧ D.ct σ' H'
  | .ret u => ∃ v σ' H', Inv X pins σ' H' s' ∧ RelV v u ∧ D.rt v H'

def PE (X : Cx) (e : Expr) (t : TE) : Prop :=
  ∀ (pins : List (Addr × Obj)) (s : Shared) (σ : St) (H : Hp) (Q : VK), Inv X pins σ H s → t σ H Q → wpAny (model X.prog X.w) X.A (eval e X.env) (EP X pins σ Q) X.xe s
def PT (X : Cx) (e : Expr) (t : TT) : Prop :=
  ∀ (pins : List (Addr × Obj)) (s : Shared) (σ : St) (H : Hp) (Q : Bool → Hp → Prop), Inv X pins σ H s → t σ H Q → wpAny (model X.prog X.w) X.A (isTrue e X.env (eval e X.env)) (TP X pins σ Q) X.xe s
/-- a test whatever its 'whole' is (and, or) -/
def PW (X : Cx) (e : Expr) (t : TT) : Prop :=
  ∀ (whole : Sem Value) (pins : List (Addr × Obj)) (s : Shared) (σ : St) (H : Hp) (Q : Bool → Hp → Prop), Inv X pins σ H s → t σ H Q → wpAny (model X.prog X.w) X.A (isTrue e X.env whole) (TP X pins σ Q) X.xe s
theorem PW.pt {X : Cx} {e : Expr} {t : TT} (h : PW X e t) : PT X e t := h _
/-- an argument list (no star), from the left -/
def PA (X : Cx) (es : List Expr) (t : TA) : Prop :=
  ∀ (pos : Pos) (pins : List (Addr × Obj)) (s : Shared) (σ : St) (H : Hp) (Q : List V → Hp → Prop), Inv X pins σ H s → t σ H Q → wpAny (model X.prog X.w) X.A (spliced (backTo pos (starEach es X.env))) (AP X pins σ Q) X.xe s
def PS (X : Cx) (st : Stmt) (t : TS) : Prop :=
  ∀ (pins : List (Addr × Obj)) (s : Shared) (σ : St) (H : Hp) (D : Ends), Inv X pins σ H s → t D σ H → wpAny (model X.prog X.w) X.A (exec st X.env) (SP X pins D) X.xe s
def PSs (X : Cx) (st : List Stmt) (t : TS) : Prop :=
  ∀ (pins : List (Addr × Obj)) (s : Shared) (σ : St) (H : Hp) (D : Ends), Inv X pins σ H s → t D σ H → wpAny (model X.prog X.w) X.A (execs st X.env) (SP X pins D) X.xe s
/-- weaken the end -/
theorem thn {α : Type} {t : Sem α} {Q Q' : α → Shared → Prop} {M : Model} {A : Around} {E : Value → Shared → Prop} {s : Shared} (h : wpAny M A t Q E s) (hQ : ∀ a s, Q a s → Q' a s) : wpAny M A t Q' E s := wpAny_mono h hQ fun _ _ x => x
end L2

namespace L2
open PySem PySem.Spec PyProof.Rows
section
variable {X : Cx}

/-- two expressions in a row -/
theorem bin {a b : Expr} {ta tb : TE} (ha : PE X a ta) (hb : PE X b tb) {pins : List (Addr × Obj)} {s : Shared} {σ : St} {H : Hp} {R : V → V → Hp → Prop} (I : Inv X pins σ H s) (h : ta σ H fun x H1 => tb σ H1 fun y H2 => R x y H2)
    {α : Type} {Q : α → Shared → Prop} {f : Value → Value → Sem α}
    (hf : ∀ v u s2 x y H2, Inv X pins σ H2 s2 → RelV x v → RelV y u → R x y H2 → wpAny (model X.prog X.w) X.A (f v u) Q X.xe s2) :
    wpAny (model X.prog X.w) X.A (eval a X.env) (fun v s₁ => wpAny (model X.prog X.w) X.A (eval b X.env) (fun u s₂ => wpAny (model X.prog X.w) X.A (f v u) Q X.xe s₂) X.xe s₁) X.xe s := by
  refine thn (ha pins s σ H _ I h) fun v s1 ⟨x, H1, I1, r1, q1⟩ => ?_
  refine thn (hb pins s1 σ H1 _ I1 q1) fun u s2 ⟨y, H2, I2, r2, q2⟩ => ?_
  exact hf v u s2 x y H2 I2 r1 r2 q2

/-! ### names and constants -/
def tVar (i : Nat) : TE := fun σ H Q => ∃ v, σ[i]? = some (some v) ∧ Q v H
def tC (v : V) : TE := fun _ H Q => Q v H
theorem pe_var {i : Nat} {x : Str} {pos : Pos} (hN : X.N[i]? = some x) (hv : Vis X.env.scope x) (hd : (x == ("__debug__" : Str)) = false := by decide) (hcd : (x == ("__classdict__" : Str)) = false := by decide) : PE X (.Name x pos) (tVar i) := by
  intro pins s σ H Q I h
  obtain ⟨v, e, h⟩ := h
  obtain ⟨m, hn, hl⟩ := I.loc
  obtain ⟨u, r, l⟩ := hl i x v hN e hv
  have fin : EP X pins σ Q u s := ⟨v, H, I, r, h⟩
  rcases l with ⟨hk, hm⟩ | ⟨hk, c, hc, hcell⟩
  · exact wpAny_Name (wpAny_loadName_local I.ok.kind hk hn hm fin) hd
  · rcases hk with hk | hk
    · exact wpAny_Name (wpAny_loadName_cell I.ok.kind hk hc hcell fin) hd
    · exact wpAny_Name (wpAny_loadName_free I.ok.kind hk hc hcell fin hcd) hd
theorem pe_int {i j pos} : PE X (.Constant (.int i) j pos) (tC (.int i)) := fun _ _ _ H _ I h => wpAny_Constant_int ⟨.int i, H, I.tok _, ⟨_, rfl⟩, h⟩
theorem pe_bl {b j pos} : PE X (.Constant (.bool b) j pos) (tC (.bl b)) := fun _ _ _ H _ I h => Constant_bool ⟨.bl b, H, I, rfl, h⟩
theorem pe_non {j pos} : PE X (.Constant .none j pos) (tC .non) := fun _ _ _ H _ I h => Constant_none ⟨.non, H, I, rfl, h⟩
theorem pe_str {x j pos} : PE X (.Constant (.str x) j pos) (tC (.str x)) := fun _ _ _ H _ I h => Calls.Constant_str ⟨.str x, H, I.tok _, ⟨_, rfl⟩, h⟩

/-- a global name of the def -/
def Gl (X : Cx) (x : Str) : Prop := X.env.kindOf x = some .globalImplicit
theorem ld_glob {E : Value → Shared → Prop} {pins : List (Addr × Obj)} {s : Shared} {σ : St} {H : Hp} {x : Str} {u : Value} {pos : Pos} {Q : Value → Shared → Prop} (I : Inv X pins σ H s) (hg : Gl X x) (hm : X.mg x = some u) (h : Q u s)
    (hd : (x == ("__debug__" : Str)) = false := by decide) : wpAny (model X.prog X.w) X.A (eval (.Name x pos) X.env) Q E s :=
  Calls.Name_function_global I.ok.kind hg (Calls.loadGlobal_global (by rw [I.ok.glob]; exact I.mod.glob.keeps I.bk) hm h) hd
theorem ld_blt {E : Value → Shared → Prop} {pins : List (Addr × Obj)} {s : Shared} {σ : St} {H : Hp} {x : Str} {u : Value} {pos : Pos} {Q : Value → Shared → Prop} (I : Inv X pins σ H s) (hg : Gl X x) (hm : X.mg x = none) (hv : bootBuiltins x = some u) (h : Q u s)
    (hn : x ≠ "__name__" := by decide) (hd : (x == ("__debug__" : Str)) = false := by decide) : wpAny (model X.prog X.w) X.A (eval (.Name x pos) X.env) Q E s := by
  obtain ⟨mb, h1, h2⟩ := I.mod.blt
  exact Calls.Name_function_global I.ok.kind hg (Calls.loadGlobal_builtin (by rw [I.ok.glob]; exact I.mod.glob.keeps I.bk) hm (by rw [I.ok.blt]; exact h1.keeps I.bk) ((h2 x hn).trans hv) h) hd
/-- a module's constant, a class, a function, as a value -/
theorem pe_glob {x : Str} {v : V} {u : Value} {pos : Pos} (hg : Gl X x) (hm : X.mg x = some u) (r : RelV v u) (hd : (x == ("__debug__" : Str)) = false := by decide) : PE X (.Name x pos) (tC v) :=
  fun _ _ _ H _ I h => ld_glob I hg hm ⟨v, H, I, r, h⟩ hd
theorem pe_bltn {x : Str} {v : V} {u : Value} {pos : Pos} (hg : Gl X x) (hm : X.mg x = none) (hv : bootBuiltins x = some u) (r : RelV v u) (hn : x ≠ "__name__" := by decide) (hd : (x == ("__debug__" : Str)) = false := by decide) : PE X (.Name x pos) (tC v) :=
  fun _ _ _ H _ I h => ld_blt I hg hm hv ⟨v, H, I, r, h⟩ hn hd

/-! ### arithmetic -/
/-- two ints -/
def t2I (ta tb : TE) (k : Int → Int → Hp → Prop) : St → Hp → Prop := fun σ H => ta σ H fun x H1 => tb σ H1 fun y H2 => ∃ i j, x = .int i ∧ y = .int j ∧ k i j H2
def tAdd (ta tb : TE) : TE := fun σ H Q => t2I ta tb (fun i j H2 => Q (.int (i + j)) H2) σ H
def tSub (ta tb : TE) : TE := fun σ H Q => t2I ta tb (fun i j H2 => Q (.int (i - j)) H2) σ H
/-- the left factor below 2^64 -/
def tMul (ta tb : TE) : TE := fun σ H Q => t2I ta tb (fun i j H2 => (-(2 ^ 64) < i ∧ i < 2 ^ 64) ∧ Q (.int (i * j)) H2) σ H
variable {a b : Expr} {ta tb : TE} {pos : Pos}

/-! ### comparisons -/
def PC (X : Cx) (op : CmpOp) (a b : Expr) (t : TE) : Prop :=
  ∀ (pins : List (Addr × Obj)) (s : Shared) (σ : St) (H : Hp) (Q : VK), Inv X pins σ H s → t σ H Q →
    wpAny (model X.prog X.w) X.A (eval a X.env) (fun v s₁ => wpAny (model X.prog X.w) X.A (eval b X.env) (fun u s₂ => wpAny (model X.prog X.w) X.A (compareOp op v u) (EP X pins σ Q) X.xe s₂) X.xe s₁) X.xe s
theorem nobehind (b : Expr) {op : CmpOp} (h : op ≠ .In) (h2 : op ≠ .NotIn) : behindInMarks op b = false := by
  have e1 : (op == CmpOp.In) = false := by cases op <;> first | rfl | exact absurd rfl h
  have e2 : (op == CmpOp.NotIn) = false := by cases op <;> first | rfl | exact absurd rfl h2
  cases b <;> simp [behindInMarks, e1, e2]
def tCmp (p : Int → Int → Bool) (ta tb : TE) : TE := fun σ H Q => t2I ta tb (fun i j H2 => Q (.bl (p i j)) H2) σ H
abbrev tLt : TE → TE → TE := tCmp fun i j => decide (i < j)
abbrev tLe : TE → TE → TE := tCmp fun i j => decide (i ≤ j)
abbrev tGt : TE → TE → TE := tCmp fun i j => decide (j < i)
abbrev tGe : TE → TE → TE := tCmp fun i j => decide (j ≤ i)
abbrev tEqI : TE → TE → TE := tCmp fun i j => decide (i = j)
abbrev tNeI : TE → TE → TE := tCmp fun i j => !decide (i = j)
/-- is None -/
def tIsN (ta : TE) : TE := fun σ H Q => ta σ H fun x H1 => Q (.bl (decide (x = .non))) H1
def tNotN (ta : TE) : TE := fun σ H Q => ta σ H fun x H1 => Q (.bl (!decide (x = .non))) H1
/-- a comparison as a value, as a test -/
def tB (t : TE) : TT := fun σ H Q => t σ H fun x H1 => ∃ c, x = .bl c ∧ Q c H1
theorem pt_cmp {op : CmpOp} {t : TE} (h : PC X op a b t) (h1 : behindInMarks op b = false := by first | exact nobehind _ (by decide) (by decide) | rfl) : PT X (.Compare a [op] [b] pos) (tB t) := by
  intro pins s σ H Q I hw
  refine wpAny_isTrue_Compare1 (thn (h pins s σ H _ I hw) fun v s1 h1 => thn h1 fun u s2 h2 => thn h2 fun c s3 ⟨x, H1, I1, r1, q1⟩ => ?_) h1
  obtain ⟨d, rfl, q⟩ := q1
  cases r1
  exact wpAny_truthy_bool ⟨H1, I1, q⟩
/-- an expression whose value is a bool, as a test -/
theorem pt_val {e : Expr} {t : TE} (h : PE X e t) (he : ∀ whole, isTrue e X.env whole = (do let v ← whole; standAt e.pos; holding [v] (truthy v)) := by intro _; rfl) : PT X e (tB t) := by
  intro pins s σ H Q I hw
  refine isTrue_plain (thn (h pins s σ H _ I hw) fun v s1 ⟨x, H1, I1, r1, q1⟩ => ?_) (he _)
  obtain ⟨d, rfl, q⟩ := q1
  cases r1
  exact wpAny_truthy_bool ⟨H1, I1, q⟩

/-! ### and, or, not -/
variable {tA tB' : TT} {rest : List Expr}
def tAnd (t u : TT) : TT := fun σ H Q => t σ H fun c H1 => if c = true then u σ H1 Q else Q false H1
def tOr (t u : TT) : TT := fun σ H Q => t σ H fun c H1 => if c = true then Q true H1 else u σ H1 Q
def tNot (t : TT) : TT := fun σ H Q => t σ H fun c H1 => Q (!c) H1
theorem pw_and1 (ha : PT X a tA) : PW X (.BoolOp .And [a] pos) tA := by
  intro wh pins s σ H Q I h
  refine isTrue_and (thn (ha pins s σ H Q I h) fun c s1 e => ?_)
  cases c with
  | true => exact isTrue_and_nil e
  | false => exact e
theorem pw_or1 (ha : PT X a tA) : PW X (.BoolOp .Or [a] pos) tA := by
  intro wh pins s σ H Q I h
  refine isTrue_or (thn (ha pins s σ H Q I h) fun c s1 e => ?_)
  cases c with
  | false => exact isTrue_or_nil e
  | true => exact e
theorem pw_and (ha : PT X a tA) (hb : PW X (.BoolOp .And (b :: rest) pos) tB') : PW X (.BoolOp .And (a :: b :: rest) pos) (tAnd tA tB') := by
  intro wh pins s σ H Q I h
  refine isTrue_and (thn (ha pins s σ H _ I h) fun c s1 ⟨H1, I1, q1⟩ => ?_)
  cases c with
  | true => exact hb wh pins s1 σ H1 Q I1 q1
  | false => exact ⟨H1, I1, q1⟩
theorem pw_or (ha : PT X a tA) (hb : PW X (.BoolOp .Or (b :: rest) pos) tB') : PW X (.BoolOp .Or (a :: b :: rest) pos) (tOr tA tB') := by
  intro wh pins s σ H Q I h
  refine isTrue_or (thn (ha pins s σ H _ I h) fun c s1 ⟨H1, I1, q1⟩ => ?_)
  cases c with
  | true => exact ⟨H1, I1, q1⟩
  | false => exact hb wh pins s1 σ H1 Q I1 q1
theorem pt_not (ha : PT X a tA) : PT X (.UnaryOp .Not a pos) (tNot tA) := by
  intro pins s σ H Q I h
  exact isTrue_not (ha pins s σ H (fun c H1 => Q (!c) H1) I h)
/-- .. as values (bools) -/
def tAndV (ta tb : TE) : TE := fun σ H Q => ta σ H fun x H1 => ∃ c, x = .bl c ∧ if c = true then tb σ H1 Q else Q (.bl false) H1
def tOrV (ta tb : TE) : TE := fun σ H Q => ta σ H fun x H1 => ∃ c, x = .bl c ∧ if c = true then Q (.bl true) H1 else tb σ H1 Q
def tNotV (ta : TE) : TE := fun σ H Q => ta σ H fun x H1 => ∃ c, x = .bl c ∧ Q (.bl (!c)) H1
theorem pe_one {op} {t : TE} (h : PE X a t) : PE X (.BoolOp op [a] pos) t := fun pins s σ H Q I hw => BoolOp_one (h pins s σ H Q I hw)
theorem pe_and (ha : PE X a ta) (hb : PE X (.BoolOp .And (b :: rest) pos) tb) : PE X (.BoolOp .And (a :: b :: rest) pos) (tAndV ta tb) := by
  intro pins s σ H Q I h
  refine BoolOp_and (thn (ha pins s σ H _ I h) fun v s1 ⟨x, H1, I1, r1, q1⟩ => ?_)
  obtain ⟨c, rfl, q1⟩ := q1
  cases r1
  refine wpAny_truthy_bool ?_
  cases c with
  | true => exact hb pins s1 σ H1 Q I1 q1
  | false => exact ⟨.bl false, H1, I1, rfl, q1⟩
theorem pe_not (ha : PE X a ta) : PE X (.UnaryOp .Not a pos) (tNotV ta) := by
  intro pins s σ H Q I h
  refine UnaryOp_ (thn (ha pins s σ H _ I h) fun v s1 ⟨x, H1, I1, r1, q1⟩ => ?_)
  obtain ⟨c, rfl, q1⟩ := q1
  cases r1
  exact not_of (wpAny_truthy_bool ⟨.bl (!c), H1, I1, rfl, q1⟩)
/-- a if t else b -/
def tIf (t : TT) (ta tb : TE) : TE := fun σ H Q => t σ H fun c H1 => if c = true then ta σ H1 Q else tb σ H1 Q
theorem pe_ifExp {c : Expr} (hc : PT X c tA) (ha : PE X a ta) (hb : PE X b tb) : PE X (.IfExp c a b pos) (tIf tA ta tb) := by
  intro pins s σ H Q I h
  refine wpAny_IfExp (thn (hc pins s σ H _ I h) fun d s1 ⟨H1, I1, q1⟩ => ?_)
  cases d with
  | true => exact ha pins s1 σ H1 Q I1 q1
  | false => exact hb pins s1 σ H1 Q I1 q1
end
end L2

namespace L2
open PySem PySem.Spec PyProof.Rows

/-! ### a list, a tuple that is read: tracked, frozen, or an object of the module -/
def SqL (K : PySem.W.Frag) (H : Hp) (a : Addr) (xs : List V) : Prop :=
  Rd H a (.lst xs) ∨
    ∃ (o : Obj) (its : Array Value) (n : Nat), K.lookup a = some o ∧ o.cls = .type "list" ∧ o.dict = none ∧ o.data = .seq its n ∧ its.size ≤ sizeLine ∧ Vals xs its.toList
def SqT (K : PySem.W.Frag) (H : Hp) (a : Addr) (xs : List V) : Prop :=
  Rd H a (.tup xs) ∨
    ∃ (o : Obj) (its : Array Value) (n : Nat), K.lookup a = some o ∧ o.cls = .type "tuple" ∧ o.data = .seq its n ∧ its.size ≤ sizeLine ∧ Vals xs its.toList
def absV : Value → Option V
  | .none => some .non
  | .bool b => some (.bl b)
  | .int i _ => some (.int i)
  | .str x _ => some (.str x)
  | .bytes b _ => some (.byt b)
  | .float b _ => some (.flt b)
  | .ref a => some (.ref a)
  | .type n => some (.ty n)
  | _ => none
theorem RelV.abs {x : V} {u : Value} (r : RelV x u) : absV u = some x := by
  cases x with
  | non => cases r; rfl
  | bl _ => cases r; rfl
  | int _ => obtain ⟨t, rfl⟩ := r; rfl
  | str _ => obtain ⟨t, rfl⟩ := r; rfl
  | byt _ => obtain ⟨t, rfl⟩ := r; rfl
  | flt _ => obtain ⟨t, rfl⟩ := r; rfl
  | ref _ => cases r; rfl
  | ty _ => cases r; rfl
theorem RelV.inj {x y : V} {u : Value} (r : RelV x u) (q : RelV y u) : x = y := Option.some.inj (r.abs.symm.trans q.abs)
theorem Vals.inj : ∀ {xs ys : List V} {us : List Value}, Vals xs us → Vals ys us → xs = ys
  | _, _, _, .nil, .nil => rfl
  | _, _, _, .cons r t, .cons r' t' => by rw [r.inj r', Vals.inj t t']
section
variable {X : Cx} {pins : List (Addr × Obj)} {σ : St} {H : Hp} {s : Shared} {a : Addr} {xs ys : List V}
theorem SqL.of {K : PySem.W.Frag} (h : H a = some (.lst xs)) : SqL K H a xs := .inl (.inl h)
theorem SqT.of {K : PySem.W.Frag} (h : H a = some (.tup xs)) : SqT K H a xs := .inl (.inl h)
theorem Inv.list (I : Inv X pins σ H s) (h : SqL X.K H a xs) : ∃ its : List Value, Vals xs its ∧ PlainL s.heap a its.toArray ∧ xs.length ≤ sizeLine := by
  rcases h with h | ⟨o, its, n, hk, hc, hd, hs, hz, r⟩
  · obtain ⟨z, its, n, r, e⟩ := h.ok I.hok
    exact ⟨its, r, ⟨_, n, e, rfl, rfl, rfl⟩, z⟩
  · refine ⟨its.toList, r, ⟨o, n, I.kIn a o hk, hc, hd, by simpa using hs⟩, ?_⟩
    have e := r.length
    simp only [Array.length_toList] at e
    omega
theorem Inv.tuple (I : Inv X pins σ H s) (h : SqT X.K H a xs) : ∃ its : List Value, Vals xs its ∧ IsTup s.heap a its.toArray ∧ xs.length ≤ sizeLine := by
  rcases h with h | ⟨o, its, n, hk, hc, hs, hz, r⟩
  · obtain ⟨z, its, r, p⟩ := h.ok I.hok
    exact ⟨its, r, p, z⟩
  · refine ⟨its.toList, r, ⟨o, I.kIn a o hk, hc, n, by simpa using hs⟩, ?_⟩
    have e := r.length
    simp only [Array.length_toList] at e
    omega
theorem Inv.list_inj (I : Inv X pins σ H s) (h : SqL X.K H a xs) (h' : SqL X.K H a ys) : xs = ys := by
  obtain ⟨its, r, ⟨o, n, e, _, _, d⟩, _⟩ := I.list h
  obtain ⟨its', r', ⟨o', n', e', _, _, d'⟩, _⟩ := I.list h'
  rw [e] at e'; cases e'
  rw [d] at d'
  injection d' with d1 _
  have : its = its' := by simpa using congrArg Array.toList d1
  subst this
  exact r.inj r'
theorem Inv.tuple_inj (I : Inv X pins σ H s) (h : SqT X.K H a xs) (h' : SqT X.K H a ys) : xs = ys := by
  obtain ⟨its, r, ⟨o, e, _, n, d⟩, _⟩ := I.tuple h
  obtain ⟨its', r', ⟨o', e', _, n', d'⟩, _⟩ := I.tuple h'
  rw [e] at e'; cases e'
  rw [d] at d'
  injection d' with d1 _
  have : its = its' := by simpa using congrArg Array.toList d1
  subst this
  exact r.inj r'
end

/-! ### another wish about exceptions -/
abbrev Cx.wish (X : Cx) (E : Value → Shared → Prop) : Cx := { X with xe := E }
/-- no exception leaves -/
abbrev Cx.nox (X : Cx) : Cx := X.wish fun _ _ => False
theorem Cx.Ok.wish {X : Cx} (ok : X.Ok) (E : Value → Shared → Prop) : (X.wish E).Ok :=
  ⟨ok.mod, ok.kind, ok.glob, ok.blt, ok.above, ok.inj, ok.has, ok.cab, ok.hd, ok.frames, ok.stk, ok.exf, ok.bs, ok.bsz, ok.noex, ok.exfs, ok.funs, ok.frf⟩
theorem Cx.Ok.unwish {X : Cx} {E : Value → Shared → Prop} (ok : (X.wish E).Ok) : X.Ok :=
  ⟨ok.mod, ok.kind, ok.glob, ok.blt, ok.above, ok.inj, ok.has, ok.cab, ok.hd, ok.frames, ok.stk, ok.exf, ok.bs, ok.bsz, ok.noex, ok.exfs, ok.funs, ok.frf⟩
section
variable {X : Cx} {pins : List (Addr × Obj)} {σ : St} {H : Hp} {s : Shared} {E : Value → Shared → Prop}
theorem Inv.wish (I : Inv X pins σ H s) (E : Value → Shared → Prop) : Inv (X.wish E) pins σ H s := ⟨I.ok.wish E, I.os, I.bare, I.base, I.loc, I.cell, I.free, I.freeC, I.pin, I.hok, I.len⟩
theorem Inv.unwish (I : Inv (X.wish E) pins σ H s) : Inv X pins σ H s := ⟨I.ok.unwish, I.os, I.bare, I.base, I.loc, I.cell, I.free, I.freeC, I.pin, I.hok, I.len⟩
theorem SP.unwish {D : Ends} {f : Flow} {s' : Shared} (h : SP (X.wish E) pins D f s') : SP X pins D f s' := by
  cases f with
  | next => obtain ⟨σ', H', I, q⟩ := h; exact ⟨σ', H', I.unwish, q⟩
  | brk => obtain ⟨σ', H', I, q⟩ := h; exact ⟨σ', H', I.unwish, q⟩
  | cont => obtain ⟨σ', H', I, q⟩ := h; exact ⟨σ', H', I.unwish, q⟩
  | ret u => obtain ⟨v, σ', H', I, r, q⟩ := h; exact ⟨v, σ', H', I.unwish, r, q⟩
theorem PE.nox {e : Expr} {t : TE} (h : PE X.nox e t) : PE X e t := fun pins s σ H Q I hw =>
  wpAny_mono (h pins s σ H Q (I.wish _) hw) (fun _ _ ⟨v, H', I', r, q⟩ => ⟨v, H', I'.unwish, r, q⟩) fun _ _ z => False.elim z
theorem PT.nox {e : Expr} {t : TT} (h : PT X.nox e t) : PT X e t := fun pins s σ H Q I hw =>
  wpAny_mono (h pins s σ H Q (I.wish _) hw) (fun _ _ ⟨H', I', q⟩ => ⟨H', I'.unwish, q⟩) fun _ _ z => False.elim z
theorem PSs.nox {st : List Stmt} {t : TS} (h : PSs X.nox st t) : PSs X st t := fun pins s σ H D I hw =>
  wpAny_mono (h pins s σ H D (I.wish _) hw) (fun _ _ q => q.unwish) fun _ _ z => False.elim z
end

/-! ### blocks and small statements -/
section
variable {X : Cx} {st : Stmt} {rest : List Stmt} {t u : TS} {e : Expr} {te : TE} {pos : Pos}
def tNext : TS := fun D σ H => D.nx σ H
def tSeq (t u : TS) : TS := fun D σ H => t { D with nx := u D } σ H
theorem pss_nil : PSs X [] tNext := fun _ _ σ H _ I h => wpAny_execs_nil ⟨σ, H, I, h⟩
theorem pss_cons (h1 : PS X st t) (h2 : PSs X rest u) : PSs X (st :: rest) (tSeq t u) := by
  intro pins s σ H D I h
  refine wpAny_execs_cons (thn (h1 pins s σ H { D with nx := u D } I h) fun f s1 q => ?_)
  cases f with
  | next =>
    obtain ⟨σ', H', I', q⟩ := q
    exact h2 pins s1 σ' H' D I' q
  | ret v => exact q
  | brk => exact q
  | cont => exact q
theorem pss_one (h1 : PS X st t) : PSs X [st] t := by
  intro pins s σ H D I h
  refine wpAny_execs_cons (thn (h1 pins s σ H D I h) fun f s1 q => ?_)
  cases f with
  | next => exact wpAny_execs_nil q
  | ret v => exact q
  | brk => exact q
  | cont => exact q
def tBreak : TS := fun D σ H => D.bk σ H
def tCont : TS := fun D σ H => D.ct σ H
theorem ps_continue : PS X (.Continue pos) tCont := fun _ _ σ H _ I h => wpAny_Continue ⟨σ, H, I, h⟩
/-- in a def's body nothing is shown -/
theorem Inv.quiet {pins : List (Addr × Obj)} {σ : St} {H : Hp} {s : Shared} (I : Inv X pins σ H s) : interactive X.env = false := by simp [interactive, I.ok.kind]
/-- an expression whose value is dropped -/
def tDrop (te : TE) : TS := fun D σ H => te σ H fun _ H1 => D.nx σ H1
theorem ps_expr (he : PE X e te) (hs : swapsWith e none pos.line X.env = pure false := by rfl) : PS X (.Expr e pos) (tDrop te) := by
  intro pins s σ H D I h
  exact wpAny_Expr_any (thn (he pins s σ H _ I h) fun v s1 ⟨x, H1, I1, r1, q1⟩ => ⟨σ, H1, I1, q1⟩) I.quiet hs
def tRet (te : TE) : TS := fun D σ H => te σ H D.rt
theorem ps_ret (he : PE X e te) : PS X (.Return (some e) pos) (tRet te) := by
  intro pins s σ H D I h
  exact wpAny_Return_some (thn (he pins s σ H _ I h) fun v s1 ⟨x, H1, I1, r1, q1⟩ => ⟨x, σ, H1, I1, r1, q1⟩)
def tRetN : TS := fun D _ H => D.rt .non H
def tIfS (c : TT) (t u : TS) : TS := fun D σ H => c σ H fun b H1 => if b = true then t D σ H1 else u D σ H1
theorem ps_if {c : Expr} {a b : List Stmt} {tc : TT} (hc : PT X c tc) (ha : PSs X a t) (hb : PSs X b u) : PS X (.If c a b pos) (tIfS tc t u) := by
  intro pins s σ H D I h
  refine wpAny_If (thn (hc pins s σ H _ I h) fun d s1 ⟨H1, I1, q1⟩ => ?_)
  cases d with
  | true => exact ha pins s1 σ H1 D I1 q1
  | false => exact hb pins s1 σ H1 D I1 q1
/-- code that the proof never comes to -/
def tNever : TS := fun _ _ _ => False
theorem ps_never : PS X st tNever := fun _ _ _ _ _ _ h => h.elim
end

/-! ### targets -/
abbrev TG := V → St → Hp → (St → Hp → Prop) → Prop
abbrev TGs := List V → St → Hp → (St → Hp → Prop) → Prop
def PG (X : Cx) (target : Expr) (t : TG) : Prop :=
  ∀ (pins : List (Addr × Obj)) (s : Shared) (σ : St) (H : Hp) (v : V) (u : Value) (Q : St → Hp → Prop), Inv X pins σ H s → RelV v u → t v σ H Q →
    wpAny (model X.prog X.w) X.A (assign target X.env u) (fun _ s' => ∃ σ' H', Inv X pins σ' H' s' ∧ Q σ' H') X.xe s
/-- several targets, one after another -/
def PGs (X : Cx) (ts : List Expr) (t : TGs) : Prop :=
  ∀ (pins : List (Addr × Obj)) (s : Shared) (σ : St) (H : Hp) (vs : List V) (us : List Value) (Q : St → Hp → Prop), Inv X pins σ H s → Vals vs us → t vs σ H Q →
    wpAny (model X.prog X.w) X.A (assignInOrder ((assignEach ts X.env).map (·.2)) us) (fun _ s' => ∃ σ' H', Inv X pins σ' H' s' ∧ Q σ' H') X.xe s
/-- o[i] = v, by values -/
abbrev TSet := V → V → V → Hp → (Hp → Prop) → Prop
def PSet (X : Cx) (t : TSet) : Prop :=
  ∀ (pins : List (Addr × Obj)) (s : Shared) (σ : St) (H : Hp) (o i v : V) (ov iv u : Value) (Q : Hp → Prop), Inv X pins σ H s → RelV o ov → RelV i iv → RelV v u → t o i v H Q →
    wpAny (model X.prog X.w) X.A (setItem ov iv u) (fun _ s' => ∃ H', Inv X pins σ H' s' ∧ Q H') X.xe s
/-- a op= b, by values -/
abbrev TIp := V → V → Hp → VK → Prop
def PIp (X : Cx) (op : Operator) (t : TIp) : Prop :=
  ∀ (pins : List (Addr × Obj)) (s : Shared) (σ : St) (H : Hp) (x y : V) (v u : Value) (Q : VK), Inv X pins σ H s → RelV x v → RelV y u → t x y H Q →
    wpAny (model X.prog X.w) X.A (inplaceOp op v u) (EP X pins σ Q) X.xe s
section
variable {X : Cx} {pos : Pos}
def gName (i : Nat) : TG := fun v σ H Q => Q (σ.set i (some v)) H
theorem pg_name {i : Nat} {x : Str} (hN : X.N.Nodup) (hi : X.N[i]? = some x) (hx : Loc X.env.scope x) (hf : X.fn x = true ∨ X.env.scope.names.lookup x = some .local := by first | exact .inl rfl | exact .inr rfl | assumption) : PG X (.Name x pos) (gName i) := by
  intro pins s σ H v u Q I r h
  exact wpAny_assign_Name (store_ok I hN hi hx r (fun s' I' => ⟨_, H, I', h⟩) hf)
def gNil : TGs := fun vs σ H Q => vs = [] ∧ Q σ H
def gCons (t : TG) (u : TGs) : TGs := fun vs σ H Q => ∃ v r, vs = v :: r ∧ t v σ H fun σ' H' => u r σ' H' Q
theorem pgs_nil : PGs X [] gNil := by
  intro pins s σ H vs us Q I r h
  obtain ⟨e, h⟩ := h
  subst e
  cases r
  exact assignInOrder_nil ⟨σ, H, I, h⟩
theorem pgs_cons {e : Expr} {es : List Expr} {t : TG} {u : TGs} (h1 : PG X e t) (h2 : PGs X es u)
    (hs : (assignEach (e :: es) X.env).map (·.2) = assign e X.env :: (assignEach es X.env).map (·.2) := by rfl) : PGs X (e :: es) (gCons t u) := by
  intro pins s σ H vs us Q I r h
  obtain ⟨v, vr, e1, h⟩ := h
  subst e1
  cases r with
  | cons r rr =>
    rw [hs]
    refine assignInOrder_cons (thn (h1 pins s σ H _ _ _ I r h) fun _ s1 ⟨σ1, H1, I1, q1⟩ => ?_)
    exact h2 pins s1 σ1 H1 _ _ Q I1 rr q1
/-- (a, b, ..) = a tuple of that length -/
def gTup (K : PySem.W.Frag) (n : Nat) (t : TGs) : TG := fun v σ H Q => ∃ a xs, v = .ref a ∧ SqT K H a xs ∧ xs.length = n ∧ t xs σ H Q
theorem pg_tup {es : List Expr} {k : Nat} {t : TGs} {n : Nat} (hc : X.calm = true) (h : PGs X es t)
    (hn : (assignEach es X.env).length = n := by rfl) (hst : (assignEach es X.env).findIdx? (·.1) = none := by rfl) : PG X (.Tuple es k pos) (gTup X.K n t) := by
  intro pins s σ H v u Q I r hw
  obtain ⟨a, xs, e1, hq, hl, hw⟩ := hw
  subst e1
  cases r
  obtain ⟨its, rv, ht, hz⟩ := I.tuple hq
  refine assign_Tuple_tuple (I.ok.hd hc) ht (by simp [hn, ← hl, rv.length]) hst fun h' hx => ?_
  have I1 : Inv X pins σ H { s with heap := h' } := I.kept (t' := s.toks) fun b o e => hx b o (Nat.ne_of_lt (Heap.lt_size e)) e
  exact h pins _ σ H xs _ Q I1 (by simpa using rv) hw
/-- o[i] = .. -/
def gSub (to ti : TE) (t : TSet) : TG := fun v σ H Q => to σ H fun o H1 => ti σ H1 fun i H2 => t o i v H2 fun H3 => Q σ H3
theorem pg_sub {o i : Expr} {to ti : TE} {t : TSet} (ho : PE X o to) (hi : PE X i ti) (hs : PSet X t)
    (ha : ∀ v, assign (.Subscript o i pos) X.env v = (do
      let ov ← holding [v] (eval o X.env)
      let iv ← holding [v, ov] (eval i X.env)
      standAt pos
      holding [v, ov, iv] (setItem ov iv v)
      release [v, ov, iv] []) := by intro _; rfl) : PG X (.Subscript o i pos) (gSub to ti t) := by
  intro pins s σ H v u Q I r h
  rw [ha]
  refine wpAny_bind (wpAny_holding (thn (ho pins s σ H _ I h) fun ov s1 ⟨x, H1, I1, r1, q1⟩ => ?_))
  refine wpAny_bind (wpAny_holding (thn (hi pins s1 σ H1 _ I1 q1) fun iv s2 ⟨y, H2, I2, r2, q2⟩ => ?_))
  refine wpAny_bind (wpAny_standAt (wpAny_bind (wpAny_holding (thn (hs pins s2 σ H2 x y v ov iv u _ I2 r1 r2 r q2) fun _ s3 ⟨H3, I3, q3⟩ => ?_))))
  exact wpAny_release ⟨σ, H3, I3, q3⟩
/-- target = value -/
def tAsg (te : TE) (g : TG) : TS := fun D σ H => te σ H fun x H1 => g x σ H1 D.nx
theorem ps_asg {tg e : Expr} {te : TE} {g : TG} (he : PE X e te) (hg : PG X tg g) (hs : swapsWithSole [tg] e pos.line X.env = pure false := by rfl) (hw : swappedStores [tg] e X.env = pure none := by rfl)
    (h1 : (assignEach [tg] X.env).map (·.2) = [assign tg X.env] := by rfl) : PS X (.Assign [tg] e pos) (tAsg te g) := by
  intro pins s σ H D I h
  refine wpAny_Assign_stores (thn (he pins s σ H _ I h) fun v s1 ⟨x, H1, I1, r1, q1⟩ => ?_) hs hw
  rw [h1]
  exact thn (hg pins s1 σ H1 x v _ I1 r1 q1) fun _ s2 q => q
/-- name = value -/
theorem ps_set {i : Nat} {x : Str} {e : Expr} {te : TE} {pos' : Pos} (hN : X.N.Nodup) (hi : X.N[i]? = some x) (hx : Loc X.env.scope x) (he : PE X e te) (hs : swapsWith e (some (.Name x pos')) pos.line X.env = pure false := by rfl) (hf : X.fn x = true ∨ X.env.scope.names.lookup x = some .local := by first | exact .inl rfl | exact .inr rfl | assumption) :
    PS X (.Assign [.Name x pos'] e pos) (tAsg te (gName i)) := by
  intro pins s σ H D I h
  refine wpAny_Assign_Name (thn (he pins s σ H _ I h) fun v s1 ⟨y, H1, I1, r1, q1⟩ => ?_) hs
  exact store_ok I1 hN hi hx r1 (fun s2 I2 => ⟨_, H1, I2, q1⟩) hf
/-- a, b = x, y with plain local names: stored from the right; the pair itself is not tracked (the opening rows as in PyProof/Rows/TupAssign.lean:23) -/
def tPar (i j : Nat) (ta : TA) : TS := fun D σ H => ta σ H fun vs H1 => ∃ v w, vs = [v, w] ∧ D.nx ((σ.set i (some v)).set j (some w)) H1
/-- name op= e -/
def tAug (i : Nat) (te : TE) (ti : TIp) : TS := fun D σ H => ∃ x, σ[i]? = some (some x) ∧ te σ H fun y H1 => ti x y H1 fun z H2 => D.nx (σ.set i (some z)) H2
/-- o[i] op= e -/
def tAugS (to ti te : TE) (tget : V → V → Hp → VK → Prop) (tip : TIp) (tset : TSet) : TS := fun D σ H => to σ H fun o H1 => ti σ H1 fun i H2 => tget o i H2 fun x H3 => te σ H3 fun y H4 => tip x y H4 fun z H5 => tset o i z H5 fun H6 => D.nx σ H6
/-- o[i], by values -/
def PGet (X : Cx) (t : V → V → Hp → VK → Prop) : Prop :=
  ∀ (pins : List (Addr × Obj)) (s : Shared) (σ : St) (H : Hp) (o i : V) (ov iv : Value) (Q : VK), Inv X pins σ H s → RelV o ov → RelV i iv → t o i H Q →
    wpAny (model X.prog X.w) X.A (getItem ov iv) (EP X pins σ Q) X.xe s
/-- ints -/
def ipI (f : Int → Int → Int) : TIp := fun x y H Q => ∃ i j, x = .int i ∧ y = .int j ∧ Q (.int (f i j)) H
end

/-! ### while -/
section
variable {X : Cx} {pos : Pos}
/-- the invariant W with its measure -/
def tWhile (c : TT) (tb : TS) : TS := fun D σ H => ∃ W : Nat → St → Hp → Prop, (∃ m, W m σ H) ∧ ∀ m σ H, W m σ H →
  c σ H fun b H1 => if b = true then ∃ N : St → Hp → Prop, (∀ σ' H', N σ' H' → ∃ m', m' < m ∧ W m' σ' H') ∧ tb { D with nx := N, ct := N, bk := D.nx } σ H1 else D.nx σ H1
theorem ps_while {c : Expr} {body : List Stmt} {tc : TT} {tb : TS} (hp : PassesOwn (model X.prog X.w) X.A X.env X.xe) (hc : PT X c tc) (hb : PSs X body tb) : PS X (.While c body [] pos) (tWhile tc tb) := by
  intro pins s σ H D I h
  obtain ⟨W, ⟨m0, w0⟩, turn⟩ := h
  refine wpAny_While (codeAny_whileLoop (fun n s' => ∃ σ' H', Inv X pins σ' H' s' ∧ W n σ' H') ?_ m0 ⟨σ, H, I, w0⟩)
  rintro n s1 ⟨σ1, H1, I1, w1⟩
  refine wpAny_passesOwn hp (thn (hc pins s1 σ1 H1 _ I1 (turn n σ1 H1 w1)) fun b s2 ⟨H2, I2, q2⟩ => ?_)
  cases b with
  | true =>
    obtain ⟨N, hN, q2⟩ := q2
    rw [if_pos rfl]
    refine wpAny_passesOwn hp (thn (hb pins s2 σ1 H2 _ I2 q2) fun f s3 q3 => ?_)
    cases f with
    | next =>
      obtain ⟨σ3, H3, I3, n3⟩ := q3
      obtain ⟨m', hm, w3⟩ := hN σ3 H3 n3
      exact ⟨m', hm, σ3, H3, I3, w3⟩
    | cont =>
      obtain ⟨σ3, H3, I3, n3⟩ := q3
      obtain ⟨m', hm, w3⟩ := hN σ3 H3 n3
      exact ⟨m', hm, σ3, H3, I3, w3⟩
    | brk => exact q3
    | ret v => exact q3
  | false =>
    rw [if_neg Bool.false_ne_true]
    exact wpAny_execs_nil ⟨σ1, H2, I2, q2⟩
end

/-! ### what a loop or a comprehension walks -/
/-- at turn i: it yields x (the heap may grow), or it stops -/
structure It where
  go : Nat → Hp → Prop
  yld : Nat → Hp → V → Hp → Prop
  stop : Nat → Hp → Prop
/-- the iterator's own objects may turn: they are not the frame's, not pinned, younger than the entry (or a comprehension's own) -/
def FpOk (X : Cx) (pins : List (Addr × Obj)) (H : Hp) (b : Addr) : Prop :=
  H b = none ∧ b ≠ X.env.locals ∧ b ∉ X.fs ∧ (b ∈ X.ex ∨ X.s_0.heap.objs.size ≤ b) ∧ (∀ x c, X.env.cells.lookup x = some c → c ≠ b) ∧ ∀ p ∈ X.pn ++ pins, p.1 ≠ b
theorem Inv.fpOk {X : Cx} {pins : List (Addr × Obj)} {σ : St} {H H' : Hp} {s : Shared} {b : Addr} (I : Inv X pins σ H s) (hb : s.heap.objs.size ≤ b) (hn : H' b = none) : FpOk X pins H' b := by
  refine ⟨hn, Nat.ne_of_gt (Nat.lt_of_lt_of_le I.lt hb), I.nofs hb, .inr (Nat.le_trans I.sz hb), fun x c e z => ?_, fun p hp z => ?_⟩
  · obtain ⟨v, q⟩ := I.cell x c e
    exact absurd (Nat.lt_of_lt_of_le q.lt (by rw [z]; exact hb)) (Nat.lt_irrefl _)
  · exact absurd (Nat.lt_of_lt_of_le (Heap.lt_size (I.pin p hp).1) (by rw [z]; exact hb)) (Nat.lt_irrefl _)
structure Turn (P : Program) (w : World) (K : PySem.W.Frag) (tg : Expr) (J : It) (fp : List Addr) (it : Addr) (tn : Nat → Heap → Prop) : Prop where
  mem : it ∈ fp
  obj : ∀ i h, tn i h → ∀ b ∈ fp, ∃ o, h.get? b = some o ∧ ∀ v, o.data ≠ .cell v
  keep : ∀ i h h', tn i h → (∀ b ∈ fp, ∀ o, h.get? b = some o → h'.get? b = some o) → tn i h'
  item : ∀ (X : Cx), X.prog = P → X.w = w → X.K = K → X.calm = true → ∀ (i : Nat) (pins : List (Addr × Obj)) (s : Shared) (σ : St) (H : Hp) (E : Value → Shared → Prop), Inv X pins σ H s → (∀ b ∈ fp, FpOk X pins H b) → tn i s.heap → J.go i H →
    wpAny (model P w) X.A (pyNext (.ref it)) (fun r s1 => ∃ u, r = some u ∧
      wpAny (model P w) X.A (letOwnedTupleGo tg (.ref it) u) (fun _ s2 => ∃ x H', Inv X pins σ H' s2 ∧ RelV x u ∧ J.yld i H x H' ∧ tn (i + 1) s2.heap ∧ ∀ b ∈ fp, H' b = none) E s1) E s
  done : ∀ (X : Cx), X.prog = P → X.w = w → X.K = K → X.calm = true → ∀ (i : Nat) (pins : List (Addr × Obj)) (s : Shared) (σ : St) (H : Hp) (E : Value → Shared → Prop), Inv X pins σ H s → (∀ b ∈ fp, FpOk X pins H b) → tn i s.heap → J.stop i H →
    wpAny (model P w) X.A (pyNext (.ref it)) (fun r s1 => r = none ∧ Inv X pins σ H s1) E s
  self : ∀ (A : Around) (i : Nat) (s : Shared) (Q : Value → Shared → Prop) (E : Value → Shared → Prop), tn i s.heap → Q (.ref it) s → wpAny (model P w) A (pyIter (.ref it)) Q E s
abbrev TI := St → Hp → (It → Hp → Prop) → Prop
/-- an iterator has come -/
def PIE (X : Cx) (pins : List (Addr × Obj)) (σ : St) (tg : Expr) (R : It → Hp → Prop) (itv : Value) (s2 : Shared) : Prop :=
  ∃ (it : Addr) (fp : List Addr) (tn : Nat → Heap → Prop) (J : It) (H' : Hp), itv = .ref it ∧ Inv X pins σ H' s2 ∧ Turn X.prog X.w X.K tg J fp it tn ∧ tn 0 s2.heap ∧ (∀ b ∈ fp, FpOk X pins H' b) ∧ R J H'
def PI (X : Cx) (tg iter : Expr) (wi : TI) : Prop :=
  ∀ (pins : List (Addr × Obj)) (s : Shared) (σ : St) (H : Hp) (R : It → Hp → Prop), Inv X pins σ H s → wi σ H R →
    wpAny (model X.prog X.w) X.A (eval iter X.env) (fun v s1 => wpAny (model X.prog X.w) X.A (pyIter v) (PIE X pins σ tg R) X.xe s1) X.xe s

/-- the step ahead of the store is nothing for an iterator that keeps no tuple -/
theorem go_of {M : Model} {A : Around} {E : Value → Shared → Prop} {s : Shared} {tg : Expr} {it : Addr} {u : Value} {o : Obj} {n : String} {vs : Array Value} {Q : Unit → Shared → Prop} (ho : s.heap.get? it = some o) (hc : o.cls = .type n) (hd : o.data = .fields vs)
    (hn : ["enumerate", "zip", "dict_itemiterator", "dict_reverseitemiterator", "odict_iterator", "itertools.zip_longest", "itertools.pairwise"].contains n = false) (hQ : Q () s) : wpAny M A (letOwnedTupleGo tg (.ref it) u) Q E s := by
  unfold letOwnedTupleGo
  cases tg <;> first
    | exact wpAny_pure hQ
    | (cases u <;> first
        | exact wpAny_pure hQ
        | (refine wpAny_bind (wpAny_load ho ?_)
           rw [hc, hd]
           show wpAny M A (if (["enumerate", "zip", "dict_itemiterator", "dict_reverseitemiterator", "odict_iterator", "itertools.zip_longest", "itertools.pairwise"].contains n && vs[0]? == some (rawInt _)) = true then _ else _) Q E s
           rw [if_neg (by intro h; rw [hn, Bool.false_and] at h; cases h)]
           exact wpAny_pure hQ))

/-- the list at a, as it stands at each turn (a loop may append to it) -/
def Itl (K : PySem.W.Frag) (a : Addr) : It :=
  ⟨fun i H => ∃ xs x, SqL K H a xs ∧ xs[i]? = some x, fun i H x H' => H' = H ∧ ∀ xs, SqL K H a xs → xs[i]? = some x, fun i H => ∃ xs, SqL K H a xs ∧ xs.length ≤ i⟩
def Itt (K : PySem.W.Frag) (a : Addr) : It :=
  ⟨fun i H => ∃ xs x, SqT K H a xs ∧ xs[i]? = some x, fun i H x H' => H' = H ∧ ∀ xs, SqT K H a xs → xs[i]? = some x, fun i H => ∃ xs, SqT K H a xs ∧ xs.length ≤ i⟩
/-- lo, lo + 1, .. (n of them) -/
def Itr (lo : Int) (n : Nat) : It := ⟨fun i _ => i < n, fun i H x H' => H' = H ∧ x = .int (lo + i), fun i _ => n ≤ i⟩
theorem turn_list {P : Program} {w : World} {K : PySem.W.Frag} {tg : Expr} (a it : Addr) : Turn P w K tg (Itl K a) [it] it (fun i h => h.IsListIter it a i) where
  mem := by simp
  obj := fun i h st b hb => by
    have e : b = it := by simpa using hb
    subst e
    obtain ⟨o, e, c, d⟩ := st
    exact ⟨o, e, fun v z => by rw [d] at z; cases z⟩
  keep := fun i h h' st k => st.at fun o e => k it (by simp) o e
  item := by
    intro X hP hw hK hc i pins s σ H E I hf st hg
    subst hP hw hK
    obtain ⟨xs, x, hq, hx⟩ := hg
    obtain ⟨its, rv, p, hz⟩ := I.list hq
    obtain ⟨u, hu, ru⟩ := rv.get hx
    obtain ⟨f0, f1, f2, f3, f4, f5⟩ := hf it (by simp)
    refine wpAny_pyNext_list_item st p.isList (x := u) (by simpa using hu) fun h' st' sb => ?_
    have I1 : Inv X pins σ H { s with heap := h' } := I.turned (t' := s.toks) (fun b o hb e => (sb.2 b hb).trans e) f0 f1 f3 f4 f5
    obtain ⟨o, e, c, d⟩ := id st'
    exact ⟨u, rfl, go_of (s := { s with heap := h' }) e c d (by decide) ⟨x, H, I1, ru, ⟨rfl, fun ys hy => by rw [I.list_inj hy hq]; exact hx⟩, st', fun b hb => (hf b hb).1⟩⟩
  done := by
    intro X hP hw hK hc i pins s σ H E I hf st hg
    subst hP hw hK
    obtain ⟨xs, hq, hx⟩ := hg
    obtain ⟨its, rv, p, hz⟩ := I.list hq
    obtain ⟨f0, f1, f2, f3, f4, f5⟩ := hf it (by simp)
    have hl := rv.length
    exact wpAny_pyNext_list_end (I.ok.hd hc) st p.isList (by simp; omega) fun h' eb => ⟨rfl, I.turned (t' := s.toks) (fun b o hb e => eb b o hb e) f0 f1 f3 f4 f5⟩
  self := fun _ _ _ _ _ st h => wpAny_pyIter_listiter st h
theorem turn_range {P : Program} {w : World} {K : PySem.W.Frag} {tg : Expr} (it : Addr) (lo : Int) (n : Nat) : Turn P w K tg (Itr lo n) [it] it (fun i h => IsRangeIter h it (lo + (i : Nat) * 1) ((n : Int) - (i : Nat)) 1) where
  mem := by simp
  obj := fun i h st b hb => by
    have e : b = it := by simpa using hb
    subst e
    exact ⟨_, st, fun v z => by
      have z' : Data.fields _ = Data.cell v := z
      cases z'⟩
  keep := fun i h h' st k => k it (by simp) _ st
  item := by
    intro X hP hw hK hc i pins s σ H E I hf st hg
    subst hP hw hK
    obtain ⟨f0, f1, f2, f3, f4, f5⟩ := hf it (by simp)
    have W := Walks.range (prog := X.prog) (w := X.w) (I.ok.hd hc) it lo 1 n
    refine W.item i s _ _ hg st fun v h' tk hv st' kk => ?_
    obtain ⟨t, rfl⟩ := hv
    have I1 : Inv X pins σ H { s with heap := h', toks := tk } := I.turned (fun b o hb e => kk b o (by simpa using hb) e) f0 f1 f3 f4 f5
    refine ⟨_, rfl, go_of (s := { s with heap := h', toks := tk }) (n := "range_iterator") st' rfl rfl (by decide) ⟨.int (lo + i), H, I1, ⟨t, ?_⟩, ⟨rfl, rfl⟩, st', fun b hb => (hf b hb).1⟩⟩
    rw [Int.mul_one]
  done := by
    intro X hP hw hK hc i pins s σ H E I hf st hg
    subst hP hw hK
    obtain ⟨f0, f1, f2, f3, f4, f5⟩ := hf it (by simp)
    exact wpAny_pyNext_range_end (I.ok.hd hc) st (by have : n ≤ i := hg; omega) fun h' eb => ⟨rfl, I.turned (t' := s.toks) (fun b o hb e => eb b o hb e) f0 f1 f3 f4 f5⟩
  self := fun _ _ _ _ _ st h => wpAny_pyIter_rangeiter st h
end L2

namespace L2
open PySem PySem.Spec PyProof.Rows
section
variable {X : Cx} {tg : Expr}
def iList (K : PySem.W.Frag) (tl : TE) : TI := fun σ H R => tl σ H fun x H1 => ∃ a, x = .ref a ∧ (∃ xs, SqL K H1 a xs) ∧ R (Itl K a) H1
def iTup (K : PySem.W.Frag) (tl : TE) : TI := fun σ H R => tl σ H fun x H1 => ∃ a, x = .ref a ∧ (∃ xs, SqT K H1 a xs) ∧ R (Itt K a) H1
theorem pi_list {l : Expr} {tl : TE} (hl : PE X l tl) : PI X tg l (iList X.K tl) := by
  intro pins s σ H R I h
  refine thn (hl pins s σ H _ I h) fun v s1 ⟨x, H1, I1, r1, q1⟩ => ?_
  obtain ⟨a, e, ⟨xs, hq⟩, q⟩ := q1
  subst e
  cases r1
  obtain ⟨its, rv, p, hz⟩ := I1.list hq
  refine wpAny_pyIter_list p.isList ?_
  refine ⟨s1.heap.objs.size, [s1.heap.objs.size], _, _, H1, rfl, I1.kept (t' := s1.toks) fun b o e => Heap.get?_push_of_some _ e, turn_list a _, ⟨_, Heap.get?_push_size _ rfl, rfl, rfl⟩, fun b hb => ?_, q⟩
  have e : b = s1.heap.objs.size := by simpa using hb
  subst e
  exact I1.fpOk (Nat.le_refl _) (I1.hok.fresh (Nat.le_refl _))
/-- a range object just made, walked -/
theorem range_it {pins : List (Addr × Obj)} {σ : St} {H : Hp} {s : Shared} {R : It → Hp → Prop} {E : Value → Shared → Prop} {lo hi : Int} {t u v : Tok} {tk : Nat} (I : Inv X pins σ H s) (h1 : -(2 ^ 62) ≤ lo) (h2 : lo < 2 ^ 62) (h3 : -(2 ^ 62) ≤ hi) (h4 : hi < 2 ^ 62)
    (q : R (Itr lo (hi - lo).toNat) H) : wpAny (model X.prog X.w) X.A (pyIter (.ref s.heap.objs.size)) (PIE X pins σ tg R) E { s with heap := s.heap.push { cls := .type "range", data := .fields #[.int lo t, .int hi u, .int 1 v] }, toks := tk } := by
  refine wpAny_pyIter_range (IsRange.new ..) (small_one h1 h2 h3 h4) ?_
  have I1 : Inv X pins σ H { s with heap := s.heap.push { cls := .type "range", data := .fields #[.int lo t, .int hi u, .int 1 v] }, toks := tk } := I.kept fun b o e => Heap.get?_push_of_some _ e
  refine ⟨(s.heap.push { cls := .type "range", data := .fields #[.int lo t, .int hi u, .int 1 v] }).objs.size, [(s.heap.push { cls := .type "range", data := .fields #[.int lo t, .int hi u, .int 1 v] }).objs.size], _, _, H, rfl,
    I1.kept (t' := tk) fun b o e => Heap.get?_push_of_some _ e, turn_range _ lo (hi - lo).toNat, ?_, fun b hb => ?_, q⟩
  · have e1 : lo + ((0 : Nat) : Int) * 1 = lo := by simp
    have e2 : (((hi - lo).toNat : Nat) : Int) - ((0 : Nat) : Int) = Builtin.Range.rangeSize lo hi 1 := by rw [rangeSize_one]; split <;> omega
    show IsRangeIter _ _ (lo + ((0 : Nat) : Int) * 1) ((((hi - lo).toNat : Nat) : Int) - ((0 : Nat) : Int)) 1
    rw [e1, e2]
    exact Heap.get?_push_size _ rfl
  · have e : b = (s.heap.push { cls := .type "range", data := .fields #[.int lo t, .int hi u, .int 1 v] }).objs.size := by simpa using hb
    subst e
    exact I1.fpOk (Nat.le_refl _) (I1.hok.fresh (Nat.le_refl _))
def iRng1 (ta : TA) : TI := fun σ H R => ta σ H fun vs H1 => ∃ j : Int, vs = [.int j] ∧ -(2 ^ 62) ≤ j ∧ j < 2 ^ 62 ∧ R (Itr 0 j.toNat) H1
def iRng2 (ta : TA) : TI := fun σ H R => ta σ H fun vs H1 => ∃ i j : Int, vs = [.int i, .int j] ∧ (-(2 ^ 62) ≤ i ∧ i < 2 ^ 62 ∧ -(2 ^ 62) ≤ j ∧ j < 2 ^ 62) ∧ R (Itr i (j - i).toNat) H1
theorem pi_range1 {a : Expr} {ta : TA} {p pos : Pos} (hg : Gl X "range") (hm : X.mg "range" = none) (ha : PA X [a] ta) (hs : starEach [a] X.env = [(false, eval a X.env)] := by rfl) : PI X tg (.Call (.Name "range" p) [a] [] pos) (iRng1 ta) := by
  intro pins s σ H R I h
  refine Call_ (ld_blt I hg hm boot_range (PyProof.Rows.callWith_type1 (thn (ha pos pins s σ H _ I h) fun us s1 ⟨vs, H1, I1, r1, q1⟩ => ?_) hs rfl))
  obtain ⟨j, e, q1, q2, q⟩ := q1
  subst e
  cases r1 with
  | cons r rr =>
    cases rr
    obtain ⟨t, rfl⟩ := r
    exact call_range_1 (range_it I1 (by omega) (by omega) q1 q2 (by simpa using q))
theorem pi_range2 {a b : Expr} {ta : TA} {p pos : Pos} (hg : Gl X "range") (hm : X.mg "range" = none) (ha : PA X [a, b] ta) (hs : starEach [a, b] X.env = [(false, eval a X.env), (false, eval b X.env)] := by rfl) (hs2 : starEach [b] X.env = [(false, eval b X.env)] := by rfl) :
    PI X tg (.Call (.Name "range" p) [a, b] [] pos) (iRng2 ta) := by
  intro pins s σ H R I h
  refine Call_ (ld_blt I hg hm boot_range (PyProof.Rows.callWith_type1 (thn (ha pos pins s σ H _ I h) fun us s1 ⟨vs, H1, I1, r1, q1⟩ => ?_) (by rw [hs, hs2]) (by rw [hs2]; rfl)))
  obtain ⟨i, j, e, ⟨q1, q2, q3, q4⟩, q⟩ := q1
  subst e
  cases r1 with
  | cons r rr =>
    cases rr with
    | cons r' rr =>
      cases rr
      obtain ⟨t, rfl⟩ := r
      obtain ⟨t', rfl⟩ := r'
      exact call_range_2 (range_it I1 q1 q2 q3 q4 q)

/-! ### for -/
/-- W: the invariant by the turn and a measure; N: what the body is to reach -/
def tFor (wi : TI) (g : TG) (tb : TS) : TS := fun D σ H => wi σ H fun J H1 => ∃ W : Nat → Nat → St → Hp → Prop, (∃ m, W 0 m σ H1) ∧ ∀ i m σ H, W i m σ H →
  (J.stop i H ∧ D.nx σ H) ∨ (J.go i H ∧ ∃ N : St → Hp → Prop, (∀ σ' H', N σ' H' → ∃ m', m' < m ∧ W (i + 1) m' σ' H') ∧ ∀ x H', J.yld i H x H' → g x σ H' fun σ2 H2 => tb { D with nx := N, ct := N, bk := D.nx } σ2 H2)
/-- the records at fp as they stand -/
def pinsAt (fp : List Addr) (h : Heap) : List (Addr × Obj) := fp.filterMap fun b => (h.get? b).map fun o => (b, o)
theorem mem_pinsAt {fp : List Addr} {h : Heap} {b : Addr} {o : Obj} (hb : b ∈ fp) (e : h.get? b = some o) : (b, o) ∈ pinsAt fp h := List.mem_filterMap.mpr ⟨b, hb, by rw [e]; rfl⟩
theorem of_pinsAt {fp : List Addr} {h : Heap} {p : Addr × Obj} (hp : p ∈ pinsAt fp h) : p.1 ∈ fp ∧ h.get? p.1 = some p.2 := by
  obtain ⟨b, hb, e⟩ := List.mem_filterMap.mp hp
  cases q : h.get? b with
  | none => rw [q] at e; cases e
  | some o =>
    rw [q] at e
    have e' : (b, o) = p := Option.some.inj e
    subst e'
    exact ⟨hb, q⟩
theorem Inv.pinned {pins : List (Addr × Obj)} {σ : St} {H : Hp} {s : Shared} {fp : List Addr} (I : Inv X pins σ H s) (hf : ∀ b ∈ fp, FpOk X pins H b) (ho : ∀ b ∈ fp, ∃ o, s.heap.get? b = some o ∧ ∀ v, o.data ≠ .cell v) : Inv X (pins ++ pinsAt fp s.heap) σ H s :=
  I.pins_of fun p hp => (List.mem_append.mp hp).elim (fun z => I.pin p (List.mem_append_right _ z)) fun z => by
    obtain ⟨hb, e⟩ := of_pinsAt z
    obtain ⟨f0, f1, f2, _⟩ := hf p.1 hb
    obtain ⟨o, e', d⟩ := ho p.1 hb
    rw [e] at e'; cases e'
    exact ⟨e, f0, f1, f2, d⟩
theorem Inv.unpinned {pins pl : List (Addr × Obj)} {σ : St} {H : Hp} {s : Shared} (I : Inv X (pins ++ pl) σ H s) : Inv X pins σ H s := I.pins_of fun p hp => I.pin p (List.mem_append_right _ (List.mem_append_left _ hp))
theorem ps_for {iter : Expr} {body : List Stmt} {wi : TI} {g : TG} {tb : TS} {pos : Pos} (hp : PassesOwn (model X.prog X.w) X.A X.env X.xe) (hc : X.calm = true) (hi : PI X tg iter wi) (hg : PG X tg g) (hb : PSs X body tb)
    (hs : ∀ x, foldedSetIterable iter X.env x = pure x := by intro _; rfl) : PS X (.For tg iter body [] pos) (tFor wi g tb) := by
  intro pins s σ H D I h
  refine wpAny_For (thn (hi pins s σ H _ I h) fun v s1 h1 => thn h1 fun itv s2 h2 => ?_) hs
  obtain ⟨it, fp, tn, J, H2, e, I2, T, st2, f2, W, ⟨m0, w0⟩, turn⟩ := h2
  subst e
  -- what stays true of the iterator's objects through the loop
  have stat : ∀ {H' : Hp}, (∀ b ∈ fp, H' b = none) → ∀ b ∈ fp, FpOk X pins H' b := fun hn b hb => ⟨hn b hb, (f2 b hb).2⟩
  refine codeAny_forLoop_any (fun n s' => ∃ i σ' H', Inv X pins σ' H' s' ∧ tn i s'.heap ∧ (∀ b ∈ fp, H' b = none) ∧ W i n σ' H') ?_ m0 ⟨0, σ, H2, I2, st2, fun b hb => (f2 b hb).1, w0⟩
  rintro n s3 ⟨i, σ3, H3, I3, st3, fr3, w3⟩
  rcases turn i n σ3 H3 w3 with ⟨stop, qn⟩ | ⟨go, N, hN, step⟩
  · refine wpAny_passesOwn hp (thn (T.done X rfl rfl rfl hc i pins s3 σ3 H3 X.xe I3 (stat fr3) st3 stop) fun r s4 ⟨hr, I4⟩ => ?_)
    subst hr
    exact wpAny_execs_nil ⟨σ3, H3, I4, qn⟩
  · refine wpAny_passesOwn hp (thn (T.item X rfl rfl rfl hc i pins s3 σ3 H3 X.xe I3 (stat fr3) st3 go) fun r s4 ⟨u, hr, h4⟩ => ?_)
    subst hr
    refine wpAny_passesOwn hp (thn h4 fun _ s5 ⟨x, H5, I5, r5, y5, st5, fr5⟩ => ?_)
    have I5' := I5.pinned (stat fr5) (T.obj _ _ st5)
    refine wpAny_passesOwn hp (thn (hg _ s5 σ3 H5 x u _ I5' r5 (step x H5 y5)) fun _ s6 ⟨σ6, H6, I6, q6⟩ => ?_)
    refine wpAny_passesOwn hp (thn (hb _ s6 σ6 H6 _ I6 q6) fun f s7 q7 => ?_)
    have again : ∀ {σ7 : St} {H7 : Hp}, Inv X (pins ++ pinsAt fp s5.heap) σ7 H7 s7 → N σ7 H7 → ∃ m, m < n ∧ ∃ i σ' H', Inv X pins σ' H' s7 ∧ tn i s7.heap ∧ (∀ b ∈ fp, H' b = none) ∧ W i m σ' H' := fun {σ7 H7} I7 n7 => by
      obtain ⟨m', hm, w7⟩ := hN σ7 H7 n7
      refine ⟨m', hm, i + 1, σ7, H7, I7.unpinned, T.keep _ _ _ st5 fun b hb o e => (I7.pin (b, o) (List.mem_append_right _ (List.mem_append_right _ (mem_pinsAt hb e)))).1, fun b hb => ?_, w7⟩
      obtain ⟨o, e, d⟩ := T.obj _ _ st5 b hb
      exact (I7.pin (b, o) (List.mem_append_right _ (List.mem_append_right _ (mem_pinsAt hb e)))).2.1
    cases f with
    | next => obtain ⟨σ7, H7, I7, n7⟩ := q7; exact again I7 n7
    | cont => obtain ⟨σ7, H7, I7, n7⟩ := q7; exact again I7 n7
    | brk => obtain ⟨σ7, H7, I7, q7⟩ := q7; exact ⟨σ7, H7, I7.unpinned, q7⟩
    | ret v => obtain ⟨x7, σ7, H7, I7, r7, q7⟩ := q7; exact ⟨x7, σ7, H7, I7.unpinned, r7, q7⟩
end

/-! ### the forms one uses -/
/-- over a list that the body leaves as it is -/
theorem for_list {K : PySem.W.Frag} {a : Addr} {xs : List V} {g : TG} {tb : TS} {D : Ends} {σ : St} {H : Hp} (Pv : Nat → St → Hp → Prop) (h0 : Pv 0 σ H) (hl : ∀ i σ H, i ≤ xs.length → Pv i σ H → SqL K H a xs)
    (hs : ∀ i x σ H, xs[i]? = some x → Pv i σ H → g x σ H fun σ2 H2 => tb { D with nx := Pv (i + 1), ct := Pv (i + 1), bk := D.nx } σ2 H2) (hd : ∀ σ H, Pv xs.length σ H → D.nx σ H) :
    ∃ W : Nat → Nat → St → Hp → Prop, (∃ m, W 0 m σ H) ∧ ∀ i m σ H, W i m σ H →
      ((Itl K a).stop i H ∧ D.nx σ H) ∨ ((Itl K a).go i H ∧ ∃ N : St → Hp → Prop, (∀ σ' H', N σ' H' → ∃ m', m' < m ∧ W (i + 1) m' σ' H') ∧ ∀ x H', (Itl K a).yld i H x H' → g x σ H' fun σ2 H2 => tb { D with nx := N, ct := N, bk := D.nx } σ2 H2) := by
  refine ⟨fun i m σ H => m = xs.length - i ∧ i ≤ xs.length ∧ Pv i σ H, ⟨xs.length, by simp, Nat.zero_le _, h0⟩, ?_⟩
  rintro i m σ H ⟨rfl, hi, p⟩
  have q := hl i σ H hi p
  by_cases hlt : i < xs.length
  · refine .inr ⟨⟨xs, xs[i], q, by simp [hlt]⟩, Pv (i + 1), fun σ' H' p' => ⟨xs.length - (i + 1), by omega, rfl, hlt, p'⟩, fun x H' y => ?_⟩
    obtain ⟨e, y⟩ := y
    subst e
    exact hs i x σ _ (y xs q) p
  · have e : i = xs.length := by omega
    subst e
    exact .inl ⟨⟨xs, q, Nat.le_refl _⟩, hd σ H p⟩
theorem for_range {lo : Int} {n : Nat} {g : TG} {tb : TS} {D : Ends} {σ : St} {H : Hp} (Pv : Nat → St → Hp → Prop) (h0 : Pv 0 σ H)
    (hs : ∀ i σ H, i < n → Pv i σ H → g (.int (lo + i)) σ H fun σ2 H2 => tb { D with nx := Pv (i + 1), ct := Pv (i + 1), bk := D.nx } σ2 H2) (hd : ∀ σ H, Pv n σ H → D.nx σ H) :
    ∃ W : Nat → Nat → St → Hp → Prop, (∃ m, W 0 m σ H) ∧ ∀ i m σ H, W i m σ H →
      ((Itr lo n).stop i H ∧ D.nx σ H) ∨ ((Itr lo n).go i H ∧ ∃ N : St → Hp → Prop, (∀ σ' H', N σ' H' → ∃ m', m' < m ∧ W (i + 1) m' σ' H') ∧ ∀ x H', (Itr lo n).yld i H x H' → g x σ H' fun σ2 H2 => tb { D with nx := N, ct := N, bk := D.nx } σ2 H2) := by
  refine ⟨fun i m σ H => m = n - i ∧ i ≤ n ∧ Pv i σ H, ⟨n, by simp, Nat.zero_le _, h0⟩, ?_⟩
  rintro i m σ H ⟨rfl, hi, p⟩
  by_cases hlt : i < n
  · refine .inr ⟨hlt, Pv (i + 1), fun σ' H' p' => ⟨n - (i + 1), by omega, rfl, hlt, p'⟩, fun x H' y => ?_⟩
    obtain ⟨e, y⟩ := y
    subst e y
    exact hs i σ _ hlt p
  · have e : i = n := by omega
    subst e
    exact .inl ⟨Nat.le_refl _, hd σ H p⟩
end L2

namespace L2
open PySem PySem.Spec PyProof.Rows

abbrev R2 := V → V → Hp → VK → Prop
/-- a two-place operation on values: f is binaryOp op, inplaceOp op or compareOp op -/
def OpR (X : Cx) (f : Value → Value → Sem Value) (r : R2) : Prop :=
  ∀ (pins : List (Addr × Obj)) (s : Shared) (σ : St) (H : Hp) (x y : V) (v u : Value) (Q : VK), Inv X pins σ H s → RelV x v → RelV y u → r x y H Q →
    wpAny (model X.prog X.w) X.A (f v u) (EP X pins σ Q) X.xe s
/-- a one-place operation -/
def UnR (X : Cx) (f : Value → Sem Value) (r : V → Hp → VK → Prop) : Prop :=
  ∀ (pins : List (Addr × Obj)) (s : Shared) (σ : St) (H : Hp) (x : V) (v : Value) (Q : VK), Inv X pins σ H s → RelV x v → r x H Q →
    wpAny (model X.prog X.w) X.A (f v) (EP X pins σ Q) X.xe s
/-- a call of a value that is known (a builtin, a type) with values -/
def CallR (X : Cx) (f : Value) (r : List V → Hp → VK → Prop) : Prop :=
  ∀ (pins : List (Addr × Obj)) (s : Shared) (σ : St) (H : Hp) (xs : List V) (us : List Value) (Q : VK), Inv X pins σ H s → Vals xs us → r xs H Q →
    wpAny (model X.prog X.w) X.A (call f us) (EP X pins σ Q) X.xe s
/-- a value's truth -/
def TruR (X : Cx) (r : V → Hp → (Bool → Hp → Prop) → Prop) : Prop :=
  ∀ (pins : List (Addr × Obj)) (s : Shared) (σ : St) (H : Hp) (x : V) (v : Value) (Q : Bool → Hp → Prop), Inv X pins σ H s → RelV x v → r x H Q →
    wpAny (model X.prog X.w) X.A (truthy v) (TP X pins σ Q) X.xe s

def tOp (r : R2) (ta tb : TE) : TE := fun σ H Q => ta σ H fun x H1 => tb σ H1 fun y H2 => r x y H2 Q
def tUn (r : V → Hp → VK → Prop) (ta : TE) : TE := fun σ H Q => ta σ H fun x H1 => r x H1 Q
/-- ints in, under C, and a value out -/
def rI (C : Int → Int → Prop) (g : Int → Int → V) : R2 := fun x y H Q => ∃ i j, x = .int i ∧ y = .int j ∧ C i j ∧ Q (g i j) H
def rI0 (g : Int → Int → V) : R2 := fun x y H Q => ∃ i j, x = .int i ∧ y = .int j ∧ Q (g i j) H
def rU (g : Int → V) : V → Hp → VK → Prop := fun x H Q => ∃ i, x = .int i ∧ Q (g i) H

section
variable {X : Cx} {a b c : Expr} {ta tb tc : TE} {pos : Pos}

theorem binT (ha : PE X a ta) (hb : PE X b tb) {pins : List (Addr × Obj)} {s : Shared} {σ : St} {H : Hp} {R : V → V → Hp → Prop} (I : Inv X pins σ H s)
    (h : ta σ H fun x H1 => tb σ H1 fun y H2 => R x y H2) {Q : Value → Shared → Prop} {f : Value → Value → Sem Value}
    (hf : ∀ v u s2 x y H2, Inv X pins σ H2 s2 → RelV x v → RelV y u → R x y H2 → wpAny (model X.prog X.w) X.A (f v u) Q X.xe s2) :
    wpAny (model X.prog X.w) X.A (eval a X.env) (fun v s₁ => wpAny (model X.prog X.w) X.A (eval b X.env) (fun u s₂ => wpAny (model X.prog X.w) X.A (f v u) Q X.xe s₂) X.xe s₁) X.xe s := by
  refine thn (ha pins s σ H _ I h) fun v s1 ⟨x, H1, I1, r1, q1⟩ => ?_
  refine thn (hb pins s1 σ H1 _ I1 q1) fun u s2 ⟨y, H2, I2, r2, q2⟩ => ?_
  exact hf v u s2 x y H2 I2 r1 r2 q2

theorem pe_op {op : Operator} {r : R2} (ho : OpR X (binaryOp op) r) (ha : PE X a ta) (hb : PE X b tb) : PE X (.BinOp a op b pos) (tOp r ta tb) := by
  intro pins s σ H Q I h
  exact wpAny_BinOp (binT ha hb I h fun v u s2 x y H2 I2 rx ry q => ho pins s2 σ H2 x y v u Q I2 rx ry q)
theorem pe_un {op : UnaryOp} {r : V → Hp → VK → Prop} (ho : UnR X (unaryOp op) r) (ha : PE X a ta) : PE X (.UnaryOp op a pos) (tUn r ta) := by
  intro pins s σ H Q I h
  exact UnaryOp_ (thn (ha pins s σ H _ I h) fun v s1 ⟨x, H1, I1, r1, q1⟩ => ho pins s1 σ H1 x v Q I1 r1 q1)

/-! ### ints -/
theorem opI {f : Value → Value → Sem Value} {C : Int → Int → Prop} {g : Int → Int → Int}
    (rule : ∀ (i j : Int) (t u : Tok) (s : Shared) (Q : Value → Shared → Prop) (E : Value → Shared → Prop), C i j → Q (.int (g i j) s.toks) { s with toks := s.toks + 1 } → wpAny (model X.prog X.w) X.A (f (.int i t) (.int j u)) Q E s) :
    OpR X f (rI C fun i j => .int (g i j)) := by
  intro pins s σ H x y v u Q I rx ry h
  obtain ⟨i, j, rfl, rfl, hc, q⟩ := h
  obtain ⟨t, rfl⟩ := rx
  obtain ⟨t', rfl⟩ := ry
  exact rule i j t t' s _ _ hc ⟨.int (g i j), H, I.tok _, ⟨_, rfl⟩, q⟩
theorem opI0 {f : Value → Value → Sem Value} {g : Int → Int → Int}
    (rule : ∀ (i j : Int) (t u : Tok) (s : Shared) (Q : Value → Shared → Prop) (E : Value → Shared → Prop), Q (.int (g i j) s.toks) { s with toks := s.toks + 1 } → wpAny (model X.prog X.w) X.A (f (.int i t) (.int j u)) Q E s) :
    OpR X f (rI0 fun i j => .int (g i j)) := by
  intro pins s σ H x y v u Q I rx ry h
  obtain ⟨i, j, rfl, rfl, q⟩ := h
  obtain ⟨t, rfl⟩ := rx
  obtain ⟨t', rfl⟩ := ry
  exact rule i j t t' s _ _ ⟨.int (g i j), H, I.tok _, ⟨_, rfl⟩, q⟩
theorem opB0 {f : Value → Value → Sem Value} {g : Int → Int → Bool}
    (rule : ∀ (i j : Int) (t u : Tok) (s : Shared) (Q : Value → Shared → Prop) (E : Value → Shared → Prop), Q (.bool (g i j)) s → wpAny (model X.prog X.w) X.A (f (.int i t) (.int j u)) Q E s) :
    OpR X f (rI0 fun i j => .bl (g i j)) := by
  intro pins s σ H x y v u Q I rx ry h
  obtain ⟨i, j, rfl, rfl, q⟩ := h
  obtain ⟨t, rfl⟩ := rx
  obtain ⟨t', rfl⟩ := ry
  exact rule i j t t' s _ _ ⟨.bl (g i j), H, I, rfl, q⟩

def CDiv (i j : Int) : Prop := 0 < j ∧ j < 1073741824
def CDivN (i j : Int) : Prop := j ≠ 0 ∧ j.natAbs < 1073741824
def CPow (i j : Int) : Prop := 0 ≤ j ∧ j ≤ 1000000 ∧ i.natAbs < 2 ^ 64
def CMul (i j : Int) : Prop := (-(2 ^ 64) < i ∧ i < 2 ^ 64) ∨ (-(2 ^ 64) < j ∧ j < 2 ^ 64)
theorem CMul.ok {i j : Int} (h : CMul i j) : IntMulOk i j := by
  rcases h with ⟨h1, h2⟩ | ⟨h1, h2⟩
  · exact .of_left (intBits_le_64 h1 h2)
  · exact .of_right (intBits_le_64 h1 h2)
theorem two_pow_nn (k : Nat) : (0 : Int) ≤ 2 ^ k := by
  rw [two_pow_cast]
  exact Int.natCast_nonneg _

theorem op_add : OpR X (binaryOp .Add) (rI0 fun i j => .int (i + j)) := opI0 fun _ _ _ _ _ _ _ q => add_int q
theorem op_sub : OpR X (binaryOp .Sub) (rI0 fun i j => .int (i - j)) := opI0 fun _ _ _ _ _ _ _ q => sub_int q
theorem op_mul : OpR X (binaryOp .Mult) (rI CMul fun i j => .int (i * j)) := opI fun _ _ _ _ _ _ _ hc q => mul_int q hc.ok
/-- // by a positive divisor -/
theorem op_fdiv : OpR X (binaryOp .FloorDiv) (rI CDiv fun i j => .int (i / j)) := opI fun i j _ _ _ _ _ hc q => by
  have h1 : (0 : Int) < j := hc.1
  have h2 : j < 1073741824 := hc.2
  exact floordiv_int (by omega) (by rw [Int.fdiv_eq_ediv_of_nonneg i (by omega)]; exact q) (.inl (PyProof.noPylong_small (by omega)))
/-- % by a positive divisor of any size -/
theorem op_mod : OpR X (binaryOp .Mod) (rI (fun _ j => 0 < j) fun i j => .int (i % j)) := opI fun i j _ _ _ _ _ hc q => by
  have h1 : (0 : Int) < j := hc
  exact mod_int' (by omega) (by rw [Int.fmod_eq_emod_of_nonneg i (by omega)]; exact q)
theorem op_pow : OpR X (binaryOp .Pow) (rI CPow fun i j => .int (i ^ j.toNat)) := opI fun _ _ _ _ _ _ _ hc q => pow_int_small hc.1 hc.2.1 hc.2.2 q
theorem op_shr : OpR X (binaryOp .RShift) (rI (fun _ j => 0 ≤ j) fun i j => .int (i / 2 ^ j.toNat)) := opI fun i j _ _ _ _ _ hc q =>
  rshift_int hc (by rw [Int.fdiv_eq_ediv_of_nonneg i (two_pow_nn _)]; exact q)


theorem unI {f : Value → Sem Value} {g : Int → Int}
    (rule : ∀ (i : Int) (t : Tok) (s : Shared) (Q : Value → Shared → Prop) (E : Value → Shared → Prop), Q (.int (g i) s.toks) { s with toks := s.toks + 1 } → wpAny (model X.prog X.w) X.A (f (.int i t)) Q E s) :
    UnR X f (rU fun i => .int (g i)) := by
  intro pins s σ H x v Q I rx h
  obtain ⟨i, rfl, q⟩ := h
  obtain ⟨t, rfl⟩ := rx
  exact rule i t s _ _ ⟨.int (g i), H, I.tok _, ⟨_, rfl⟩, q⟩
theorem un_neg : UnR X (unaryOp .USub) (rU fun i => .int (-i)) := unI fun _ _ _ _ _ q => neg_int q

/-! ### bools among ints: n += (a < b) -/
end

/-! ### comparisons -/
/-- the scalars that == tells apart as data does -/
def scal : V → V → Bool
  | .non, .non => true | .non, .int _ => true | .int _, .non => true | .non, .bl _ => true | .bl _, .non => true | .non, .str _ => true | .str _, .non => true
  | .int _, .int _ => true | .bl _, .bl _ => true | .str _, .str _ => true | .byt _, .byt _ => true
  | .int _, .str _ => true | .str _, .int _ => true | .bl _, .str _ => true | .str _, .bl _ => true
  | _, _ => false
def rEq : R2 := fun x y H Q => scal x y = true ∧ Q (.bl (decide (x = y))) H
def rNe : R2 := fun x y H Q => scal x y = true ∧ Q (.bl (!decide (x = y))) H

theorem dec_int {i j : Int} : decide (V.int i = V.int j) = (i == j) := by
  rw [Bool.eq_iff_iff]
  simp
theorem dec_bl {i j : Bool} : decide (V.bl i = V.bl j) = (i == j) := by
  rw [Bool.eq_iff_iff]
  simp
theorem dec_str {i j : Str} : decide (V.str i = V.str j) = (i == j) := by
  rw [Bool.eq_iff_iff]
  simp
theorem dec_byt {i j : Array UInt8} : decide (V.byt i = V.byt j) = (i.toList == j.toList) := by
  rw [Bool.eq_iff_iff]
  cases i
  cases j
  simp

section
variable {X : Cx} {a b c : Expr} {ta tb tc : TE} {pos : Pos}
theorem fin_bl {pins : List (Addr × Obj)} {σ : St} {H : Hp} {s : Shared} {Q : VK} {k k' : Bool} (I : Inv X pins σ H s) (q : Q (.bl k) H) (e : k = k') : EP X pins σ Q (.bool k') s := by
  subst e
  exact ⟨.bl k, H, I, rfl, q⟩
theorem op_eq : OpR X (compareOp .Eq) rEq := by
  intro pins s σ H x y v u Q I rx ry h
  obtain ⟨hs, q⟩ := h
  cases x with
  | non =>
    cases rx
    cases y with
    | non => cases ry; exact PySem.EqNone.eq_none_none (fin_bl I q (by simp))
    | bl j => cases ry; exact PySem.EqNone.eq_none_bool (fin_bl I q (by simp))
    | int j => obtain ⟨t', rfl⟩ := ry; exact PySem.EqNone.eq_none_int (fin_bl I q (by simp))
    | str j => obtain ⟨t', rfl⟩ := ry; exact PySem.EqNone.eq_none_str (fin_bl I q (by simp))
    | _ => exact absurd (show false = true from hs) Bool.false_ne_true
  | bl i =>
    cases rx
    cases y with
    | non => cases ry; exact PySem.EqNone.eq_bool_none (fin_bl I q (by simp))
    | bl j => cases ry; exact eq_bool (fin_bl I q dec_bl)
    | str j => obtain ⟨t', rfl⟩ := ry; exact PySem.EqMixed.eq_bool_str (fin_bl I q (by simp))
    | _ => exact absurd (show false = true from hs) Bool.false_ne_true
  | int i =>
    obtain ⟨t, rfl⟩ := rx
    cases y with
    | non => cases ry; exact PySem.EqNone.eq_int_none (fin_bl I q (by simp))
    | int j => obtain ⟨t', rfl⟩ := ry; exact eq_int (fin_bl I q dec_int)
    | str j => obtain ⟨t', rfl⟩ := ry; exact PySem.EqMixed.eq_int_str (fin_bl I q (by simp))
    | _ => exact absurd (show false = true from hs) Bool.false_ne_true
  | str i =>
    obtain ⟨t, rfl⟩ := rx
    cases y with
    | non => cases ry; exact PySem.EqNone.eq_str_none (fin_bl I q (by simp))
    | bl j => cases ry; exact PySem.EqMixed.eq_str_bool (fin_bl I q (by simp))
    | int j => obtain ⟨t', rfl⟩ := ry; exact PySem.EqMixed.eq_str_int (fin_bl I q (by simp))
    | str j => obtain ⟨t', rfl⟩ := ry; exact eq_str (fin_bl I q dec_str)
    | _ => exact absurd (show false = true from hs) Bool.false_ne_true
  | byt i =>
    obtain ⟨t, rfl⟩ := rx
    cases y with
    | byt j => obtain ⟨t', rfl⟩ := ry; exact PySem.W.eq_bytes (fin_bl I q dec_byt)
    | _ => exact absurd (show false = true from hs) Bool.false_ne_true
  | _ => cases y <;> exact absurd (show false = true from hs) Bool.false_ne_true
theorem op_ne : OpR X (compareOp .NotEq) rNe := by
  intro pins s σ H x y v u Q I rx ry h
  obtain ⟨hs, q⟩ := h
  cases x with
  | non =>
    cases rx
    cases y with
    | non => cases ry; exact PySem.EqNone.ne_none_none (fin_bl I q (by simp))
    | bl j => cases ry; exact PySem.EqNone.ne_none_bool (fin_bl I q (by simp))
    | int j => obtain ⟨t', rfl⟩ := ry; exact PySem.EqNone.ne_none_int (fin_bl I q (by simp))
    | str j => obtain ⟨t', rfl⟩ := ry; exact PySem.EqNone.ne_none_str (fin_bl I q (by simp))
    | _ => exact absurd (show false = true from hs) Bool.false_ne_true
  | bl i =>
    cases rx
    cases y with
    | non => cases ry; exact PySem.EqNone.ne_bool_none (fin_bl I q (by simp))
    | bl j => cases ry; exact ne_bool (fin_bl I q (congrArg not dec_bl))
    | str j => obtain ⟨t', rfl⟩ := ry; exact PySem.EqMixed.ne_bool_str (fin_bl I q (by simp))
    | _ => exact absurd (show false = true from hs) Bool.false_ne_true
  | int i =>
    obtain ⟨t, rfl⟩ := rx
    cases y with
    | non => cases ry; exact PySem.EqNone.ne_int_none (fin_bl I q (by simp))
    | int j => obtain ⟨t', rfl⟩ := ry; exact ne_int (fin_bl I q (congrArg not dec_int))
    | str j => obtain ⟨t', rfl⟩ := ry; exact PySem.EqMixed.ne_int_str (fin_bl I q (by simp))
    | _ => exact absurd (show false = true from hs) Bool.false_ne_true
  | str i =>
    obtain ⟨t, rfl⟩ := rx
    cases y with
    | non => cases ry; exact PySem.EqNone.ne_str_none (fin_bl I q (by simp))
    | bl j => cases ry; exact PySem.EqMixed.ne_str_bool (fin_bl I q (by simp))
    | int j => obtain ⟨t', rfl⟩ := ry; exact PySem.EqMixed.ne_str_int (fin_bl I q (by simp))
    | str j => obtain ⟨t', rfl⟩ := ry; exact ne_str (fin_bl I q (congrArg not dec_str))
    | _ => exact absurd (show false = true from hs) Bool.false_ne_true
  | byt i =>
    obtain ⟨t, rfl⟩ := rx
    cases y with
    | byt j => obtain ⟨t', rfl⟩ := ry; exact PySem.W.ne_bytes (fin_bl I q (congrArg not dec_byt))
    | _ => exact absurd (show false = true from hs) Bool.false_ne_true
  | _ => cases y <;> exact absurd (show false = true from hs) Bool.false_ne_true

theorem op_lt : OpR X (compareOp .Lt) (rI0 fun i j => .bl (decide (i < j))) := opB0 fun _ _ _ _ _ _ _ q => lt_int q
theorem op_le : OpR X (compareOp .LtE) (rI0 fun i j => .bl (decide (i ≤ j))) := opB0 fun _ _ _ _ _ _ _ q => le_int q
theorem op_gt : OpR X (compareOp .Gt) (rI0 fun i j => .bl (decide (j < i))) := opB0 fun _ _ _ _ _ _ _ q => gt_int q
theorem op_ge : OpR X (compareOp .GtE) (rI0 fun i j => .bl (decide (j ≤ i))) := opB0 fun _ _ _ _ _ _ _ q => ge_int q

/-- is None, is not None: the right side a value none -/
theorem op_isN : OpR X (compareOp .Is) (fun x y H Q => y = .non ∧ Q (.bl (decide (x = .non))) H) := by
  intro pins s σ H x y v u Q I rx ry h
  obtain ⟨rfl, q⟩ := h
  cases ry
  refine is_none_gen (fin_bl I q ?_)
  cases x <;> first
    | (cases rx; rfl)
    | (obtain ⟨t, rfl⟩ := rx; rfl)
theorem op_notN : OpR X (compareOp .IsNot) (fun x y H Q => y = .non ∧ Q (.bl (!decide (x = .non))) H) := by
  intro pins s σ H x y v u Q I rx ry h
  obtain ⟨rfl, q⟩ := h
  cases ry
  refine isnot_none_gen (fin_bl I q ?_)
  cases x <;> first
    | (cases rx; rfl)
    | (obtain ⟨t, rfl⟩ := rx; rfl)

/-- is, is not of two objects that are tracked lists or instances -/
def isObj : HO → Bool
  | .lst _ => true
  | .ins _ _ _ => true
  | _ => false

/-- two rules for one operation: by cases -/
theorem OpR.or {f : Value → Value → Sem Value} {r r' : R2} (h : OpR X f r) (h' : OpR X f r') : OpR X f (fun x y H Q => r x y H Q ∨ r' x y H Q) := by
  intro pins s σ H x y v u Q I rx ry q
  rcases q with q | q
  · exact h pins s σ H x y v u Q I rx ry q
  · exact h' pins s σ H x y v u Q I rx ry q

theorem nomark (b : Expr) {op : CmpOp} (h : op ≠ .In := by decide) (h2 : op ≠ .NotIn := by decide) : behindInMarks op b = false := by
  have e1 : (op == CmpOp.In) = false := by cases op <;> first | rfl | exact absurd rfl h
  have e2 : (op == CmpOp.NotIn) = false := by cases op <;> first | rfl | exact absurd rfl h2
  cases b <;> simp [behindInMarks, e1, e2]
/-- a comparison as a value; hm: nomark b, or (for in, not in) by with_unfolding_all rfl -/
theorem pe_cmpR {op : CmpOp} {r : R2} (ho : OpR X (compareOp op) r) (ha : PE X a ta) (hb : PE X b tb) (hm : behindInMarks op b = false) : PE X (.Compare a [op] [b] pos) (tOp r ta tb) := by
  intro pins s σ H Q I h
  exact wpAny_Compare1 (binT ha hb I h fun v u s2 x y H2 I2 rx ry q => ho pins s2 σ H2 x y v u Q I2 rx ry q) hm
/-- a reading of a value as a test -/
def tTest (t : TE) : TT := fun σ H Q => t σ H fun x H' => ∃ k, x = .bl k ∧ Q k H'
theorem pt_cmpR {op : CmpOp} {r : R2} (ho : OpR X (compareOp op) r) (ha : PE X a ta) (hb : PE X b tb) (hm : behindInMarks op b = false) : PT X (.Compare a [op] [b] pos) (tTest (tOp r ta tb)) := by
  intro pins s σ H Q I h
  refine wpAny_isTrue_Compare1 (thn (ha pins s σ H _ I h) fun v s1 ⟨x, H1, I1, r1, q1⟩ => thn (hb pins s1 σ H1 _ I1 q1) fun u s2 ⟨y, H2, I2, r2, q2⟩ =>
    thn (ho pins s2 σ H2 x y v u _ I2 r1 r2 q2) fun c s3 ⟨z, H3, I3, r3, k, e, q3⟩ => ?_) hm
  subst e
  cases r3
  exact wpAny_truthy_bool ⟨H3, I3, q3⟩
/-- a op1 b op2 c -/
def tChain (r r' : R2) (ta tb tc : TE) : TE := fun σ H Q => ta σ H fun x H1 => tb σ H1 fun y H2 => r x y H2 fun z H3 => ∃ k, z = .bl k ∧
  (if k = true then tc σ H3 fun w' H4 => r' y w' H4 Q else Q (.bl false) H3)
theorem pe_chain {op op' : CmpOp} {r r' : R2} (ho : OpR X (compareOp op) r) (ho' : OpR X (compareOp op') r') (ha : PE X a ta) (hb : PE X b tb) (hc : PE X c tc)
    (hm : lastMarks [op, op'] [b, c] = false := by with_unfolding_all rfl) : PE X (.Compare a [op, op'] [b, c] pos) (tChain r r' ta tb tc) := by
  intro pins s σ H Q I h
  refine Compare_chain (thn (ha pins s σ H _ I h) fun v s1 ⟨x, H1, I1, r1, q1⟩ => chain_link (thn (hb pins s1 σ H1 _ I1 q1) fun u s2 ⟨y, H2, I2, r2, q2⟩ =>
    thn (ho pins s2 σ H2 x y v u _ I2 r1 r2 q2) fun d s3 ⟨z, H3, I3, r3, k, e, q3⟩ => ?_)) hm
  subst e
  cases r3
  refine wpAny_truthy_bool ?_
  cases k with
  | false => exact ite_ff ⟨.bl false, H3, I3, rfl, q3⟩
  | true => exact ite_tt (chain_last (thn (hc pins s3 σ H3 _ I3 q3) fun w' s4 ⟨z', H4, I4, r4, q4⟩ => ho' pins s4 σ H4 y z' u w' Q I4 r2 r4 q4))
theorem pt_chain {op op' : CmpOp} {r r' : R2} (ho : OpR X (compareOp op) r) (ho' : OpR X (compareOp op') r') (ha : PE X a ta) (hb : PE X b tb) (hc : PE X c tc)
    (hm : lastMarks [op, op'] [b, c] = false := by with_unfolding_all rfl) : PT X (.Compare a [op, op'] [b, c] pos) (tTest (tChain r r' ta tb tc)) := by
  intro pins s σ H Q I h
  refine isTrue_chain (thn (ha pins s σ H _ I h) fun v s1 ⟨x, H1, I1, r1, q1⟩ => test_link (thn (hb pins s1 σ H1 _ I1 q1) fun u s2 ⟨y, H2, I2, r2, q2⟩ =>
    thn (ho pins s2 σ H2 x y v u _ I2 r1 r2 q2) fun d s3 ⟨z, H3, I3, r3, k, e, q3⟩ => ?_)) hm
  subst e
  cases r3
  refine wpAny_truthy_bool ?_
  cases k with
  | false =>
    obtain ⟨k', e', q'⟩ := q3
    cases e'
    exact ite_ff ⟨H3, I3, q'⟩
  | true =>
    refine ite_tt (test_last (thn (hc pins s3 σ H3 _ I3 q3) fun w' s4 ⟨z', H4, I4, r4, q4⟩ => thn (ho' pins s4 σ H4 y z' u w' _ I4 r2 r4 q4) fun d' s5 ⟨z2, H5, I5, r5, k2, e2, q5⟩ => ?_))
    subst e2
    cases r5
    exact wpAny_truthy_bool ⟨H5, I5, q5⟩

/-! ### truth -/
/-- a value's truth by the abstract heap -/
def TruV (K : PySem.W.Frag) (x : V) (H : Hp) (k : Bool) : Prop :=
  match x with
  | .non => k = false
  | .bl b => k = b
  | .int i => k = (i != 0)
  | .str y => y.length ≤ sizeLine ∧ k = ((y.length : Int) != 0)
  | .byt y => y.size ≤ sizeLine ∧ k = ((y.size : Int) != 0)
  | .ref p => (∃ xs, SqL K H p xs ∧ k = !xs.isEmpty) ∨ (∃ xs, SqT K H p xs ∧ k = !xs.isEmpty) ∨ ∃ kvs, H p = some (.dK kvs) ∧ k = !kvs.isEmpty
  | _ => False
theorem isEmpty_kv {κ : Type} {kvs : List (κ × V)} {vs : List (κ × Value)} (r : KV kvs vs) : (!vs.isEmpty) = !kvs.isEmpty := by
  cases r <;> rfl
theorem isEmpty_of {xs : List V} {its : List Value} (r : Vals xs its) : (!its.toArray.isEmpty) = !xs.isEmpty := by
  cases r <;> simp
theorem line63 : (sizeLine : Nat) < 2 ^ 63 := by rw [sizeLine_eq]; decide
theorem tru_ok : TruR X (fun x H Q => ∃ k, TruV X.K x H k ∧ Q k H) := by
  intro pins s σ H x v Q I rx h
  obtain ⟨k, e, q⟩ := h
  have hl := line63
  have hs : sizeLine = 16777216 := sizeLine_eq
  cases x with
  | non =>
    cases rx
    have e' : k = false := e
    subst e'
    exact truthy_none ⟨H, I, q⟩
  | bl b =>
    cases rx
    have e' : k = b := e
    subst e'
    exact wpAny_truthy_bool ⟨H, I, q⟩
  | int i =>
    obtain ⟨t, rfl⟩ := rx
    have e' : k = (i != 0) := e
    subst e'
    exact PySem.P.truthy_int ⟨H, I, q⟩
  | str y =>
    obtain ⟨t, rfl⟩ := rx
    obtain ⟨hy, e'⟩ : y.length ≤ sizeLine ∧ k = ((y.length : Int) != 0) := e
    subst e'
    exact PySem.P.truthy_str (by omega) ⟨H, I.tok _, q⟩
  | byt y =>
    obtain ⟨t, rfl⟩ := rx
    obtain ⟨hy, e'⟩ : y.size ≤ sizeLine ∧ k = ((y.size : Int) != 0) := e
    subst e'
    exact PySem.W.truthy_bytes (by omega) ⟨H, I.tok _, q⟩
  | ref p =>
    cases rx
    have e' : (∃ xs, SqL X.K H p xs ∧ k = !xs.isEmpty) ∨ (∃ xs, SqT X.K H p xs ∧ k = !xs.isEmpty) ∨ ∃ kvs, H p = some (.dK kvs) ∧ k = !kvs.isEmpty := e
    rcases e' with ⟨xs, hx, e'⟩ | ⟨xs, hx, e'⟩ | ⟨kvs, hx, e'⟩
    · subst e'
      obtain ⟨its, r, pl, hz⟩ := I.list hx
      have hlen := r.length
      exact wpAny_truthy_list pl.isList (by simp only [List.size_toArray]; omega) ⟨H, I.tok _, by rw [isEmpty_of r]; exact q⟩
    · subst e'
      obtain ⟨its, r, pl, hz⟩ := I.tuple hx
      have hlen := r.length
      exact truthy_tuple pl (by simp only [List.size_toArray]; omega) ⟨H, I.tok _, by rw [isEmpty_of r]; exact q⟩
    · subst e'
      obtain ⟨hz, hS, vs, r, m⟩ : kvs.length ≤ sizeLine ∧ (p == sysModules) = false ∧ ∃ vs, KV kvs vs ∧ s.heap.DictOf (mixKind X.prog X.w) p vs := I.hok p _ hx
      have hlen : kvs.length = vs.length := Paired.length r
      exact wpAny_truthy_dict hS m (by omega) ⟨H, I.tok _, by rw [isEmpty_kv r]; exact q⟩
  | _ => exact (show False from e).elim
/-- any expression whose test is its value's truth (a name, a call, a subscript, a field ..: he by fun _ => rfl) -/
theorem pt_truth (ha : PE X a ta) (he : ∀ whole, isTrue a X.env whole = (do let v ← whole; standAt a.pos; holding [v] (truthy v))) :
    PT X a (fun σ H Q => ta σ H fun x H' => ∃ k, TruV X.K x H' k ∧ Q k H') := by
  intro pins s σ H Q I h
  exact isTrue_plain (thn (ha pins s σ H _ I h) fun v s1 ⟨x, H1, I1, r1, q1⟩ => tru_ok pins s1 σ H1 x v Q I1 r1 q1) (he _)

/-! ### strs and bytes -/
theorem op_add_str : OpR X (binaryOp .Add) (fun x y H Q => ∃ i j, x = .str i ∧ y = .str j ∧ i.length + j.length ≤ sizeLine ∧ Q (.str (i ++ j)) H) := by
  intro pins s σ H x y v u Q I rx ry h
  obtain ⟨i, j, rfl, rfl, hz, q⟩ := h
  obtain ⟨t, rfl⟩ := rx
  obtain ⟨t', rfl⟩ := ry
  exact add_str (fun t' tk => ⟨.str (i ++ j), H, I.tok _, ⟨_, rfl⟩, q⟩) hz

def PlainIxT (b : Expr) : Prop := ∀ o i, subscripted b false o i = operate [o, i] (getItem o i)

/-! ### scalar builtins, by CallR -/
theorem vals1 {x : V} {us : List Value} (r : Vals [x] us) : ∃ u, us = [u] ∧ RelV x u := by
  cases r with
  | cons r1 r2 => cases r2; exact ⟨_, rfl, r1⟩
theorem vals2 {x y : V} {us : List Value} (r : Vals [x, y] us) : ∃ u w', us = [u, w'] ∧ RelV x u ∧ RelV y w' := by
  cases r with
  | cons r1 r2 =>
    cases r2 with
    | cons r3 r4 => cases r4; exact ⟨_, _, rfl, r1, r3⟩
theorem call_max2 (hc : X.calm = true) : CallR X (.builtin "max") (fun xs H Q => ∃ i j, xs = [.int i, .int j] ∧ Q (.int (if j > i then j else i)) H) := by
  intro pins s σ H xs us Q I r h
  obtain ⟨i, j, rfl, q⟩ := h
  obtain ⟨u, w', rfl, ⟨t, rfl⟩, ⟨t', rfl⟩⟩ := vals2 r
  refine max_two_ints (I.ok.hd hc) fun h' tk k => ⟨_, H, I.kept k, ?_, q⟩
  by_cases hj : j > i
  · rw [if_pos hj, if_pos hj]; exact ⟨_, rfl⟩
  · rw [if_neg hj, if_neg hj]; exact ⟨_, rfl⟩
theorem call_min2 (hc : X.calm = true) : CallR X (.builtin "min") (fun xs H Q => ∃ i j, xs = [.int i, .int j] ∧ Q (.int (if j < i then j else i)) H) := by
  intro pins s σ H xs us Q I r h
  obtain ⟨i, j, rfl, q⟩ := h
  obtain ⟨u, w', rfl, ⟨t, rfl⟩, ⟨t', rfl⟩⟩ := vals2 r
  refine min_two_ints (I.ok.hd hc) fun h' tk k => ⟨_, H, I.kept k, ?_, q⟩
  by_cases hj : j < i
  · rw [if_pos hj, if_pos hj]; exact ⟨_, rfl⟩
  · rw [if_neg hj, if_neg hj]; exact ⟨_, rfl⟩
theorem call_int1 : CallR X (.type "int") (fun xs H Q => (∃ i, xs = [.int i] ∧ Q (.int i) H) ∨ ∃ k, xs = [.bl k] ∧ Q (.int (if k then 1 else 0)) H) := by
  intro pins s σ H xs us Q I r h
  rcases h with ⟨i, rfl, q⟩ | ⟨k, rfl, q⟩
  · obtain ⟨u, rfl, t, rfl⟩ := vals1 r
    exact call_int_int ⟨.int i, H, I, ⟨_, rfl⟩, q⟩
  · obtain ⟨u, rfl, r1⟩ := vals1 r
    cases r1
    exact call_int_bool ⟨.int (if k then 1 else 0), H, I.tok _, ⟨_, rfl⟩, q⟩
/-- len of a str, a bytes, a list, a tuple -/
def LenV (K : PySem.W.Frag) (x : V) (H : Hp) (n : Nat) : Prop :=
  match x with
  | .str y => y.length ≤ sizeLine ∧ n = y.length
  | .byt y => y.size ≤ sizeLine ∧ n = y.size
  | .ref p => (∃ xs, SqL K H p xs ∧ n = xs.length) ∨ ∃ xs, SqT K H p xs ∧ n = xs.length
  | _ => False
end
end L2

namespace L2
open PySem PySem.Spec PyProof.Rows

/-! ### an instance, its attributes a map -/
structure ObjM (h : Heap) (x dx C : Addr) (mA : Str → Option Value) : Prop where
  obj : h.get? x = some (PySem.W.instObj C dx)
  ns : h.Ns1 dx mA
  ne : dx ≠ x

theorem lookIn_ns {h : Heap} {dx : Addr} {mA : Str → Option Value} (n : h.Ns1 dx mA) : ∃ od, h.get? dx = some od ∧ ∀ name, PySem.W.lookIn name od = some (mA name) := by
  obtain ⟨o, es, ep, ho, hd, hk, _, hm⟩ := n
  refine ⟨o, ho, fun name => ?_⟩
  have e := hm name
  unfold nsFind findBy at e
  rw [← Array.find?_toList] at e
  unfold PySem.W.lookIn
  rw [hd]
  dsimp only
  split
  · rename_i y q
    rw [q] at e
    exact congrArg some e
  · rename_i q
    rw [q] at e
    have a : es.toList.any (·.refKey) = false := by
      rw [List.any_eq_false]
      intro y hy
      obtain ⟨z, t, hkey⟩ := hk y (Array.mem_toList_iff.mp hy)
      simp [DictEntry.refKey, hkey]
    have a' : ¬ es.toList.any (·.refKey) = true := by rw [a]; exact Bool.false_ne_true
    rw [if_neg a']
    exact congrArg some e

theorem ObjM.look {h : Heap} {x dx C : Addr} {mA : Str → Option Value} (I : ObjM h x dx C mA) : ∃ od, PySem.W.InstAt h x (PySem.W.instObj C dx) C (some od) ∧ ∀ name, PySem.W.lookIn name od = some (mA name) :=
  let ⟨od, ho, hl⟩ := lookIn_ns I.ns
  ⟨od, ⟨I.obj, rfl, rfl, ho⟩, hl⟩

section
variable {prog : Program} {w : World} {A : Around} {E : Value → Shared → Prop} {s : Shared} {K : PySem.W.Frag} {x dx C f : Addr} {mA : Str → Option Value} {name : Str} {v : Value}





end

/-! ### the attributes as a list of pairs -/
def putF (f : Str) (v : V) : List (Str × V) → List (Str × V)
  | [] => [(f, v)]
  | (g, x) :: r => if g = f then (g, v) :: r else (g, x) :: putF f v r


section
variable {P : Program} {w : World} {H H' : Hp} {h h' : Heap} {a C dx : Addr} {fs fs' : List (Str × V)}
theorem ins_get (hok : HOk P w H h) (e : H a = some (.ins C dx fs)) : ∃ mA, ObjM h a dx C mA ∧ (∀ f, RelO (fs.lookup f) (mA f)) ∧ PySem.Within mA (fs.map (·.1)) ∧ fs.length ≤ 1000 ∧ H dx = some (.own a) := by
  obtain ⟨d, z, ne, ob, mA, n, r, q⟩ := (show ObjOk P w H h a (.ins C dx fs) from hok a _ e)
  exact ⟨mA, ⟨ob, n, ne⟩, r, q, z, d⟩
end

/-! ### what of the text a class must have -/
structure Cls (K : PySem.W.Frag) (C : Addr) : Prop where
  pg : PySem.W.plainGet K C Str.empty = true
  hd : PySem.W.hasDictIn K C = true
  po : PySem.W.plainOver K C = true
  sa : PySem.W.findIn K (.ref C) "__setattr__" = some (some (.builtin "object.__setattr__"))
theorem Cls.get {K : PySem.W.Frag} {C : Addr} (c : Cls K C) (f : Str) : PySem.W.plainGet K C f = true := c.pg
/-- no class of it has the name -/
def NoAttr (K : PySem.W.Frag) (C : Addr) (f : Str) : Prop := PySem.W.findIn K (.ref C) f = some none
/-- a constant of the class -/
structure Con (K : PySem.W.Frag) (C : Addr) (f : Str) (v : V) (u : Value) : Prop where
  at_ : PySem.W.findIn K (.ref C) f = some (some u)
  rel : RelV v u
  get : PySem.W.specialIn K u "__get__" = some none
  cp : PySem.W.copiedNames.contains f = false
/-- a method: a plain def of the class or of one above it -/
structure Meth (K : PySem.W.Frag) (C : Addr) (m : Str) (f : Addr) : Prop where
  at_ : PySem.W.findIn K (.ref C) m = some (some (.ref f))
  fn : PySem.W.isFn K (.ref f) = true
  kp : PySem.W.keepIn K (.ref f) = true

section
variable {X : Cx} {pins : List (Addr × Obj)} {σ : St} {H : Hp} {s : Shared} {a C dx : Addr} {fs : List (Str × V)} {f : Str} {v : V} {A : Around} {E : Value → Shared → Prop}





/-- a new instance, tracked, without attributes -/
theorem Inv.made (I : Inv X pins σ H s) : Inv X pins σ (upd (upd H s.heap.objs.size (.own (s.heap.objs.size + 1))) (s.heap.objs.size + 1) (.ins C s.heap.objs.size []))
    { s with heap := (s.heap.push PySem.W.emptyDict).push (PySem.W.instObj C s.heap.objs.size) } := by
  have e1 : (s.heap.push PySem.W.emptyDict).get? s.heap.objs.size = some PySem.W.emptyDict := Heap.get?_push_size s.heap rfl
  have e2 : ((s.heap.push PySem.W.emptyDict).push (PySem.W.instObj C s.heap.objs.size)).get? (s.heap.objs.size + 1) = some (PySem.W.instObj C s.heap.objs.size) := by
    have := Heap.get?_push_size (s.heap.push PySem.W.emptyDict) (o := PySem.W.instObj C s.heap.objs.size) rfl
    rwa [Heap.size_push] at this
  have e3 : (s.heap.push PySem.W.emptyDict).Ns s.heap.objs.size (fun _ => none) := ⟨PySem.W.emptyDict, #[], _, e1, rfl, (fun e he => absurd he (by simp)), fun _ => rfl⟩
  have I1 := I.laid (a := s.heap.objs.size) (o := .own (s.heap.objs.size + 1)) (h' := s.heap.push PySem.W.emptyDict) (t' := s.toks) (fun b u q => Heap.get?_push_of_some _ q) (Nat.le_refl _) ⟨_, e1⟩
  refine I1.laid (a := s.heap.objs.size + 1) (o := .ins C s.heap.objs.size []) (t' := s.toks) (fun b u q => Heap.get?_push_of_some _ q) (Nat.le_of_eq (Heap.size_push _ _)) ?_
  have ne : s.heap.objs.size ≠ s.heap.objs.size + 1 := Nat.ne_of_lt (Nat.lt_succ_self _)
  refine ⟨by rw [upd_ne ne, upd_same], Nat.zero_le _, ne, e2, fun _ => none, (Heap.Ns1.of_empty e3).at fun o q => Heap.get?_push_of_some _ q, fun _ => True.intro, fun y hy => absurd rfl hy⟩

end

/-! ### readings and rules -/
/-- e.f, an attribute of the instance -/
def tFld (K : PySem.W.Frag) (ta : TE) (f : Str) : TE := fun σ H Q => ta σ H fun x H1 => ∃ a C dx fs v, x = .ref a ∧ H1 a = some (.ins C dx fs) ∧ Cls K C ∧ NoAttr K C f ∧ fs.lookup f = some v ∧ Q v H1
/-- e.f, a constant of the class -/
def tCon (K : PySem.W.Frag) (ta : TE) (f : Str) : TE := fun σ H Q => ta σ H fun x H1 => ∃ a C dx fs v u, x = .ref a ∧ H1 a = some (.ins C dx fs) ∧ Cls K C ∧ Con K C f v u ∧ fs.lookup f = none ∧ Q v H1
/-- e.f = value -/
def sFld (K : PySem.W.Frag) (ta tv : TE) (f : Str) : TS := fun D σ H => tv σ H fun y H1 => ta σ H1 fun x H2 => ∃ a C dx fs, x = .ref a ∧ H2 a = some (.ins C dx fs) ∧ Cls K C ∧ NoAttr K C f ∧ fs.length < 1000 ∧
  D.nx σ (upd H2 a (.ins C dx (putF f y fs)))
/-- an augmented operator on two values -/
def InOp (X : Cx) (op : Operator) (rd : V → V → Hp → VK → Prop) : Prop :=
  ∀ (pins : List (Addr × Obj)) (s : Shared) (σ : St) (H : Hp) (x y : V) (u v : Value) (Q : VK), Inv X pins σ H s → RelV x u → RelV y v → rd x y H Q → wpAny (model X.prog X.w) X.A (inplaceOp op u v) (EP X pins σ Q) X.xe s
/-- e.f op= value -/
def sFldAug (K : PySem.W.Frag) (ta tv : TE) (rd : V → V → Hp → VK → Prop) (f : Str) : TS := fun D σ H => ta σ H fun x H1 => ∃ a C dx fs v, x = .ref a ∧ H1 a = some (.ins C dx fs) ∧ Cls K C ∧ NoAttr K C f ∧ fs.lookup f = some v ∧
  tv σ H1 fun y H2 => rd v y H2 fun z H3 => ∃ dx' fs', H3 a = some (.ins C dx' fs') ∧ fs'.length < 1000 ∧ D.nx σ (upd H3 a (.ins C dx' (putF f z fs')))

section
variable {X : Cx} {o e value : Expr} {f : Str} {pos pos' tpos : Pos} {ta tv : TE}
def rAdd : V → V → Hp → VK → Prop := fun x y H Q => ∃ i j, x = .int i ∧ y = .int j ∧ Q (.int (i + j)) H
def rSub : V → V → Hp → VK → Prop := fun x y H Q => ∃ i j, x = .int i ∧ y = .int j ∧ Q (.int (i - j)) H

end

/-! ### isinstance -/
section
variable {X : Cx} {pins : List (Addr × Obj)} {σ : St} {H : Hp} {s : Shared} {A : Around} {E : Value → Shared → Prop} {Q : Value → Shared → Prop} {c : Value} {b : Bool}
/-- the type of a value, as the fragment's deciders take it; for an instance its class -/
inductive TyOf (K : PySem.W.Frag) (H : Hp) : V → Value → Prop where
  | non : TyOf K H .non (.type "NoneType")
  | bl (x : Bool) : TyOf K H (.bl x) (.type "bool")
  | int (i : Int) : TyOf K H (.int i) (.type "int")
  | str (x : Str) : TyOf K H (.str x) (.type "str")
  | flt (x : UInt64) : TyOf K H (.flt x) (.type "float")
  | lst {a : Addr} {xs : List V} (e : H a = some (.lst xs)) : TyOf K H (.ref a) (.type "list")
  | frz {a : Addr} {o : Obj} {xs : List V} (e : H a = some (.frz o (.lst xs))) : TyOf K H (.ref a) (.type "list")
  | tup {a : Addr} {xs : List V} (e : H a = some (.tup xs)) : TyOf K H (.ref a) (.type "tuple")
  | dK {a : Addr} {kvs : List (Key × V)} (e : H a = some (.dK kvs)) : TyOf K H (.ref a) (.type "dict")
  | dT {a : Addr} {kvs : List (List Key × V)} (e : H a = some (.dT kvs)) : TyOf K H (.ref a) (.type "dict")
  | ins {a C dx : Addr} {fs : List (Str × V)} (e : H a = some (.ins C dx fs)) (cl : Cls K C) (ha : PySem.W.findIn K (.ref C) "__class__" = some (some (.builtin "object.__class__")))
      (hn : PySem.W.specialIn K (.builtin "object.__class__") "__get__" = some (some (.builtin "getset_descriptor.__get__"))) (htk : PySem.W.takesIn K (.builtin "object.__class__") = some true)
      (hm : PySem.W.mroIn K C (.type "object") = some true) : TyOf K H (.ref a) (.ref C)
/-- isinstance(x, c) for one class c, a built-in or an own one: kitOne's answer -/
theorem isinst_ok {x : V} {u t : Value} (I : Inv X pins σ H s) (rx : RelV x u) (ty : TyOf X.K H x t) (e : PySem.W.kitOne X.K t c = some b) (h : ∀ tk, Q (.bool b) { s with toks := tk }) :
    wpAny (model X.prog X.w) A (call (.builtin "isinstance") [u, c]) Q E s := by
  cases ty with
  | non => cases (show u = Value.none from rx); exact PySem.W.kia_one PySem.W.kitx_none I.kIn True.intro e (fun z => nomatch z) h
  | bl y => cases (show u = Value.bool y from rx); exact PySem.W.kia_one PySem.W.kitx_bool I.kIn True.intro e (fun z => nomatch z) h
  | int i => obtain ⟨t, q⟩ := (show ∃ t, u = Value.int i t from rx); cases q; exact PySem.W.kia_one PySem.W.kitx_int I.kIn True.intro e (fun z => nomatch z) h
  | str y => obtain ⟨t, q⟩ := (show ∃ t, u = Value.str y t from rx); cases q; exact PySem.W.kia_one PySem.W.kitx_str I.kIn True.intro e (fun z => nomatch z) h
  | flt y => obtain ⟨t, q⟩ := (show ∃ t, u = Value.float y t from rx); cases q; exact PySem.W.kia_one PySem.W.kitx_float I.kIn True.intro e (fun z => nomatch z) h
  | @lst a xs ea =>
    cases (show u = Value.ref a from rx)
    obtain ⟨_, _, n, _, h1⟩ := (show ObjOk X.prog X.w H s.heap a (.lst xs) from I.hok a _ ea)
    exact PySem.W.kia_one PySem.W.kitx_list I.kIn ⟨_, h1, rfl⟩ e (fun z => nomatch z) h
  | @frz a ob xs ea =>
    cases (show u = Value.ref a from rx)
    obtain ⟨_, _, _, n, _, h1⟩ := (show ObjOk X.prog X.w H s.heap a (.frz ob (.lst xs)) from I.hok a _ ea)
    exact PySem.W.kia_one PySem.W.kitx_list I.kIn ⟨_, h1, rfl⟩ e (fun z => nomatch z) h
  | @tup a xs ea =>
    cases (show u = Value.ref a from rx)
    obtain ⟨_, _, _, p⟩ := (show ObjOk X.prog X.w H s.heap a (.tup xs) from I.hok a _ ea)
    obtain ⟨o, h1, h2, _⟩ := p
    exact PySem.W.kia_one PySem.W.kitx_tuple I.kIn ⟨o, h1, h2⟩ e (fun z => nomatch z) h
  | @dK a kvs ea =>
    cases (show u = Value.ref a from rx)
    obtain ⟨_, _, vs, _, p⟩ := (show ObjOk X.prog X.w H s.heap a (.dK kvs) from I.hok a _ ea)
    obtain ⟨o, es, ep, h1, h2, _⟩ := p
    exact PySem.W.kia_one PySem.W.kitx_dict I.kIn ⟨o, h1, h2.1⟩ e (fun z => nomatch z) h
  | @dT a kvs ea =>
    cases (show u = Value.ref a from rx)
    obtain ⟨_, _, xs, _, o, es, ep, h1, h2, _⟩ := (show ObjOk X.prog X.w H s.heap a (.dT kvs) from I.hok a _ ea)
    exact PySem.W.kia_one PySem.W.kitx_dict I.kIn ⟨o, h1, h2.1⟩ e (fun z => nomatch z) h
  | @ins a C dx fs ea cl ha hn htk hm =>
    cases (show u = Value.ref a from rx)
    obtain ⟨mA, O, _⟩ := ins_get I.hok ea
    obtain ⟨od, J, _⟩ := O.look
    exact PySem.W.kia_one (PySem.W.kitx_own (cl.get _) cl.hd ha hn htk hm) I.kIn J e (fun z => nomatch z) h
end
end L2

namespace L2
open PySem PySem.Spec PyProof.Rows

/-! ### room -/
structure Room (k : Nat) (A : Around) : Prop where
  hd : A.handled = none
  dp : A.depth + 3 * k + 5 < recursionLimit
  un : A.units + 16 * k + 200 < cLine
theorem Room.mono {j k : Nat} {A : Around} (r : Room k A) (h : j ≤ k) : Room j A := ⟨r.hd, by have := r.dp; omega, by have := r.un; omega⟩
theorem Room.deeper {k : Nat} {A : Around} (r : Room (k + 1) A) (env : Env) : Room k (A.deeper env) :=
  ⟨r.hd, by have := r.dp; show A.depth + 1 + 3 * k + 5 < _; omega, by have := r.un; show A.units + 3 + 16 * k + 200 < _; omega⟩
theorem Room.in1 {k : Nat} {A : Around} (r : Room (k + 1) A) : Room k A.in1 :=
  ⟨r.hd, by have := r.dp; show A.depth + 3 * k + 5 < _; omega, by have := r.un; show A.units + 1 + 16 * k + 200 < _; omega⟩
theorem Room.depth {k : Nat} {A : Around} (r : Room k A) : A.depth < recursionLimit := by have := r.dp; omega
theorem Room.units {k : Nat} {A : Around} (r : Room k A) : A.units + 64 < cLine := by have := r.un; omega

/-! ### argument lists and displays -/
def tNil : TA := fun _ H Q => Q [] H
def tCons (ta : TE) (tr : TA) : TA := fun σ H Q => ta σ H fun x H1 => tr σ H1 fun xs H2 => Q (x :: xs) H2
section
variable {X : Cx} {e : Expr} {es : List Expr} {te : TE} {t : TA} {pos : Pos}
theorem pa_nil : PA X [] tNil := fun _ _ _ _ H Q I h => Calls.spliced_nil ⟨[], H, I, .nil, h⟩
theorem pa_cons (ha : PE X e te) (hr : PA X es t) (hs : starEach (e :: es) X.env = (false, eval e X.env) :: starEach es X.env := by rfl) : PA X (e :: es) (tCons te t) := by
  intro pos pins s σ H Q I h
  rw [hs]
  show wpAny _ _ (spliced ((false, eval e X.env) :: backTo pos (starEach es X.env))) _ _ s
  refine Calls.spliced_cons (thn (ha pins s σ H _ I h) fun u s1 ⟨x, H1, I1, r1, q1⟩ => ?_)
  exact thn (hr pos pins s1 σ H1 _ I1 q1) fun us s2 ⟨xs, H2, I2, r2, q2⟩ => ⟨x :: xs, H2, I2, .cons r1 r2, q2⟩

/-- a tuple, a list of written items -/
def tTup (t : TA) : TE := fun σ H Q => t σ H fun xs H1 => xs.length ≤ sizeLine ∧ ∀ p, H1 p = none → Q (.ref p) (upd H1 p (.tup xs))
def tLst (t : TA) : TE := fun σ H Q => t σ H fun xs H1 => xs.length ≤ sizeLine ∧ ∀ p, H1 p = none → Q (.ref p) (upd H1 p (.lst xs))
theorem pe_tup {x1} (h : PA X es t) : PE X (.Tuple es x1 pos) (tTup t) := by
  intro pins s σ H Q I hq
  refine wpAny_Tuple_spliced (thn (h pos pins s σ H _ I hq) fun us s1 ⟨xs, H1, I1, r, z, q⟩ => ⟨by rw [← r.length]; exact z, ?_⟩)
  have hf : H1 s1.heap.objs.size = none := I1.hok.fresh (Nat.le_refl _)
  refine ⟨.ref s1.heap.objs.size, upd H1 s1.heap.objs.size (.tup xs), I1.laid (t' := s1.toks) (fun b u e => Heap.get?_push_of_some _ e) (Nat.le_refl _) ?_, rfl, q _ hf⟩
  exact ⟨z, us, r, ⟨_, Heap.get?_push_size _ rfl, rfl, _, rfl⟩⟩
theorem pe_lst (h : PA X es t) : PE X (.List es pos) (tLst t) := by
  intro pins s σ H Q I hq
  refine wpAny_List_spliced (thn (h pos pins s σ H _ I hq) fun us s1 ⟨xs, H1, I1, r, z, q⟩ => ⟨by rw [← r.length]; exact z, ?_⟩)
  have hf : H1 s1.heap.objs.size = none := I1.hok.fresh (Nat.le_refl _)
  refine ⟨.ref s1.heap.objs.size, upd H1 s1.heap.objs.size (.lst xs), I1.laid (t' := s1.toks) (fun b u e => Heap.get?_push_of_some _ e) (Nat.le_refl _) ?_, rfl, q _ hf⟩
  exact ⟨z, us, 0, r, Heap.get?_push_size _ rfl⟩
end

/-! ### what a def promises -/
/-- a def's promise: the bound arguments in the parameters' order, the heap, the wanted end, the wanted exception -/
abbrev Sp := List V → Hp → VK → XK → Prop
/-- how an exception lies behind a call (file 08 gives it): the callers' frames, abstract heap and state ahead of the call, the wish, the exception, the state -/
abbrev CXT := List Env → Hp → Shared → XK → Value → Shared → Prop

/-- the state at a call -/
structure Env0 (P : Program) (w : World) (K : PySem.W.Frag) (mg : Str → Option Value) (base : Heap) (A : Around) (outer : List Env) (s : Shared) (H : Hp) : Prop where
  frames : A.frames = some outer
  mod : Mod K mg base
  bs : ∀ b o, base.get? b = some o → s.heap.get? b = some o ∧ H b = none
  bsz : base.objs.size ≤ s.heap.objs.size
  funs : s.heap.FunFrames base outer
  frf : ∀ b ∈ frs outer, H b = none
  hok : HOk P w H s.heap
  bare : AllBare s.gens
/-- a call's end -/
def CE (outer : List Env) (P : Program) (w : World) (H : Hp) (s : Shared) (Q : VK) (u : Value) (s' : Shared) : Prop :=
  ∃ v H', s'.os = s.os ∧ AllBare s'.gens ∧ Un (frs outer) [] H H' s.heap s'.heap ∧ HOk P w H' s'.heap ∧ RelV v u ∧ Q v H'
def CR (CX : CXT) (outer : List Env) (P : Program) (w : World) (H : Hp) (s : Shared) (Q : VK) (E : XK) (r : Result) (s' : Shared) : Prop :=
  match r with
  | .ok (.ret u) => CE outer P w H s Q u s'
  | .ok _ => False
  | .error e => CX outer H s E e s'
structure FnOk (P : Program) (w : World) (K : PySem.W.Frag) (mg : Str → Option Value) (base : Heap) (CX : CXT) (k : Nat) (f : Addr) (fd : FuncData) (ps : List Str) (sp : Sp) : Prop where
  len : ∀ vs H Q E, sp vs H Q E → vs.length = ps.length
  run : ∀ (A : Around) (outer : List Env) (s : Shared) (H : Hp) (args : Args) (us : List Value) (vs : List V) (Q : VK) (E : XK), Room k A → Env0 P w K mg base A outer s H → BindsTo s fd args (ps.zip us) → Vals vs us → sp vs H Q E →
    codeAny (model P w) A (.call (.ref f) args) (CR CX outer P w H s Q E) s
theorem FnOk.mono {P : Program} {w : World} {K : PySem.W.Frag} {mg : Str → Option Value} {base : Heap} {CX : CXT} {j k : Nat} {f : Addr} {fd : FuncData} {ps : List Str} {sp : Sp} (F : FnOk P w K mg base CX j f fd ps sp) (h : j ≤ k) :
    FnOk P w K mg base CX k f fd ps sp := ⟨F.len, fun A outer s H args us vs Q E hr => F.run A outer s H args us vs Q E (hr.mono h)⟩
/-- a weaker promise -/
theorem FnOk.imp {P : Program} {w : World} {K : PySem.W.Frag} {mg : Str → Option Value} {base : Heap} {CX : CXT} {k : Nat} {f : Addr} {fd : FuncData} {ps : List Str} {sp sp' : Sp} (F : FnOk P w K mg base CX k f fd ps sp)
    (h : ∀ vs H Q E, sp' vs H Q E → sp vs H Q E) : FnOk P w K mg base CX k f fd ps sp' :=
  ⟨fun vs H Q E q => F.len vs H Q E (h _ _ _ _ q), fun A outer s H args us vs Q E hr he hb hv hs => F.run A outer s H args us vs Q E hr he hb hv (h _ _ _ _ hs)⟩

theorem Env0.in1 {P : Program} {w : World} {K : PySem.W.Frag} {mg : Str → Option Value} {base : Heap} {A : Around} {outer : List Env} {s : Shared} {H : Hp} (e : Env0 P w K mg base A outer s H) :
    Env0 P w K mg base A.in1 outer s H := ⟨e.frames, e.mod, e.bs, e.bsz, e.funs, e.frf, e.hok, e.bare⟩

section
variable {X : Cx} {pins : List (Addr × Obj)} {σ : St} {H : Hp} {s s' : Shared}
/-- from a body: what a callee wants -/
theorem Inv.env0 (I : Inv X pins σ H s) : Env0 X.prog X.w X.K X.mg X.base X.A X.stack s H :=
  ⟨I.ok.frames, I.ok.mod, I.bs, Nat.le_trans I.ok.bsz I.sz, I.stack, I.stkFree, I.hok, I.bare⟩
/-- behind a call -/
theorem Inv.after {Q : VK} {u : Value} (I : Inv X pins σ H s) (h : CE X.stack X.prog X.w H s Q u s') : EP X pins σ Q u s' := by
  obtain ⟨v, H', os, bare, un, hok, r, q⟩ := h
  obtain ⟨hh, g, d, t, os'⟩ := s'
  obtain rfl : os' = s.os := os
  exact ⟨v, H', I.call (h' := hh) (g' := g) (d' := d) (t' := t) (ch := []) un hok bare (fun b z => absurd z (by simp)), r, q⟩
end

/-! ### calls -/
/-- f(..): the written arguments, then the defaults dvs; E: what is wanted of an exception -/
def tCall (sp : Sp) (dvs : List V) (E : XK) (t : TA) : TE := fun σ H Q => t σ H fun vs H1 => sp (vs ++ dvs) H1 Q E
/-- o.m(..) of an instance of the class at C -/
def tMeth (C : Addr) (m : Str) (sp : Sp) (dvs : List V) (E : XK) (ta : TE) (t : TA) : TE := fun σ H Q => ta σ H fun x H1 => ∃ a dx fs, x = .ref a ∧ H1 a = some (.ins C dx fs) ∧ fs.lookup m = none ∧
  t σ H1 fun vs H2 => sp (x :: (vs ++ dvs)) H2 Q E
/-- C(..): a new instance and its dict, then __init__ -/
def tMake (C : Addr) (sp : Sp) (dvs : List V) (E : XK) (t : TA) : TE := fun σ H Q => t σ H fun vs H1 => ∀ x dx, H1 x = none → H1 dx = none → dx ≠ x →
  sp (.ref x :: (vs ++ dvs)) (upd (upd H1 dx (.own x)) x (.ins C dx [])) (fun v H2 => v = .non ∧ Q (.ref x) H2) E

/-- how the parameters are bound: us the positional arguments, kw the keywords' values by name, ds the defaults that fill up -/
def Binds (K : PySem.W.Frag) (fd : FuncData) (ps : List Str) (ds : List Value) : Prop :=
  ∀ (s : Shared) (us : List Value), K.In s.heap → (us ++ ds).length = ps.length → BindsTo s fd ⟨us, []⟩ (ps.zip (us ++ ds))
/-- every parameter is given -/
theorem Binds.all {K : PySem.W.Frag} {fd : FuncData} {ps : List Str} (h : ∀ us : List Value, us.length = ps.length → bindArgs fd ⟨us, []⟩ = pure (ps.zip us)) : Binds K fd ps [] := fun s us _ hl => by
  rw [List.append_nil] at hl ⊢
  exact .of_eq (h us hl)

/-- an exception of a callee reaches what this body wants of exceptions -/
def Passes (CX : CXT) (X : Cx) (E : XK) : Prop := ∀ (pins : List (Addr × Obj)) (σ : St) (H : Hp) (s : Shared) (e : Value) (s' : Shared), Inv X pins σ H s → CX X.stack H s E e s' → X.xe e s'

section
variable {X : Cx} {CX : CXT} {k : Nat} {f C : Addr} {fd : FuncData} {ps : List Str} {sp : Sp} {dvs : List V} {ds : List Value} {E : XK} {x m : Str} {p pos apos : Pos} {e o : Expr} {es : List Expr} {ta : TE} {t : TA}

/-- the callee runs -/
theorem run_fn {pins : List (Addr × Obj)} {σ : St} {H : Hp} {s : Shared} {Q : VK} {us : List Value} {vs : List V} (F : FnOk X.prog X.w X.K X.mg X.base CX k f fd ps sp) (hr : Room k X.A) (hb : Binds X.K fd ps ds) (hd : Vals dvs ds) (hx : Passes CX X E)
    (I : Inv X pins σ H s) (r : Vals vs us) (h : sp (vs ++ dvs) H Q E) : wpAny (model X.prog X.w) X.A (call (.ref f) us) (EP X pins σ Q) X.xe s := by
  have r2 : Vals (vs ++ dvs) (us ++ ds) := r.append hd
  have hl : (us ++ ds).length = ps.length := by rw [← r2.length]; exact F.len _ _ _ _ h
  refine wpAny_call (codeAny_mono (F.run X.A X.stack s H ⟨us, []⟩ (us ++ ds) (vs ++ dvs) Q E hr I.env0 (hb s us I.kIn hl) r2 h) fun r s' hq => ?_)
  cases r with
  | error e => exact hx pins σ H s e s' I hq
  | ok fl =>
    cases fl with
    | ret u => exact I.after hq
    | next => exact False.elim hq
    | brk => exact False.elim hq
    | cont => exact False.elim hq

theorem pe_call (F : FnOk X.prog X.w X.K X.mg X.base CX k f fd ps sp) (hr : Room k X.A) (hg : Gl X x) (hm : X.mg x = some (.ref f)) (hk : PySem.W.keepIn X.K (.ref f) = true) (hb : Binds X.K fd ps ds) (hd : Vals dvs ds) (hx : Passes CX X E)
    (ha : PA X (e :: es) t) (hdb : (x == ("__debug__" : Str)) = false := by decide) (he : starEach (e :: es) X.env = (false, eval e X.env) :: starEach es X.env := by rfl) (hpl : (backTo pos (starEach es X.env)).any (·.1) = false := by rfl) :
    PE X (.Call (.Name x p) (e :: es) [] pos) (tCall sp dvs E t) := by
  intro pins s σ H Q I h
  refine wpAny_Call_Name_kw (ld_glob I hg hm ?_ hdb)
  refine PySem.W.callWith_K (h₀ := X.base) I.ok.mod.kin hk (thn (ha pos pins s σ H _ I h) fun us s1 ⟨vs, H1, I1, r, q⟩ => ⟨I1.kIn, ?_⟩) he hpl
  exact run_fn F hr hb hd hx I1 r q


/-- what a class must have to be made -/
structure Mk (K : PySem.W.Frag) (C f : Addr) : Prop where
  makes : PySem.W.makesIn K C = true
  init : PySem.W.findIn K (.ref C) "__init__" = some (some (.ref f))
  fn : PySem.W.isFn K (.ref f) = true
  kp : PySem.W.keepIn K (.ref C) = true

end

/-! ### keywords -/
/-- the values of the keywords, from the left -/
def PK (X : Cx) (kws : List Keyword) (t : TA) : Prop :=
  ∀ (pos : Pos) (pins : List (Addr × Obj)) (s : Shared) (σ : St) (H : Hp) (Q : List V → Hp → Prop), Inv X pins σ H s → t σ H Q → wpAny (model X.prog X.w) X.A (evalAll ((backToKw pos (keywordEach kws X.env)).map (·.2))) (AP X pins σ Q) X.xe s
section
variable {X : Cx} {CX : CXT} {k : Nat} {f C : Addr} {fd : FuncData} {ps ks : List Str} {sp : Sp} {E : XK} {x m : Str} {p pos apos kpos : Pos} {e o : Expr} {es : List Expr} {kws : List Keyword} {te ta : TE} {t tk : TA} {nm : Option Str}

/-- how a call with keywords binds: g puts the positional values us and the keywords' values ws (names ks) in the parameters' order, defaults among them -/
structure KBinds (K : PySem.W.Frag) (fd : FuncData) (ps ks : List Str) (g : List Value → List Value → List Value) (gV : List V → List V → List V) : Prop where
  to : ∀ (s : Shared) (us ws : List Value), K.In s.heap → (g us ws).length = ps.length → BindsTo s fd ⟨us, ks.zip ws⟩ (ps.zip (g us ws))
  rel : ∀ {vs : List V} {us : List Value} {zs : List V} {ws : List Value}, Vals vs us → Vals zs ws → Vals (gV vs zs) (g us ws)
def tCallK (sp : Sp) (gV : List V → List V → List V) (E : XK) (t tk : TA) : TE := fun σ H Q => t σ H fun vs H1 => tk σ H1 fun zs H2 => sp (gV vs zs) H2 Q E
variable {g : List Value → List Value → List Value} {gV : List V → List V → List V}
end

/-! ### a def's body keeps its promise -/
/-- names: the parameters first -/
structure FnScope (N P : List Str) (sc : Scope) : Prop where
  kind : sc.kind = .function
  co : sc.isCoroutine = false
  gen : sc.isGenerator = false
  nd : N.Nodup
  pre : N.take P.length = P
  par : ∀ x ∈ P, sc.names.lookup x = some .local ∨ sc.names.lookup x = some .cell
  nofree : ∀ y ∈ sc.names, y.2 ≠ .free

theorem bindL_out {kindOf : Str → Option NameKind} {x : Str} : ∀ {binds : List (Str × Value)} {m : Str → Option Value}, (∀ v, (x, v) ∉ binds) → bindL kindOf binds m x = m x
  | [], _, _ => rfl
  | (n, v) :: r, m, h => by
    unfold bindL
    rw [bindL_out fun w hw => h w (List.mem_cons_of_mem _ hw)]
    split
    · have : x ≠ n := by rintro rfl; exact h v List.mem_cons_self
      simp [this]
    · rfl
theorem bindC_out {kindOf : Str → Option NameKind} {x : Str} : ∀ {binds : List (Str × Value)} {m : Str → Option Value}, (∀ v, (x, v) ∉ binds) → bindC kindOf binds m x = m x
  | [], _, _ => rfl
  | (n, v) :: r, m, h => by
    unfold bindC
    rw [bindC_out fun w hw => h w (List.mem_cons_of_mem _ hw)]
    split
    · rfl
    · have : x ≠ n := by rintro rfl; exact h v List.mem_cons_self
      simp [this]
theorem bindL_get {kindOf : Str → Option NameKind} {x : Str} {v : Value} : ∀ {P : List Str} {vs : List Value} {i : Nat} {m : Str → Option Value}, P.Nodup → P[i]? = some x → vs[i]? = some v → kindOf x = some .local →
    bindL kindOf (P.zip vs) m x = some v
  | [], _, _, _, _, h, _, _ => by simp at h
  | _ :: _, [], _, _, _, _, h, _ => by simp at h
  | p :: P, w :: vs, 0, m, nd, h1, h2, hk => by
    simp at h1 h2; subst h1; subst h2
    show bindL kindOf ((p, w) :: P.zip vs) m p = _
    unfold bindL
    rw [bindL_out fun v hv => (List.nodup_cons.mp nd).1 (List.of_mem_zip hv).1, if_pos hk]
    simp
  | p :: P, w :: vs, i + 1, m, nd, h1, h2, hk => by
    show bindL kindOf ((p, w) :: P.zip vs) m x = _
    unfold bindL
    exact bindL_get (i := i) (List.nodup_cons.mp nd).2 (by simpa using h1) (by simpa using h2) hk
theorem bindC_get {kindOf : Str → Option NameKind} {x : Str} {v : Value} : ∀ {P : List Str} {vs : List Value} {i : Nat} {m : Str → Option Value}, P.Nodup → P[i]? = some x → vs[i]? = some v → kindOf x ≠ some .local →
    bindC kindOf (P.zip vs) m x = some v
  | [], _, _, _, _, h, _, _ => by simp at h
  | _ :: _, [], _, _, _, _, h, _ => by simp at h
  | p :: P, w :: vs, 0, m, nd, h1, h2, hk => by
    simp at h1 h2; subst h1; subst h2
    show bindC kindOf ((p, w) :: P.zip vs) m p = _
    unfold bindC
    rw [bindC_out fun v hv => (List.nodup_cons.mp nd).1 (List.of_mem_zip hv).1, if_neg hk]
    simp
  | p :: P, w :: vs, i + 1, m, nd, h1, h2, hk => by
    show bindC kindOf ((p, w) :: P.zip vs) m x = _
    unfold bindC
    exact bindC_get (i := i) (List.nodup_cons.mp nd).2 (by simpa using h1) (by simpa using h2) hk

/-- the names' values at the entry -/
def start (N : List Str) (vs : List V) : St := vs.map some ++ List.replicate (N.length - vs.length) none

/-- the context of a def's body, at its entry; an exception leaves the frame, then lies as CX says -/
def cxOf (CX : CXT) (P : Program) (w : World) (K : PySem.W.Frag) (mg : Str → Option Value) (base : Heap) (N : List Str) (qual : Str) (scope : Scope) (f : Addr) (cd : Value) (A : Around) (outer : List Env) (s : Shared) (H : Hp) (E : XK) : Cx where
  prog := P
  w := w
  K := K
  mg := mg
  base := base
  A := A.deeper (envOfC qual scope s.heap.objs.size f cd)
  N := N
  s_0 := s
  H_0 := H
  env := envOfC qual scope s.heap.objs.size f cd
  outer := outer
  stack := envOfC qual scope s.heap.objs.size f cd :: outer
  ex := []
  calm := true
  fn := fun _ => true
  pn := []
  xe := fun e s' => wpAny (model P w) (A.deeper (envOfC qual scope s.heap.objs.size f cd)) (leaving (envOfC qual scope s.heap.objs.size f cd) e) (fun _ s'' => CX outer H s E e s'') (fun e' s'' => CX outer H s E e' s'') s'

theorem cell_has {sc : Scope} {n : Nat} {x : Str} (h : sc.names.lookup x = some .cell) : ∃ c, (cellsFrom n sc.names []).lookup x = some c := by
  have q := PySem.W.cellsFrom_some sc.names n [] (.inl h)
  exact Option.isSome_iff_exists.mp q

theorem inv_start {CX : CXT} {P : Program} {w : World} {K : PySem.W.Frag} {mg : Str → Option Value} {base : Heap} {N ps : List Str} {qual : Str} {scope : Scope} {f : Addr} {cd : Value} {A : Around} {outer : List Env} {s s1 : Shared} {H : Hp} {E : XK} {us : List Value} {vs : List V}
    (S : FnScope N ps scope) (hd : A.handled = none) (e0 : Env0 P w K mg base A outer s H) (hl : vs.length = ps.length) (r : Vals vs us)
    (x : InCallC s s.heap.objs.size (bindL (envOfC qual scope s.heap.objs.size f cd).kindOf (ps.zip us) fun _ => none) (cellsFrom (s.heap.objs.size + 1) scope.names []) (bindC (envOfC qual scope s.heap.objs.size f cd).kindOf (ps.zip us) fun _ => none) s1) :
    Inv (cxOf CX P w K mg base N qual scope f cd A outer s H E) [] (start N vs) H s1 := by
  have hpl : ps.length ≤ N.length := by have := congrArg List.length S.pre; rw [List.length_take] at this; omega
  obtain ⟨h1, tk, rfl, hk⟩ := x.done
  have noA : ∀ b : Addr, b ∉ (cxOf CX P w K mg base N qual scope f cd A outer s H E).ex := fun b z => absurd (show b ∈ ([] : List Addr) from z) (by simp)
  refine ⟨⟨e0.mod, S.kind, rfl, rfl, Nat.le_refl _, fun y z c h1 h2 => ?_, fun y hy => ?_, fun y c _ h => ?_, fun _ => hd, Around.frames_deeper e0.frames, .inr ⟨rfl, rfl⟩, fun b z => absurd z (noA b), e0.bs, e0.bsz, fun b _ _ => noA b, fun b z => absurd z (noA b), e0.funs, e0.frf⟩,
    rfl, e0.bare, Un.kept hk, ⟨_, x.toInCall.ns, fun i y v h1 h2 h3 => ?_⟩, fun y c h => ⟨_, x.cell y c h⟩, e0.hok.fresh (Nat.le_refl _), fun y c h => ?_, fun p hp => absurd (show p ∈ ([] : List (Addr × Obj)) from hp) (by simp), e0.hok.kept hk, ?_⟩
  · exact name_of_addr x.apart (PySem.mem_of_lookup h1) (PySem.mem_of_lookup h2)
  · have hy : scope.names.lookup y = some .cell ∨ scope.names.lookup y = some .free := hy
    rcases hy with hy | hy
    · exact cell_has hy
    · exact absurd rfl (S.nofree _ (PySem.mem_of_lookup hy))
  · exact Nat.le_of_lt (x.above y c (PySem.mem_of_lookup h))
  · have hi : i < vs.length := by
      unfold start at h2
      by_cases hi : i < vs.length
      · exact hi
      · rw [List.getElem?_append_right (by simpa using hi)] at h2
        rw [List.getElem?_replicate] at h2
        split at h2 <;> cases h2
    have ha : vs[i]? = some v := by
      unfold start at h2
      rw [List.getElem?_append_left (by simpa using hi), List.getElem?_map] at h2
      cases e : vs[i]? with
      | none => rw [e] at h2; cases h2
      | some a => rw [e] at h2; cases h2; rfl
    obtain ⟨u, hu, rv⟩ := r.get ha
    have hp : ps[i]? = some y := by
      rw [← S.pre, List.getElem?_take_of_lt (by omega)]; exact h1
    have ndP : ps.Nodup := by rw [← S.pre]; exact S.nd.sublist (List.take_sublist _ _)
    refine ⟨u, rv, ?_⟩
    rcases S.par y (List.mem_of_getElem? hp) with k | k
    · exact .inl ⟨k, bindL_get ndP hp hu k⟩
    · obtain ⟨c, e⟩ := cell_has (n := s.heap.objs.size + 1) k
      refine .inr ⟨.inl k, c, e, ?_⟩
      have q := x.cell y c e
      rw [bindC_get ndP hp hu (by show scope.names.lookup y ≠ _; rw [k]; decide)] at q
      exact q
  · exact e0.hok.fresh (Nat.le_of_lt (x.above y c (PySem.mem_of_lookup h)))
  · unfold start
    show _ = N.length
    rw [List.length_append, List.length_map, List.length_replicate]
    omega

/-- THE RULE: a def (or a method) of the text, by its body. The body's reading t is chosen for each entry; it is run at the parameters' values -/
theorem fn_of {CX : CXT} {P : Program} {w : World} {K : PySem.W.Frag} {mg : Str → Option Value} {base : Heap} {k : Nat} {f : Addr} {name qual : Str} {params : Arguments} {body : List Stmt} {scope : Scope} {dV kV doc pm cdv ct oc : Value} {an od : Option Addr}
    {osl : Array (Option Value)} {N ps : List Str} {sp : Sp} (lk : K.lookup f = some ⟨oc, od, .func (PySem.W.fnOf name qual params body scope dV kV doc pm an cdv ct), osl⟩) (hcd : PySem.W.codeIn K cdv qual = true) (S : FnScope N ps scope)
    (len : ∀ vs H Q E, sp vs H Q E → vs.length = ps.length)
    (hbody : ∀ (A : Around) (outer : List Env) (s : Shared) (H : Hp) (vs : List V) (Q : VK) (E : XK), Room k (A.deeper (envOfC qual scope s.heap.objs.size f cdv)) → sp vs H Q E →
      ∃ t, PSs (cxOf CX P w K mg base N qual scope f cdv A outer s H E) body t ∧ t { nx := fun _ H' => Q .non H', rt := Q } (start N vs) H) :
    FnOk P w K mg base CX (k + 1) f (PySem.W.fnOf name qual params body scope dV kV doc pm an cdv ct) ps sp := by
  refine ⟨len, fun A outer s H args us vs Q E hr e0 hb r hsp => ?_⟩
  have hl := len _ _ _ _ hsp
  have KX : K.In s.heap := e0.mod.kin.keeps fun b o e => (e0.bs b o e).1
  have lim : s.heap.NoLimit := e0.mod.nolimit.keeps fun b o e => (e0.bs b o e).1
  have hkind : ∀ y ∈ ps.zip us, scope.names.lookup y.1 = some .local ∨ (scope.names.lookup y.1 = some .cell ∧ ((cellsFrom (s.heap.objs.size + 1) scope.names []).lookup y.1).isSome = true) := fun ⟨n, v⟩ hy => by
    rcases S.par n (List.of_mem_zip hy).1 with q | q
    · exact .inl q
    · exact .inr ⟨q, PySem.W.cellsFrom_some _ _ _ (.inl q)⟩
  refine codeAny_call_function hr.depth (KX _ _ lk) rfl S.co S.gen rfl (PySem.W.codeRec_of KX hcd) (hb _ _ _ _ ?_)
  refine wpAny_newFunctionEnv_cells S.kind hkind fun env he s1 x => ?_
  subst he
  refine ⟨lim.keeps x.toInCall.keep, codeAny_func ?_⟩
  obtain ⟨t, ht, hq⟩ := hbody A outer s H vs Q E (hr.deeper _) hsp
  have I : Inv (cxOf CX P w K mg base N qual scope f cdv A outer s H E) [] (start N vs) H s1 := inv_start S hr.hd e0 hl r x
  refine wpAny_mono (ht [] s1 (start N vs) H _ I hq) (fun fl s' hs => ?_) fun e s' hs => hs
  have fin : ∀ {σ' : St} {H' : Hp} {v : V} {u : Value}, Inv (cxOf CX P w K mg base N qual scope f cdv A outer s H E) [] σ' H' s' → RelV v u → Q v H' → CE outer P w H s Q u s' :=
    fun {σ' H' v u} J rv q => ⟨v, H', J.os, J.bare, J.base, J.hok, rv, q⟩
  cases fl with
  | ret u =>
    obtain ⟨v, σ', H', J, rv, q⟩ := hs
    exact fin J rv q
  | next =>
    obtain ⟨σ', H', J, q⟩ := hs
    exact fin (v := V.non) (u := Value.none) J rfl q
  | brk =>
    obtain ⟨_, _, _, q⟩ := hs
    exact False.elim q
  | cont =>
    obtain ⟨_, _, _, q⟩ := hs
    exact False.elim q
end L2

namespace L2
open PySem PySem.Spec PyProof.Rows
section
variable {X : Cx} {x : Str} {p pos : Pos} {e : Expr} {es : List Expr} {t : TA} {id T : String} {r : List V → Hp → VK → Prop}

def tCB (r : List V → Hp → VK → Prop) (t : TA) : TE := fun σ H Q => t σ H fun vs H1 => r vs H1 Q
/-- f(e, ..), f a built-in function -/
theorem pe_callB (hc : CallR X (.builtin id) r) (hg : Gl X x) (hm : X.mg x = none) (hv : bootBuiltins x = some (.builtin id)) (ha : PA X (e :: es) t) (hn : x ≠ "__name__" := by decide) (hdb : (x == ("__debug__" : Str)) = false := by decide)
    (he : starEach (e :: es) X.env = (false, eval e X.env) :: starEach es X.env := by rfl) (hpl : (backTo pos (starEach es X.env)).any (·.1) = false := by rfl) : PE X (.Call (.Name x p) (e :: es) [] pos) (tCB r t) := by
  intro pins s σ H Q I h
  refine wpAny_Call_Name_kw (ld_blt I hg hm hv ?_ hn hdb)
  exact PyProof.Rows.callWith_builtin1 (thn (ha pos pins s σ H _ I h) fun us s1 ⟨vs, H1, I1, r1, q1⟩ => hc pins s1 σ H1 vs us Q I1 r1 q1) he hpl
/-- T(e, ..), T a built-in type -/
theorem pe_callTy (hc : CallR X (.type T) r) (hg : Gl X x) (hm : X.mg x = none) (hv : bootBuiltins x = some (.type T)) (ha : PA X (e :: es) t) (hn : x ≠ "__name__" := by decide) (hdb : (x == ("__debug__" : Str)) = false := by decide)
    (he : starEach (e :: es) X.env = (false, eval e X.env) :: starEach es X.env := by rfl) (hpl : (backTo pos (starEach es X.env)).any (·.1) = false := by rfl) : PE X (.Call (.Name x p) (e :: es) [] pos) (tCB r t) := by
  intro pins s σ H Q I h
  refine wpAny_Call_Name_kw (ld_blt I hg hm hv ?_ hn hdb)
  exact PyProof.Rows.callWith_type1 (thn (ha pos pins s σ H _ I h) fun us s1 ⟨vs, H1, I1, r1, q1⟩ => hc pins s1 σ H1 vs us Q I1 r1 q1) he hpl
end
end L2

namespace HT
open PySem PyProof.Rows

/-- t < u of tuples of ints -/
def lexLt : List Int → List Int → Bool
  | [], [] => false
  | [], _ :: _ => true
  | _ :: _, [] => false
  | x :: xs, y :: ys => if x = y then lexLt xs ys else decide (x < y)


section
open PySem.SeqAt
open PySem.AutoSeq1 (wpAny_loadPart')
open PySem.MeetsSeq PySem.MeetsSeq2 PySem.MeetsSeq3

end

section
variable {prog : Program} {w : World} {A : Around} {E : Value → Shared → Prop} {s : Shared}



/-! ### t[a:b], not the whole -/
/-- a slice's bound as a place among n (d where it is left out) -/
def sIx (n d : Nat) : Option Int → Nat
  | none => d
  | some v => if v < 0 then (v + (n : Int)).toNat else min v.toNat n

end
end HT

namespace L2
open PySem PySem.Spec PyProof.Rows

/-! ### the parts of a slice -/
abbrev TO := St → Hp → (Option Int → Hp → Prop) → Prop
/-- a slice's part (left out, or an int) -/
def PO (X : Cx) (e : Option Expr) (t : TO) : Prop :=
  ∀ (pins : List (Addr × Obj)) (s : Shared) (σ : St) (H : Hp) (Q : Option Int → Hp → Prop), Inv X pins σ H s → t σ H Q →
    wpAny (model X.prog X.w) X.A (evalPart e X.env) (fun u s' => ∃ o H', Inv X pins σ H' s' ∧ IsPart u o ∧ Q o H') X.xe s
def tNoPart : TO := fun _ H Q => Q none H
def tPart (t : TE) : TO := fun σ H Q => t σ H fun x H1 => ∃ i, x = .int i ∧ Q (some i) H1


section
variable {X : Cx} {e : Expr} {te : TE} {lo hi : Option Expr} {tl th : TO} {pos p2 : Pos}

theorem po_none : PO X none tNoPart := by
  intro pins s σ H Q I h
  rw [evalPart_none]
  exact wpAny_pure ⟨none, H, I, .none, h⟩
theorem po_some (h : PE X e te) : PO X (some e) (tPart te) := by
  intro pins s σ H Q I hw
  rw [evalPart_some]
  refine thn (h pins s σ H _ I hw) fun u s1 ⟨x, H1, I1, r1, q1⟩ => ?_
  obtain ⟨i, rfl, q⟩ := q1
  obtain ⟨t, rfl⟩ := r1
  exact ⟨some i, H1, I1, .int i t, q⟩

/-- what a slice of a value is, by values: the slice object stands at sl -/
def SlR (X : Cx) (r : V → Option Int → Option Int → Hp → VK → Prop) : Prop :=
  ∀ (pins : List (Addr × Obj)) (s : Shared) (σ : St) (H : Hp) (x : V) (v vl vu : Value) (lo hi : Option Int) (sl : Addr) (Q : VK), Inv X pins σ H s → RelV x v → s.heap.IsSliceOf sl vl vu .none → IsPart vl lo → IsPart vu hi → r x lo hi H Q →
    ∃ T id, typeLookup (.type T) "__getitem__" = pure (some (.builtin id)) ∧ s.TypeIs v T ∧ wpAny (model X.prog X.w) X.A (getItem v (.ref sl)) (EP X pins σ Q) X.xe s
theorem SlR.or {r r' : V → Option Int → Option Int → Hp → VK → Prop} (h : SlR X r) (h' : SlR X r') : SlR X (fun x lo hi H Q => r x lo hi H Q ∨ r' x lo hi H Q) := by
  intro pins s σ H x v vl vu lo hi sl Q I rx hs pl pu q
  rcases q with q | q
  · exact h pins s σ H x v vl vu lo hi sl Q I rx hs pl pu q
  · exact h' pins s σ H x v vl vu lo hi sl Q I rx hs pl pu q
def tSl (r : V → Option Int → Option Int → Hp → VK → Prop) (te : TE) (tl th : TO) : TE := fun σ H Q => te σ H fun x H1 => tl σ H1 fun l H2 => th σ H2 fun u H3 => r x l u H3 Q
/-- a[lo:hi], any a -/
theorem pe_slice {r : V → Option Int → Option Int → Hp → VK → Prop} (hr : SlR X r) (he : PE X e te) (hl : PO X lo tl) (hu : PO X hi th) : PE X (.Subscript e (.Slice lo hi none p2) pos) (tSl r te tl th) := by
  intro pins s σ H Q I h
  refine Subscript_ (thn (he pins s σ H _ I h) fun v s1 ⟨x, H1, I1, r1, q1⟩ => ?_)
  refine wpAny_Slice (thn (hl pins s1 σ H1 _ I1 q1) fun vl s2 ⟨l, H2, I2, pl, q2⟩ => thn (hu pins s2 σ H2 _ I2 q2) fun vu s3 ⟨u, H3, I3, pu, q3⟩ => ?_)
  rw [evalPart_none]
  refine wpAny_pure ?_
  have I4 : Inv X pins σ H3 { s3 with heap := s3.heap.push { cls := .type "slice", data := .fields #[vl, vu, .none] } } := I3.kept (t' := s3.toks) fun b ob q => Heap.get?_push_of_some _ q
  obtain ⟨T, id, hT, ht, hg⟩ := hr pins { s3 with heap := s3.heap.push { cls := .type "slice", data := .fields #[vl, vu, .none] } } σ H3 x v vl vu l u s3.heap.objs.size Q I4 r1 (Heap.IsSliceOf.new ..) pl pu q3
  show wpAny (model X.prog X.w) X.A (subscriptTail e (.Slice lo hi none p2) v (.ref s3.heap.objs.size)) (EP X pins σ Q) X.xe { s3 with heap := s3.heap.push { cls := .type "slice", data := .fields #[vl, vu, .none] } }
  exact tail_any (ops := [.ref s3.heap.objs.size, v]) ht hT hg (by with_unfolding_all rfl)

/-- the items of xs[lo:hi] -/
def cutV (xs : List V) (lo hi : Option Int) : List V := (xs.drop (HT.sIx xs.length 0 lo)).take (HT.sIx xs.length xs.length hi - HT.sIx xs.length 0 lo)
theorem cutV_length (xs : List V) (lo hi : Option Int) : (cutV xs lo hi).length ≤ xs.length := by
  unfold cutV
  rw [List.length_take, List.length_drop]
  omega
/-- t[lo:hi], not the whole of it (the whole would be t itself) -/
def rSlT (K : PySem.W.Frag) : V → Option Int → Option Int → Hp → VK → Prop := fun x lo hi H Q => ∃ a xs, x = .ref a ∧ SqT K H a xs ∧
  ¬ (HT.sIx xs.length 0 lo = 0 ∧ HT.sIx xs.length xs.length hi = xs.length) ∧ ∀ p, H p = none → Q (.ref p) (upd H p (.tup (cutV xs lo hi)))

/-! ### t < u, t + u -/
def rLtT (K : PySem.W.Frag) : R2 := fun x y H Q => ∃ a b ns ms, x = .ref a ∧ y = .ref b ∧ SqT K H a (ns.map V.int) ∧ SqT K H b (ms.map V.int) ∧ Q (.bl (HT.lexLt ns ms)) H
/-- t + u, t not empty: u empty gives t itself -/
def rCatT (K : PySem.W.Frag) : R2 := fun x y H Q => ∃ a b xs ys, x = .ref a ∧ y = .ref b ∧ SqT K H a xs ∧ SqT K H b ys ∧ xs ≠ [] ∧ xs.length + ys.length ≤ sizeLine ∧
  (ys = [] → Q (.ref a) H) ∧ (ys ≠ [] → ∀ p, H p = none → Q (.ref p) (upd H p (.tup (xs ++ ys))))
end
end L2

namespace L2
open PySem PySem.Spec PyProof.Rows

/-! ### places -/
/-- the place that an index of any sign means -/
def ixN (n : Nat) (i : Int) : Option Nat := if 0 ≤ i then (if i < n then some i.toNat else none) else if -(n : Int) ≤ i then some (i + n).toNat else none
def atI {α : Type} (xs : List α) (i : Int) : Option α := (ixN xs.length i).bind fun j => xs[j]?
theorem ixN_seq {n : Nat} {i : Int} {j : Nat} (h : ixN n i = some j) : seqIndex? i n = some j ∧ j < n ∧ -(n : Int) ≤ i ∧ i < n := by
  unfold ixN at h
  by_cases h0 : 0 ≤ i
  · rw [if_pos h0] at h
    by_cases h1 : i < n
    · rw [if_pos h1] at h
      have e : i.toNat = j := Option.some.inj h
      exact ⟨by rw [seqIndex_of h0 h1, e], by omega, by omega, h1⟩
    · rw [if_neg h1] at h; cases h
  · rw [if_neg h0] at h
    by_cases h1 : -(n : Int) ≤ i
    · rw [if_pos h1] at h
      have e : (i + n).toNat = j := Option.some.inj h
      exact ⟨by rw [seqIndex_neg (by omega) h1, e], by omega, h1, by omega⟩
    · rw [if_neg h1] at h; cases h
theorem atI_get {α : Type} {xs : List α} {i : Int} {v : α} (h : atI xs i = some v) : ∃ j, seqIndex? i xs.length = some j ∧ xs[j]? = some v ∧ j < xs.length ∧ -(xs.length : Int) ≤ i ∧ i < xs.length := by
  unfold atI at h
  cases e : ixN xs.length i with
  | none => rw [e] at h; cases h
  | some j =>
    rw [e] at h
    obtain ⟨h1, h2, h3, h4⟩ := ixN_seq e
    exact ⟨j, h1, h, h2, h3, h4⟩
theorem atI_nat {α : Type} {xs : List α} {j : Nat} {v : α} (h : xs[j]? = some v) : atI xs (j : Int) = some v := by
  have hj : j < xs.length := (List.getElem?_eq_some_iff.mp h).1
  have e : ixN xs.length (j : Int) = some j := by
    unfold ixN
    rw [if_pos (by omega), if_pos (by omega)]; simp
  unfold atI; rw [e]; exact h

/-! ### what may be subscripted -/
/-- what stands as an index of a plain subscript -/
def PlainIx (b : Expr) : Prop := ∀ o i, subscripted b false o i = operate [o, i] (getItem o i)
/-- a subscript by values -/
def IxR (X : Cx) (r : R2) : Prop :=
  ∀ (value slice : Expr) (pins : List (Addr × Obj)) (s : Shared) (σ : St) (H : Hp) (x y : V) (v u : Value) (Q : VK), Inv X pins σ H s → RelV x v → RelV y u → r x y H Q →
    subscripted slice false v u = operate [v, u] (getItem v u) → wpAny (model X.prog X.w) X.A (subscriptTail value slice v u) (EP X pins σ Q) X.xe s
/-- a call of a builtin's method by values: the receiver, the arguments -/
def MtR (X : Cx) (id : String) (r : V → List V → Hp → VK → Prop) : Prop :=
  ∀ (pins : List (Addr × Obj)) (s : Shared) (σ : St) (H : Hp) (x : V) (xs : List V) (v : Value) (us : List Value) (Q : VK), Inv X pins σ H s → RelV x v → Vals xs us → r x xs H Q →
    wpAny (model X.prog X.w) X.A (call (.builtin id) (v :: us)) (EP X pins σ Q) X.xe s
section
variable {X : Cx} {a b : Expr} {ta tb : TE} {pos : Pos}
theorem IxR.or {r r' : R2} (h : IxR X r) (h' : IxR X r') : IxR X (fun x y H Q => r x y H Q ∨ r' x y H Q) := by
  intro value slice pins s σ H x y v u Q I rx ry q hs
  rcases q with q | q
  · exact h value slice pins s σ H x y v u Q I rx ry q hs
  · exact h' value slice pins s σ H x y v u Q I rx ry q hs
theorem MtR.or {id : String} {r r' : V → List V → Hp → VK → Prop} (h : MtR X id r) (h' : MtR X id r') : MtR X id (fun x xs H Q => r x xs H Q ∨ r' x xs H Q) := by
  intro pins s σ H x xs v us Q I rx rs q
  rcases q with q | q
  · exact h pins s σ H x xs v us Q I rx rs q
  · exact h' pins s σ H x xs v us Q I rx rs q
/-- a[b] -/
theorem pe_ix {r : R2} (hr : IxR X r) (ha : PE X a ta) (hb : PE X b tb) (hs : PlainIx b) : PE X (.Subscript a b pos) (tOp r ta tb) := by
  intro pins s σ H Q I h
  exact Subscript_ (binT ha hb I h fun v u s2 x y H2 I2 rx ry q => hr a b pins s2 σ H2 x y v u Q I2 rx ry q (hs _ _))

def rIxL (K : PySem.W.Frag) : R2 := fun x y H Q => ∃ p xs i v, x = .ref p ∧ y = .int i ∧ SqL K H p xs ∧ atI xs i = some v ∧ Q v H
def rIxT (K : PySem.W.Frag) : R2 := fun x y H Q => ∃ p xs i v, x = .ref p ∧ y = .int i ∧ SqT K H p xs ∧ atI xs i = some v ∧ Q v H
def rIxS : R2 := fun x y H Q => ∃ z i c, x = .str z ∧ y = .int i ∧ z.length ≤ sizeLine ∧ atI z.cps.toList i = some c ∧ Q (.str ⟨#[c]⟩) H
theorem ix_list : IxR X (rIxL X.K) := by
  intro value slice pins s σ H x y v u Q I rx ry h hs
  obtain ⟨p, xs, i, z, rfl, rfl, hq, he, q⟩ := h
  cases rx
  obtain ⟨t, rfl⟩ := ry
  obtain ⟨its, r, pl, hz⟩ := I.list hq
  obtain ⟨j, h1, h2, h3, h4, h5⟩ := atI_get he
  obtain ⟨w, ew, rw'⟩ := r.get h2
  have hl := r.length
  have hn := line63
  have fin : EP X pins σ Q w s := ⟨z, H, I, rw', q⟩
  by_cases h0 : 0 ≤ i
  · have hj : i.toNat = j := by
      rw [seqIndex_of h0 h5] at h1
      exact Option.some.inj h1
    exact item_listR pl.isList h0 (by omega) (by rw [hj]; simpa using ew) fin hs
  · have hj : (i + (its.toArray.size : Int)).toNat = j := by
      rw [seqIndex_neg (by omega) h4] at h1
      rw [List.size_toArray, ← hl]
      exact Option.some.inj h1
    exact subscriptTail_builtinR (x := w) pl.isList.typeIs slot_list_getitem.lookup
      (wpAny_getItem_list_neg (Q := fun r s' => r = w ∧ EP X pins σ Q r s') pl.isList (by omega) (by rw [List.size_toArray] <;> omega) (by omega) (by rw [hj]; simpa using ew) ⟨rfl, fin⟩) hs
/-- list, tuple or str -/
def rIx (K : PySem.W.Frag) : R2 := fun x y H Q => rIxL K x y H Q ∨ rIxT K x y H Q ∨ rIxS x y H Q

/-! ### xs[i] = v, any sign -/
/-- the list's object behind a store -/
theorem mapSeq_set (its : List Value) (n j : Nat) (u : Value) : Obj.mapSeq (·.setIfInBounds j u) { cls := .type "list", data := .seq its.toArray n } = { cls := .type "list", data := .seq (its.set j u).toArray n } := by
  simp [Obj.mapSeq]
theorem Inv.lst {pins : List (Addr × Obj)} {σ : St} {H : Hp} {s : Shared} {p : Addr} {xs : List V} (I : Inv X pins σ H s) (h : H p = some (.lst xs)) :
    ∃ (its : List Value) (n : Nat), Vals xs its ∧ s.heap.get? p = some { cls := .type "list", data := .seq its.toArray n } ∧ xs.length ≤ sizeLine := by
  obtain ⟨z, its, n, r, e⟩ := I.hok p _ h
  exact ⟨its, n, r, e, z⟩
/-- the list at p is written by an update of its object -/
theorem Inv.lstUpd {pins : List (Addr × Obj)} {σ : St} {H : Hp} {s : Shared} {p : Addr} {xs ys : List V} {its its' : List Value} {n n' : Nat} {f : Obj → Obj} (I : Inv X pins σ H s) (h : H p = some (.lst xs))
    (ho : s.heap.get? p = some { cls := .type "list", data := .seq its.toArray n }) (hf : f { cls := .type "list", data := .seq its.toArray n } = { cls := .type "list", data := .seq its'.toArray n' }) (r : Vals ys its') (hz : ys.length ≤ sizeLine) (t : Nat) :
    Inv X pins σ (upd H p (.lst ys)) { s with heap := s.heap.update p f, toks := t } := by
  have e : (s.heap.update p f).get? p = some { cls := .type "list", data := .seq its'.toArray n' } := by
    rw [Heap.get?_update_self f ho (by rw [hf] <;> rfl), hf]
  refine I.write (x := p) (e := p) (by rw [h]; trivial) (.inl rfl) (fun b u hb q => (Heap.get?_update_other _ _ (Ne.symm hb)).trans q) ⟨_, e⟩ ?_
  exact ⟨hz, its', n', r, e⟩
def rSetL : V → V → V → Hp → (Hp → Prop) → Prop := fun o i v H Q => ∃ p xs k j, o = .ref p ∧ i = .int k ∧ H p = some (.lst xs) ∧ ixN xs.length k = some j ∧ Q (upd H p (.lst (xs.set j v)))
theorem set_list : PSet X rSetL := by
  intro pins s σ H o i v ov iv u Q I ro ri rv h
  obtain ⟨p, xs, k, j, rfl, rfl, hp, hj, q⟩ := h
  cases ro
  obtain ⟨t, rfl⟩ := ri
  obtain ⟨its, n, r, ho, hz⟩ := I.lst hp
  obtain ⟨h1, h2, h3, h4⟩ := ixN_seq hj
  have hl := r.length
  have hn := line63
  have I' : Inv X pins σ (upd H p (.lst (xs.set j v))) { s with heap := s.heap.update p (Obj.mapSeq (·.setIfInBounds j u)) } :=
    I.lstUpd hp ho (mapSeq_set its n j u) (r.set rv j) (by rw [List.length_set]; exact hz) s.toks
  by_cases h0 : 0 ≤ k
  · have hk : k.toNat = j := by
      rw [seqIndex_of h0 h4] at h1
      exact Option.some.inj h1
    exact PySem.W.ki_setAt ho h0 (by omega) (by rw [List.size_toArray, ← hl]; exact h4) (by rw [hk]; exact ⟨_, I', q⟩)
  · have hk : (k + (its.toArray.size : Int)).toNat = j := by
      rw [seqIndex_neg (by omega) h3] at h1
      rw [List.size_toArray, ← hl]
      exact Option.some.inj h1
    exact PySem.W.ki_setBack ho (by omega) (by rw [List.size_toArray, ← hl]; exact h3) (by omega) (by rw [hk]; exact ⟨_, I', q⟩)

/-! ### slices -/
theorem slice_bounds (lo hi : Option Int) (n : Nat) : (sliceBounds lo hi none n).1 = ((HT.sIx n 0 lo : Nat) : Int) ∧ (sliceBounds lo hi none n).2.1 = ((HT.sIx n n hi : Nat) : Int) ∧ (sliceBounds lo hi none n).2.2 = 1 := by
  refine ⟨?_, ?_, rfl⟩
  · cases lo with
    | none => simp [sliceBounds, HT.sIx]
    | some i =>
      simp only [sliceBounds, HT.sIx, Option.getD_none, show (1 : Int) > 0 by decide, if_true]
      by_cases h : i < 0
      · simp only [h, if_true] <;> omega
      · simp only [h, if_false] <;> omega
  · cases hi with
    | none => simp [sliceBounds, HT.sIx]
    | some i =>
      simp only [sliceBounds, HT.sIx, Option.getD_none, show (1 : Int) > 0 by decide, if_true]
      by_cases h : i < 0
      · simp only [h, if_true] <;> omega
      · simp only [h, if_false] <;> omega
theorem slicePick_cut (its : List Value) (lo hi : Option Int) : slicePick its.toArray lo hi none = ((its.drop (HT.sIx its.length 0 lo)).take (HT.sIx its.length its.length hi - HT.sIx its.length 0 lo)).toArray := by
  obtain ⟨h1, h2, h3⟩ := slice_bounds lo hi its.toArray.size
  unfold slicePick
  rw [h1, h2, h3]
  simp only [sliceRange_one, pick_run, List.size_toArray] <;> rfl
/-- xs[lo:hi] of a list: a new list -/
def rSlL (K : PySem.W.Frag) : V → Option Int → Option Int → Hp → VK → Prop := fun x lo hi H Q => ∃ a xs, x = .ref a ∧ SqL K H a xs ∧ ∀ p, H p = none → Q (.ref p) (upd H p (.lst (cutV xs lo hi)))
theorem sl_list : SlR X (rSlL X.K) := by
  intro pins s σ H x v vl vu lo hi sl Q I rx hs pl pu h
  obtain ⟨a, xs, rfl, hx, q⟩ := h
  cases rx
  obtain ⟨its, r, ht, hz⟩ := I.list hx
  have hlen := r.length
  refine ⟨"list", _, slot_list_getitem.lookup, ht.isList.typeIs, ?_⟩
  refine wpAny_getItem_list_slice ht.isList hs pl pu .none (by simp) ?_ (by rw [List.size_toArray] <;> omega)
  rw [slicePick_cut, ← hlen]
  refine ⟨.ref s.heap.objs.size, _, I.laid (t' := s.toks) (o := .lst (cutV xs lo hi)) (fun b ob q => Heap.get?_push_of_some _ q) (Nat.le_refl _) ?_, rfl, q _ (I.hok.fresh (Nat.le_refl _))⟩
  exact ⟨Nat.le_trans (cutV_length xs lo hi) hz, _, 0, (r.drop (HT.sIx xs.length 0 lo)).take (HT.sIx xs.length xs.length hi - HT.sIx xs.length 0 lo), Heap.get?_push_size _ rfl⟩

/-! ### in, not in: flat items -/
def flatV : V → Bool
  | .non => true
  | .bl _ => true
  | .int _ => true
  | .str _ => true
  | _ => false
/-- == of flat values -/
def eqV : V → V → Bool
  | .non, .non => true
  | .bl a, .bl b => a == b
  | .bl a, .int b => (if a then 1 else 0) == b
  | .int a, .bl b => a == (if b then 1 else 0)
  | .int a, .int b => a == b
  | .str a, .str b => a == b
  | _, _ => false
theorem eqAt_V {A : Around} {s : Shared} {y x : V} {u v : Value} (ry : RelV y u) (rx : RelV x v) (fy : flatV y = true) (fx : flatV x = true) : SeqAt.EqAt A s u v (eqV y x) := by
  cases y with
  | non =>
    cases ry
    cases x with
    | non => cases rx; exact SeqAt.EqAt.same _
    | bl b => cases rx; exact SeqAt.EqAt.none_bool b
    | int b => obtain ⟨t, rfl⟩ := rx; exact SeqAt.EqAt.none_int b t
    | str b => obtain ⟨t, rfl⟩ := rx; exact SeqAt.EqAt.none_str b t
    | _ => exact absurd (show false = true from fx) Bool.false_ne_true
  | bl a =>
    cases ry
    cases x with
    | non => cases rx; exact SeqAt.EqAt.bool_none a
    | bl b => cases rx; exact SeqAt.EqAt.bool_bool a b
    | int b => obtain ⟨t, rfl⟩ := rx; exact SeqAt.EqAt.bool_int a b t
    | str b => obtain ⟨t, rfl⟩ := rx; exact SeqAt.EqAt.bool_str a b t
    | _ => exact absurd (show false = true from fx) Bool.false_ne_true
  | int a =>
    obtain ⟨t', rfl⟩ := ry
    cases x with
    | non => cases rx; exact SeqAt.EqAt.int_none a t'
    | bl b => cases rx; exact SeqAt.EqAt.int_bool a t' b
    | int b => obtain ⟨t, rfl⟩ := rx; exact SeqAt.EqAt.int_int a t' b t
    | str b => obtain ⟨t, rfl⟩ := rx; exact SeqAt.EqAt.int_str a t' b t
    | _ => exact absurd (show false = true from fx) Bool.false_ne_true
  | str a =>
    obtain ⟨t', rfl⟩ := ry
    cases x with
    | non => cases rx; exact SeqAt.EqAt.str_none a t'
    | bl b => cases rx; exact SeqAt.EqAt.str_bool a t' b
    | int b => obtain ⟨t, rfl⟩ := rx; exact SeqAt.EqAt.str_int a t' b t
    | str b => obtain ⟨t, rfl⟩ := rx; exact SeqAt.EqAt.str_str a t' b t
    | _ => exact absurd (show false = true from fx) Bool.false_ne_true
  | _ => exact absurd (show false = true from fy) Bool.false_ne_true
/-- the items' answers, read off the values (a value's own answer does not lean on its token) -/
def eqU (x : V) (u : Value) : Bool := match u with
  | .none => eqV .non x
  | .bool b => eqV (.bl b) x
  | .int i _ => eqV (.int i) x
  | .str z _ => eqV (.str z) x
  | _ => false
theorem eqU_of {x y : V} {u : Value} (r : RelV y u) (f : flatV y = true) : eqU x u = eqV y x := by
  cases y with
  | non => cases r; rfl
  | bl b => cases r; rfl
  | int i => obtain ⟨t, rfl⟩ := r; rfl
  | str z => obtain ⟨t, rfl⟩ := r; rfl
  | _ => exact absurd (show false = true from f) Bool.false_ne_true
theorem mem_eqAt {A : Around} {s : Shared} {x : V} {v : Value} (rx : RelV x v) (fx : flatV x = true) : ∀ {xs : List V} {us : List Value}, Vals xs us → xs.all flatV = true → ∀ u ∈ us, SeqAt.EqAt A s u v (eqU x u)
  | _, _, .nil, _ => fun u hu => by cases hu
  | y :: xs, u :: us, .cons r t, f => fun u' hu => by
    rw [List.all_cons, Bool.and_eq_true] at f
    rcases List.mem_cons.mp hu with rfl | hu
    · rw [eqU_of r f.1]; exact eqAt_V r rx f.1 fx
    · exact mem_eqAt rx fx t f.2 u' hu
def inV (x : V) (xs : List V) : Bool := xs.any fun y => eqV y x
/-- x in a list or tuple of flat items -/
def rIn (K : PySem.W.Frag) (neg : Bool) : R2 := fun x y H Q => ∃ p xs, y = .ref p ∧ (SqL K H p xs ∨ SqT K H p xs) ∧ flatV x = true ∧ xs.all flatV = true ∧ Q (.bl (if neg then !inV x xs else inV x xs)) H

/-! ### len, list(x), tuple(x) of any list or tuple that is read -/
theorem call_len_seq : CallR X (.builtin "len") (fun xs H Q => ∃ p ys, xs = [.ref p] ∧ (SqL X.K H p ys ∨ SqT X.K H p ys) ∧ Q (.int ys.length) H) := by
  intro pins s σ H xs us Q I r h
  obtain ⟨p, ys, rfl, hq, q⟩ := h
  obtain ⟨u, rfl, rx⟩ := vals1 r
  cases rx
  have hn := line63
  rcases hq with hq | hq
  · obtain ⟨its, r', pl, hz⟩ := I.list hq
    have hlen := r'.length
    exact Calls.call_len_list pl.isList (by simp only [List.size_toArray] <;> omega) ⟨.int ys.length, H, I.tok _, ⟨s.toks + 1, by rw [List.size_toArray, hlen]⟩, q⟩
  · obtain ⟨its, r', pl, hz⟩ := I.tuple hq
    have hlen := r'.length
    exact len_tuple pl (by simp only [List.size_toArray] <;> omega) ⟨.int ys.length, H, I.tok _, ⟨s.toks + 1, by rw [List.size_toArray, hlen]⟩, q⟩
theorem CallR.or {f : Value} {r r' : List V → Hp → VK → Prop} (h : CallR X f r) (h' : CallR X f r') : CallR X f (fun xs H Q => r xs H Q ∨ r' xs H Q) := by
  intro pins s σ H xs us Q I rs q
  rcases q with q | q
  · exact h pins s σ H xs us Q I rs q
  · exact h' pins s σ H xs us Q I rs q
theorem call_list_of : CallR X (.type "list") (fun xs H Q => ∃ p ys, xs = [.ref p] ∧ (SqL X.K H p ys ∨ SqT X.K H p ys) ∧ ∀ l, H l = none → Q (.ref l) (upd H l (.lst ys))) := by
  intro pins s σ H xs us Q I r h
  obtain ⟨p, ys, rfl, hq, q⟩ := h
  obtain ⟨u, rfl, rx⟩ := vals1 r
  cases rx
  have fin : ∀ (its : List Value), Vals ys its → ys.length ≤ sizeLine → ∀ (h' : Heap) (c' : Nat), (∀ b o', s.heap.get? b = some o' → h'.get? b = some o') →
      h'.get? s.heap.objs.size = some { cls := .type "list", dict := none, data := .seq its.toArray c', slots := #[] } → EP X pins σ Q (.ref s.heap.objs.size) { s with heap := h' } := fun its r' hz h' c' kp e =>
    ⟨.ref s.heap.objs.size, _, I.laid (t' := s.toks) kp (Nat.le_refl _) (show ObjOk X.prog X.w _ h' _ (.lst ys) from ⟨hz, its, c', r', e⟩), rfl, q _ (I.hok.fresh (Nat.le_refl _))⟩
  rcases hq with hq | hq
  · obtain ⟨its, r', pl, hz⟩ := I.list hq
    have hlen := r'.length
    obtain ⟨o, ho, hc, n, hd⟩ := pl.isList
    exact call_list_seq p (.inl rfl) ho hc hd (fun h' c' kp e => fin its r' hz h' c' kp e) (by simp only [List.size_toArray] <;> omega)
  · obtain ⟨its, r', pl, hz⟩ := I.tuple hq
    have hlen := r'.length
    obtain ⟨o, ho, hc, n, hd⟩ := pl
    exact call_list_seq p (.inr rfl) ho hc hd (fun h' c' kp e => fin its r' hz h' c' kp e) (by simp only [List.size_toArray] <;> omega)

/-! ### the call of a builtin's method: o.m(..) -/
/-- the value is of that builtin type -/
def tyV (K : PySem.W.Frag) (T : String) (x : V) (H : Hp) : Prop := match x with
  | .str _ => T = "str"
  | .int _ => T = "int"
  | .ref p => (T = "list" ∧ ∃ xs, SqL K H p xs) ∨ (T = "tuple" ∧ ∃ o, K.lookup p = some o ∧ o.cls = .type "tuple" ∧ o.dict = none) ∨
      (T = "dict" ∧ ((∃ kvs, H p = some (.dK kvs)) ∨ ∃ kvs, H p = some (.dT kvs))) ∨ (T = "set" ∧ ∃ S n, H p = some (.set S n))
  | _ => False
theorem tyV_is {pins : List (Addr × Obj)} {σ : St} {H : Hp} {s : Shared} {T : String} {x : V} {v : Value} (I : Inv X pins σ H s) (r : RelV x v) (ty : tyV X.K T x H) :
    s.TypeIs v T ∧ ∀ a, v = .ref a → ∃ ob, s.heap.get? a = some ob ∧ ob.dict = none := by
  cases x with
  | str z =>
    obtain ⟨t, rfl⟩ := r
    cases (show T = "str" from ty)
    exact ⟨typeIs_str s z t, fun _ e => nomatch e⟩
  | int i =>
    obtain ⟨t, rfl⟩ := r
    cases (show T = "int" from ty)
    exact ⟨typeIs_int s i t, fun _ e => nomatch e⟩
  | ref p =>
    cases r
    rcases ty with ⟨rfl, xs, hq⟩ | ⟨rfl, o, hk, hc, hd⟩ | ⟨rfl, hk⟩ | ⟨rfl, S, n, hk⟩
    · obtain ⟨its, _, pl, _⟩ := I.list hq
      refine ⟨pl.isList.typeIs, fun a e => ?_⟩
      cases e
      obtain ⟨o, n, e, c, hd, _⟩ := pl
      exact ⟨o, e, hd⟩
    · refine ⟨⟨o, I.kIn p o hk, hc⟩, fun a e => ?_⟩
      cases e
      exact ⟨o, I.kIn _ o hk, hd⟩
    · have z : ∃ o, s.heap.get? p = some o ∧ o.ExactDict := by
        rcases hk with ⟨kvs, hk⟩ | ⟨kvs, hk⟩
        · obtain ⟨_, _, _, _, o, _, _, e, ex, _⟩ := I.hok p _ hk
          exact ⟨o, e, ex⟩
        · obtain ⟨_, _, _, _, o, _, _, e, ex, _⟩ := I.hok p _ hk
          exact ⟨o, e, ex⟩
      obtain ⟨o, e, ex⟩ := z
      refine ⟨⟨o, e, ex.1⟩, fun a e2 => ?_⟩
      cases e2
      exact ⟨o, e, ex.2.1⟩
    · obtain ⟨o, _, _, _, e, ex, _⟩ := I.hok p _ hk
      refine ⟨⟨o, e, ex.1⟩, fun a e2 => ?_⟩
      cases e2
      exact ⟨o, e, ex.2.1⟩
  | _ => exact False.elim ty
def tBM0 (K : PySem.W.Frag) (T : String) (r : V → List V → Hp → VK → Prop) (to : TE) : TE := fun σ H Q => to σ H fun x H1 => tyV K T x H1 ∧ r x [] H1 Q
def tBM (K : PySem.W.Frag) (T : String) (r : V → List V → Hp → VK → Prop) (to : TE) (t : TA) : TE := fun σ H Q => to σ H fun x H1 => tyV K T x H1 ∧ t σ H1 fun xs H2 => r x xs H2 Q
variable {o e : Expr} {es : List Expr} {to : TE} {t : TA} {name : Str} {apos cpos : Pos} {T id : String} {r : V → List V → Hp → VK → Prop}
theorem pe_bm0 (pa : PlainAttrs T) (slot : Slot T name id) (hty : typeOf (.builtin id) = pure (.type "method_descriptor")) (hm : MtR X id r) (ho : PE X o to)
    (hbase : attributeBase o name X.env (eval o X.env) = eval o X.env := by rfl) (hline : (apos.endLine == cpos.line) = true := by rfl) : PE X (.Call (.Attribute o name apos) [] [] cpos) (tBM0 X.K T r to) := by
  intro pins s σ H Q I h
  refine wpAny_Call_method0_late hbase hline (thn (ho pins s σ H _ I h) fun v s1 ⟨x, H1, I1, r1, ty, q1⟩ => ?_)
  obtain ⟨h1, h2⟩ := tyV_is I1 r1 ty
  exact ⟨T, id, pa, slot, hty, h1, h2, Calls.callWith_builtin rfl (PySem.evalArgs_none (hm pins s1 σ H1 x [] v [] Q I1 r1 .nil q1))⟩
theorem pe_bm (pa : PlainAttrs T) (slot : Slot T name id) (hty : typeOf (.builtin id) = pure (.type "method_descriptor")) (hm : MtR X id r) (ho : PE X o to) (ha : PA X (e :: es) t)
    (hbase : attributeBase o name X.env (eval o X.env) = eval o X.env := by rfl)
    (hfew : ((backTo cpos (starEach (e :: es) X.env)).all (fun x => !x.1) && (backToKw cpos (keywordEach [] X.env)).all (fun x => x.1.isSome)
      && decide ((e :: es).length + ([] : List Keyword).length + (if ([] : List Keyword).isEmpty then 0 else 1) < 30)) = true := by rfl)
    (hline : (apos.endLine == cpos.line) = true := by rfl) (hs : starEach (e :: es) X.env = (false, eval e X.env) :: starEach es X.env := by rfl) (hplain : (backTo cpos (starEach es X.env)).any (·.1) = false := by rfl) :
    PE X (.Call (.Attribute o name apos) (e :: es) [] cpos) (tBM X.K T r to t) := by
  intro pins s σ H Q I h
  refine wpAny_Call_method_late hbase hfew hline rfl (thn (ho pins s σ H _ I h) fun v s1 ⟨x, H1, I1, r1, ty, q1⟩ => ?_)
  obtain ⟨h1, h2⟩ := tyV_is I1 r1 ty
  refine ⟨T, id, pa, slot, hty, h1, h2, ?_⟩
  have hA := ha cpos pins s1 σ H1 _ I1 q1
  rw [hs] at hA ⊢
  refine Calls.callWith_builtin (by show (false || (backTo cpos (starEach es X.env)).any (·.1)) = false; rw [hplain] <;> rfl) (Calls.evalArgs_plain ?_)
  exact thn hA fun us s2 ⟨vs, H2, I2, r2, q2⟩ => hm pins s2 σ H2 x vs v us Q I2 r1 r2 q2
/- xs.append(e), list.index on a module's tuple .. are MtR facts of 06m -/
end
end L2

namespace L2
open PySem PySem.Spec PyProof.Rows

def MtM (X : Cx) (id : String) (r : V → List V → Hp → VK → Prop) : Prop :=
  ∀ (pins : List (Addr × Obj)) (s : Shared) (σ : St) (H : Hp) (x : V) (xs : List V) (v : Value) (us : List Value) (Q : VK), Inv X pins σ H s → RelV x v → Vals xs us → r x xs H Q →
    wpAny (model X.prog X.w) X.A (call (.builtin id) (v :: us)) (EP X pins σ Q) X.xe s

/-! ### lists of values -/
theorem Vals.one : ∀ {x : V} {us : List Value}, Vals [x] us → ∃ u, us = [u] ∧ RelV x u
  | _, _, .cons r .nil => ⟨_, rfl, r⟩
theorem Vals.two : ∀ {x y : V} {us : List Value}, Vals [x, y] us → ∃ u v, us = [u, v] ∧ RelV x u ∧ RelV y v
  | _, _, _, .cons r (.cons q .nil) => ⟨_, _, rfl, r, q⟩
theorem Vals.zero : ∀ {us : List Value}, Vals [] us → us = []
  | _, .nil => rfl
theorem Vals.dropLast {xs : List V} {us : List Value} (h : Vals xs us) : Vals xs.dropLast us.dropLast := by
  induction h with
  | nil => exact .nil
  | cons r t ih =>
    cases t with
    | nil => exact .nil
    | cons q t' => exact .cons r ih
theorem Vals.eraseIdx : ∀ {xs : List V} {us : List Value} (i : Nat), Vals xs us → Vals (xs.eraseIdx i) (us.eraseIdx i)
  | _, _, _, .nil => .nil
  | _, _, 0, .cons _ t => t
  | _, _, i + 1, .cons r t => .cons r (Vals.eraseIdx i t)
theorem Vals.reverse {xs : List V} {us : List Value} (h : Vals xs us) : Vals xs.reverse us.reverse := by
  induction h with
  | nil => exact .nil
  | cons r t ih => rw [List.reverse_cons, List.reverse_cons]; exact Vals.append ih (.cons r .nil)
theorem Vals.rep {xs : List V} {us : List Value} (h : Vals xs us) : ∀ k : Nat, Vals (List.replicate k xs).flatten (List.replicate k us).flatten
  | 0 => .nil
  | k + 1 => by
    rw [List.replicate_succ, List.replicate_succ, List.flatten_cons, List.flatten_cons]
    exact Vals.append h (Vals.rep h k)
theorem erase_last {α : Type} (l : List α) : l.eraseIdx (l.length - 1) = l.dropLast := by
  induction l with
  | nil => rfl
  | cons a r ih =>
    cases r with
    | nil => rfl
    | cons b r =>
      have e : (a :: b :: r).length - 1 = ((b :: r).length - 1) + 1 := by
        have h1 : (a :: b :: r).length = r.length + 2 := rfl
        have h2 : (b :: r).length = r.length + 1 := rfl
        omega
      rw [e, List.eraseIdx_cons_succ, ih]
      all_goals rfl
theorem foldl_rep (its : List Value) : ∀ (k : Nat) (acc : List Value),
    List.foldl (fun x1 x2 => x1 ++ x2) acc.toArray (List.replicate k its.toArray) = (acc ++ (List.replicate k its).flatten).toArray
  | 0, acc => by simp
  | k + 1, acc => by
    have e : acc.toArray ++ its.toArray = (acc ++ its).toArray := by simp
    have e2 : (acc ++ its) ++ (List.replicate k its).flatten = acc ++ (List.replicate (k + 1) its).flatten := by
      rw [List.replicate_succ, List.flatten_cons, List.append_assoc]
    rw [← e2, ← foldl_rep its k (acc ++ its), ← e, List.replicate_succ, List.foldl_cons]

section
variable {X : Cx} {pins : List (Addr × Obj)} {σ : St} {H : Hp} {s : Shared} {l b : Addr} {xs ys zs : List V}

/-! ### the two steps: a tracked list is rewritten, a new list is laid -/
theorem Inv.lset {its its' : List Value} {n : Nat} {f : Array Value → Array Value} {t' : Nat} (I : Inv X pins σ H s) (hH : H l = some (.lst xs))
    (e : s.heap.get? l = some { cls := .type "list", data := .seq its.toArray n }) (hf : f its.toArray = its'.toArray) (hv : Vals ys its') (hz : ys.length ≤ sizeLine) :
    Inv X pins σ (upd H l (.lst ys)) { s with heap := s.heap.update l (Obj.mapSeq f), toks := t' } := by
  have q := PySem.IsL.update e f
  rw [hf] at q
  refine I.write (x := l) (e := l) (by rw [hH]; exact trivial) (.inl rfl) (fun b' u hb hu => (Heap.get?_update_other s.heap (Obj.mapSeq f) (Ne.symm hb)).trans hu) ⟨_, q⟩ ?_
  exact ⟨hz, its', _, hv, q⟩
theorem Inv.lnew {its : List Value} {t' : Nat} (I : Inv X pins σ H s) (hv : Vals ys its) (hz : ys.length ≤ sizeLine) :
    Inv X pins σ (upd H s.heap.objs.size (.lst ys)) { s with heap := s.heap.push { cls := .type "list", data := .seq its.toArray }, toks := t' } :=
  I.laid (fun _ _ q => Heap.get?_push_of_some _ q) (Nat.le_refl _) ⟨hz, its, 0, hv, Heap.get?_push_size _ rfl⟩
theorem Inv.fresh (I : Inv X pins σ H s) : H s.heap.objs.size = none := I.hok.fresh (Nat.le_refl _)
theorem Inv.lstM (I : Inv X pins σ H s) (hH : H l = some (.lst xs)) : xs.length ≤ sizeLine ∧ ∃ (its : List Value) (n : Nat), Vals xs its ∧ xs.length = its.length ∧ s.heap.get? l = some { cls := .type "list", data := .seq its.toArray n } := by
  obtain ⟨z, its, n, r, e⟩ := I.hok l _ hH
  exact ⟨z, its, n, r, r.length, e⟩

theorem notLongL {n : Nat} (h : n ≤ sizeLine) : Builtin.List.listTooLong n = false := by
  unfold Builtin.List.listTooLong
  exact decide_eq_false (by omega)
end

section
variable {X : Cx}

/-! ### methods -/
def rAppend : V → List V → Hp → VK → Prop := fun x vs H Q => ∃ l xs y, x = .ref l ∧ vs = [y] ∧ H l = some (.lst xs) ∧ xs.length < sizeLine ∧ Q .non (upd H l (.lst (xs ++ [y])))
theorem mt_append : MtM X "list.append" rAppend := by
  intro pins s σ H x vs v us Q I rx rv h
  obtain ⟨l, xs, y, rfl, rfl, hH, hz, q⟩ := h
  cases rx
  obtain ⟨u, rfl, ru⟩ := rv.one
  obtain ⟨z, its, n, r, hl, e⟩ := I.lstM hH
  refine call_meets F.slot_list_append ⟨_, e, rfl⟩ F.entry_list_append (F.args_list_append_2 _ _) (PySem.list_append l its.toArray n u (by rw [List.size_toArray]; omega)) ⟨e, ?_⟩
  refine ⟨.non, _, I.lset (its' := its ++ [u]) hH e (by simp) (r.append (.cons ru .nil)) ?_, rfl, q⟩
  rw [List.length_append, List.length_singleton]
  omega

def rExtend : V → List V → Hp → VK → Prop := fun x vs H Q => ∃ l b xs zs, x = .ref l ∧ vs = [.ref b] ∧ H l = some (.lst xs) ∧ H b = some (.lst zs) ∧ xs.length + zs.length ≤ sizeLine ∧ Q .non (upd H l (.lst (xs ++ zs)))
theorem mt_extend : MtM X "list.extend" rExtend := by
  intro pins s σ H x vs v us Q I rx rv h
  obtain ⟨l, b, xs, zs, rfl, rfl, hH, hB, hz, q⟩ := h
  cases rx
  obtain ⟨u, rfl, ru⟩ := rv.one
  cases ru
  obtain ⟨z, its, n, r, hl, e⟩ := I.lstM hH
  obtain ⟨z2, its2, n2, r2, hl2, e2⟩ := I.lstM hB
  have hsz : its.toArray.size + its2.toArray.size ≤ sizeLine := by rw [List.size_toArray, List.size_toArray]; omega
  have hlong : ¬ (!its.toArray.isEmpty && Builtin.List.listTooLong (its.toArray.size + its2.toArray.size)) = true := by
    rw [notLongL hsz, Bool.and_false]
    exact Bool.false_ne_true
  refine call_meets F.slot_list_extend ⟨_, e, rfl⟩ F.entry_list_extend (F.args_list_extend_2 _ _)
    (AutoSeq1.list_extend_list_list_0 l its.toArray n b its2.toArray n2 hlong (by rw [List.size_toArray]; omega) (by omega)) ⟨e, e2, ?_⟩
  refine ⟨.non, _, I.lset (its' := its ++ its2) hH e (by simp) (r.append r2) ?_, rfl, q⟩
  rw [List.length_append]
  omega

def rPop : V → List V → Hp → VK → Prop := fun x vs H Q => ∃ l xs y, x = .ref l ∧ vs = [] ∧ H l = some (.lst xs) ∧ xs[xs.length - 1]? = some y ∧ Q y (upd H l (.lst xs.dropLast))
theorem mt_pop : MtM X "list.pop" rPop := by
  intro pins s σ H x vs v us Q I rx rv h
  obtain ⟨l, xs, y, rfl, rfl, hH, hy, q⟩ := h
  cases rx
  have hus := rv.zero
  subst hus
  obtain ⟨z, its, n, r, hl, e⟩ := I.lstM hH
  obtain ⟨u, hu, ru⟩ := r.get hy
  have hy' : its.toArray[its.toArray.size - 1]? = some u := by
    show its.toArray[its.length - 1]? = some u
    rw [← Array.getElem?_toList, ← hl]
    exact hu
  refine call_meets F.slot_list_pop ⟨_, e, rfl⟩ F.entry_list_pop (F.args_list_pop_1 _) (MeetsSeq.list_pop_last l its.toArray n u hy' (by rw [List.size_toArray]; omega)) ⟨e, ?_⟩
  refine ⟨y, _, I.lset (its' := its.dropLast) hH e ?_ r.dropLast ?_, ru, q⟩
  · show its.toArray.eraseIdxIfInBounds (its.toArray.size - 1) = its.dropLast.toArray
    rw [List.size_toArray, List.eraseIdxIfInBounds_toArray, erase_last]
  · rw [List.length_dropLast]
    omega

def rPopAt : V → List V → Hp → VK → Prop := fun x vs H Q => ∃ l xs i k y, x = .ref l ∧ vs = [.int i] ∧ H l = some (.lst xs) ∧ -(2 ^ 63) ≤ i ∧ i < 2 ^ 63 ∧ seqIndex? i xs.length = some k ∧ xs[k]? = some y ∧ Q y (upd H l (.lst (xs.eraseIdx k)))

def rReverse : V → List V → Hp → VK → Prop := fun x vs H Q => ∃ l xs, x = .ref l ∧ vs = [] ∧ H l = some (.lst xs) ∧ Q .non (upd H l (.lst xs.reverse))

def rClear : V → List V → Hp → VK → Prop := fun x vs H Q => ∃ l xs, x = .ref l ∧ vs = [] ∧ H l = some (.lst xs) ∧ Q .non (upd H l (.lst []))

/-! ### list + list, list += list, list * int -/
def rCat : R2 := fun x y H Q => ∃ l b xs zs, x = .ref l ∧ y = .ref b ∧ H l = some (.lst xs) ∧ H b = some (.lst zs) ∧ xs.length + zs.length ≤ sizeLine ∧ ∀ p, H p = none → Q (.ref p) (upd H p (.lst (xs ++ zs)))
theorem op_cat : OpR X (binaryOp .Add) rCat := by
  intro pins s σ H x y v u Q I rx ry h
  obtain ⟨l, b, xs, zs, rfl, rfl, hH, hB, hz, q⟩ := h
  cases rx
  cases ry
  obtain ⟨z, its, n, r, hl, e⟩ := I.lstM hH
  obtain ⟨z2, its2, n2, r2, hl2, e2⟩ := I.lstM hB
  refine PySem.P.add_list e e2 ?_ (by rw [List.size_toArray, List.size_toArray]; omega)
  have ea : its.toArray ++ its2.toArray = (its ++ its2).toArray := by simp
  rw [ea]
  exact ⟨.ref _, _, I.lnew (t' := s.toks) (r.append r2) (by rw [List.length_append]; omega), rfl, q _ I.fresh⟩
/-- a list times an int (a negative one is nothing) -/
def rRep : R2 := fun x y H Q => ∃ l k xs, x = .ref l ∧ y = .int k ∧ H l = some (.lst xs) ∧ -(2 ^ 63) ≤ k ∧ k < 2 ^ 63 ∧ xs.length * k.toNat ≤ sizeLine ∧
  ∀ p, H p = none → Q (.ref p) (upd H p (.lst (List.replicate k.toNat xs).flatten))
theorem len_rep {α : Type} (xs : List α) (k : Nat) : (List.replicate k xs).flatten.length = k * xs.length := by
  induction k with
  | zero => simp
  | succ k ih => rw [List.replicate_succ, List.flatten_cons, List.length_append, ih, Nat.succ_mul, Nat.add_comm]
theorem op_rep : OpR X (binaryOp .Mult) rRep := by
  intro pins s σ H x y v u Q I rx ry h
  obtain ⟨l, k, xs, rfl, rfl, hH, h1, h2, hz, q⟩ := h
  cases rx
  obtain ⟨t, rfl⟩ := ry
  obtain ⟨z, its, n, r, hl, e⟩ := I.lstM hH
  have hlen : its.toArray.size * k.toNat ≤ sizeLine := by rw [List.size_toArray, ← hl]; exact hz
  have hcap : ¬ its.toArray.size * k.toNat > (2 ^ 63 - 1) / 8 := by
    have : (sizeLine : Nat) ≤ (2 ^ 63 - 1) / 8 := by decide
    omega
  have hfit : ¬ (!Builtin.List.listFitsIndex k) = true := by
    rw [fitsIndex_both h1 h2]
    exact Bool.false_ne_true
  have hlong : ¬ Builtin.List.listTooLong (its.toArray.size * k.toNat) = true := by
    rw [notLongL hlen]
    exact Bool.false_ne_true
  have hnew : List.foldl (fun x1 x2 => x1 ++ x2) #[] (List.replicate (if its.toArray.isEmpty = true then 0 else k.toNat) its.toArray) = (List.replicate k.toNat its).flatten.toArray := by
    have f0 : ∀ m : Nat, List.foldl (fun x1 x2 => x1 ++ x2) #[] (List.replicate m its.toArray) = (List.replicate m its).flatten.toArray := fun m => by
      have := foldl_rep its m []
      rw [List.nil_append] at this
      exact this
    rw [f0]
    cases its with
    | nil => simp
    | cons a r' => rw [if_neg (by simp)]
  refine wpAny_binaryOp_repeat_ref (T := "list") (U := "int") (by decide) ⟨_, e, rfl⟩ (fun s' => typeIs_int s' k t) noFill_list_mul F.fills_int_mul F.slot_int_rmul repeat_list F.slot_int_index.lookup
    (call_meets F.slot_int_rmul (typeIs_int s k t) F.entry_int_rmul (F.args_int_rmul_2 _ _) (int___rmul___int_list k t l its.toArray n)
      ⟨e, rfl, ⟨_, e, rfl⟩, call_meets F.slot_list_mul ⟨_, e, rfl⟩ F.entry_list_mul (F.args_list_mul_2 _ _) (AutoListH.list___mul___list_int_3 l its.toArray n k t hfit hcap hlong) ⟨e, ?_⟩⟩)
  rw [hnew]
  exact ⟨.ref _, _, I.lnew (t' := s.toks) (r.rep k.toNat) (by rw [len_rep, Nat.mul_comm]; exact hz), rfl, q _ I.fresh⟩

/-! ### del xs[i] -/
end

/-! ### xs[a:b] = ys -/
section
variable {prog : Program} {w : World} {A : Around} {E : Value → Shared → Prop} {s : Shared}
end

section
variable {X : Cx}
end
end L2

namespace L2
open PySem PySem.Spec PyProof.Rows

theorem Vals.ints : ∀ {ns : List Int} {us : List Value}, Vals (ns.map V.int) us → IntsAre us ns
  | [], us, h => by
    rw [List.map_nil] at h
    cases h
    exact IntsAre.nil
  | n :: ns, us, h => by
    rw [List.map_cons] at h
    cases h with
    | cons r t =>
      obtain ⟨k, rfl⟩ := r
      exact IntsAre.cons n k (Vals.ints t)
theorem vals_of_ints : ∀ {us : List Value} {ns : List Int}, IntsAre us ns → Vals (ns.map V.int) us
  | _, _, .nil => by rw [List.map_nil]; exact Paired.nil
  | _, _, .cons n t h => by rw [List.map_cons]; exact Paired.cons (show RelV (V.int n) (Value.int n t) from ⟨t, rfl⟩) (vals_of_ints h)
theorem Vals.strs : ∀ {xs : List Str} {us : List Value}, Vals (xs.map V.str) us → StrsAre us xs
  | [], us, h => by
    rw [List.map_nil] at h
    cases h
    exact StrsAre.nil
  | x :: xs, us, h => by
    rw [List.map_cons] at h
    cases h with
    | cons r t =>
      obtain ⟨k, rfl⟩ := r
      exact StrsAre.cons x k (Vals.strs t)

/-! ### the library's walks over a list of ints, kept objects alone -/
section
variable {prog : Program} {w : World} {A : Around} {E : Value → Shared → Prop} {s : Shared} {l : Addr} {its : List Value} {ns : List Int} {Q : Value → Shared → Prop}
end

/-! ### the calls, by values (CallR of 03t; MtR of 06l) -/
section
variable {X : Cx}
/-- sum(xs) of a list of ints -/
def rSum (K : PySem.W.Frag) : List V → Hp → VK → Prop := fun vs H Q => ∃ (a : Addr) (ns : List Int), vs = [V.ref a] ∧ SqL K H a (ns.map V.int) ∧ Q (.int ns.sum) H
/-- max(xs), min(xs) of a list of ints -/
def rMax (K : PySem.W.Frag) : List V → Hp → VK → Prop := fun vs H Q => ∃ (a : Addr) (ns : List Int), vs = [V.ref a] ∧ SqL K H a (ns.map V.int) ∧ 0 < ns.length ∧ ∀ m, m ∈ ns → (∀ y, y ∈ ns → y ≤ m) → Q (.int m) H
def rMin (K : PySem.W.Frag) : List V → Hp → VK → Prop := fun vs H Q => ∃ (a : Addr) (ns : List Int), vs = [V.ref a] ∧ SqL K H a (ns.map V.int) ∧ 0 < ns.length ∧ ∀ m, m ∈ ns → (∀ y, y ∈ ns → m ≤ y) → Q (.int m) H

/-! sorted, sort (fewer than 64 items: the library's own bound) -/
def rSorted (K : PySem.W.Frag) : List V → Hp → VK → Prop := fun vs H Q => ∃ (a : Addr) (ns : List Int), vs = [V.ref a] ∧ SqL K H a (ns.map V.int) ∧ ns.length < 64 ∧
  ∀ (ns' : List Int) (p : Addr), ns'.Perm ns → ns'.Pairwise (· ≤ ·) → H p = none → Q (.ref p) (upd H p (.lst (ns'.map V.int)))
def rSortedS (K : PySem.W.Frag) : List V → Hp → VK → Prop := fun vs H Q => ∃ (a : Addr) (xs : List Str), vs = [V.ref a] ∧ SqL K H a (xs.map V.str) ∧ xs.length < 64 ∧
  ∀ (ys : List Str) (p : Addr), ys.Perm xs → sortedS ys = true → H p = none → Q (.ref p) (upd H p (.lst (ys.map V.str)))
/-- xs.sort(), ints -/
def rSort : V → List V → Hp → VK → Prop := fun x xs H Q => ∃ (a : Addr) (ns : List Int), x = V.ref a ∧ xs = [] ∧ H a = some (.lst (ns.map V.int)) ∧ ns.length < 64 ∧
  ∀ ns' : List Int, ns'.Perm ns → ns'.Pairwise (· ≤ ·) → Q .non (upd H a (.lst (ns'.map V.int)))
end

/-! ### list.index, flat items -/
section
variable {X : Cx}
def rIndex (K : PySem.W.Frag) : V → List V → Hp → VK → Prop := fun x xs H Q => ∃ (a : Addr) (ys : List V) (y : V) (j : Nat) (z : V), x = V.ref a ∧ xs = [y] ∧ SqL K H a ys ∧ flatV y = true ∧ ys.all flatV = true ∧ ys[j]? = some z ∧ eqV z y = true ∧
  (∀ (m : Nat) (z' : V), m < j → ys[m]? = some z' → eqV z' y = false) ∧ Q (.int (j : Nat)) H
theorem flat_at {ys : List V} (f : ys.all flatV = true) {j : Nat} {z : V} (h : ys[j]? = some z) : flatV z = true := List.all_eq_true.mp f z (List.mem_of_getElem? h)
theorem mt_index : MtR X "list.index" (rIndex X.K) := by
  intro pins s σ H x xs v us Q I rx rxs h
  obtain ⟨a, ys, y, j, z, rfl, rfl, hs, fy, fys, hz, hzj, hno, q⟩ := h
  cases rx
  cases rxs with
  | cons ry rt =>
    rename_i uy ut
    cases rt
    obtain ⟨its, rv, ⟨⟨cls, dd, data, sl⟩, n, ho, hc, hdn, hd⟩, hlen⟩ := I.list hs
    simp only at hc hd
    subst hc hd
    obtain ⟨u, hu, ru⟩ := rv.get hz
    obtain ⟨hjl, hje⟩ := List.getElem?_eq_some_iff.mp hu
    have hvl := rv.length
    have hj : j < its.toArray.size := by simpa using hjl
    have hsl := sizeLine_eq
    refine call_meets PySem.F.slot_list_index ⟨_, ho, rfl⟩ PySem.F.entry_list_index (PySem.F.args_list_index_2 _ _)
      (SeqAt.list_indexAt a its.toArray n dd sl uy (eqU y) j hj (by omega) ?_ ?_) ⟨ho, fun u' hu' => mem_eqAt ry fy rv fys u' (by simpa using hu'), ?_⟩
    · have e1 : its.toArray[j] = u := by simpa using hje
      rw [e1, eqU_of ru (flat_at fys hz)]
      exact hzj
    · intro m hm hmj
      have hml : m < its.length := by simpa using hm
      have hmy : m < ys.length := by omega
      have hy' : ys[m]? = some ys[m] := List.getElem?_eq_getElem hmy
      obtain ⟨u2, hu2, ru2⟩ := rv.get hy'
      obtain ⟨_, hme⟩ := List.getElem?_eq_some_iff.mp hu2
      have e1 : its.toArray[m] = u2 := by simpa using hme
      rw [e1, eqU_of ru2 (flat_at fys hy')]
      exact hno m _ hmj hy'
    · exact ⟨.int (j : Nat), H, I.tok _, ⟨_, rfl⟩, q⟩
end

/-! ### type(x) of an own instance; is, is not of a module's class -/
section
variable {X : Cx}
end

/-! ### any(xs), all(xs) of a list of bools -/
section
variable {X : Cx}
def rAny (K : PySem.W.Frag) : List V → Hp → VK → Prop := fun vs H Q => ∃ (a : Addr) (bs : List Bool), vs = [V.ref a] ∧ SqL K H a (bs.map V.bl) ∧ Q (.bl (bs.any id)) H
def rAll (K : PySem.W.Frag) : List V → Hp → VK → Prop := fun vs H Q => ∃ (a : Addr) (bs : List Bool), vs = [V.ref a] ∧ SqL K H a (bs.map V.bl) ∧ Q (.bl (bs.all id)) H
end

/-! ### == and != of data at any depth: none, bools, ints, texts, lists, tuples -/
mutual
inductive Dp (K : PySem.W.Frag) (H : Hp) : V → PyData → Prop
  | non : Dp K H .non .none
  | bl (b : Bool) : Dp K H (.bl b) (.bool b)
  | int (i : Int) : Dp K H (.int i) (.int i)
  | str (x : Str) : Dp K H (.str x) (.str x)
  | lst {a : Addr} {xs : List V} {ds : List PyData} : SqL K H a xs → DpAll K H xs ds → Dp K H (.ref a) (.list ds)
  | tup {a : Addr} {xs : List V} {ds : List PyData} : SqT K H a xs → DpAll K H xs ds → Dp K H (.ref a) (.tuple ds)
inductive DpAll (K : PySem.W.Frag) (H : Hp) : List V → List PyData → Prop
  | nil : DpAll K H [] []
  | cons {v : V} {vs : List V} {d : PyData} {ds : List PyData} : Dp K H v d → DpAll K H vs ds → DpAll K H (v :: vs) (d :: ds)
end
section
variable {X : Cx} {pins : List (Addr × Obj)} {σ : St} {H : Hp} {s : Shared}
mutual
theorem Dp.reads (I : Inv X pins σ H s) : ∀ (d : PyData) (v : V) (u : Value), Dp X.K H v d → RelV v u → ∃ as, Reads s.heap u d as
  | .none, _, _, h, r => by
    cases h
    cases r
    exact ⟨_, Reads.none⟩
  | .bool b, _, _, h, r => by
    cases h
    cases r
    exact ⟨_, Reads.bool b⟩
  | .int i, _, _, h, r => by
    cases h
    obtain ⟨t, rfl⟩ := r
    exact ⟨_, Reads.int i t⟩
  | .str x, _, _, h, r => by
    cases h
    obtain ⟨t, rfl⟩ := r
    exact ⟨_, Reads.str x t⟩
  | .list ds, _, _, h, r => by
    cases h with
    | lst hs ha =>
      cases r
      obtain ⟨its, rv, ⟨o, n, ho, hc, _, hd⟩, _⟩ := I.list hs
      obtain ⟨as, hr⟩ := Dp.readsAll I ds _ its ha rv
      exact ⟨_, Reads.list ho hc hd hr⟩
  | .tuple ds, _, _, h, r => by
    cases h with
    | tup hs ha =>
      cases r
      obtain ⟨its, rv, ⟨o, ho, hc, n, hd⟩, _⟩ := I.tuple hs
      obtain ⟨as, hr⟩ := Dp.readsAll I ds _ its ha rv
      exact ⟨_, Reads.tuple ho hc hd hr⟩
  | .dict _, _, _, h, _ => by cases h
theorem Dp.readsAll (I : Inv X pins σ H s) : ∀ (ds : List PyData) (vs : List V) (us : List Value), DpAll X.K H vs ds → Vals vs us → ∃ as, ReadsAll s.heap us ds as
  | [], _, _, h, r => by
    cases h
    cases r
    exact ⟨_, ReadsAll.nil⟩
  | d :: ds, _, _, h, r => by
    cases h with
    | cons h1 h2 =>
      cases r with
      | cons r1 r2 =>
        obtain ⟨as, q1⟩ := Dp.reads I d _ _ h1 r1
        obtain ⟨bs, q2⟩ := Dp.readsAll I ds _ _ h2 r2
        exact ⟨_, ReadsAll.cons q1 q2⟩
end
end
section
variable {X : Cx}
def rEqD (K : PySem.W.Frag) : R2 := fun x y H Q => ∃ d e, Dp K H x d ∧ Dp K H y e ∧ SeqAt.shaped d = true ∧ SeqAt.shaped e = true ∧ Q (.bl (PyData.eqv d e)) H
def rNeD (K : PySem.W.Frag) : R2 := fun x y H Q => ∃ d e, Dp K H x d ∧ Dp K H y e ∧ SeqAt.shaped d = true ∧ SeqAt.shaped e = true ∧ Q (.bl (!PyData.eqv d e)) H
theorem op_eqD (hu : X.A.units + 64 < cLine) : OpR X (compareOp .Eq) (rEqD X.K) := by
  intro pins s σ H x y v u Q I rx ry h
  obtain ⟨d, e, hd, he, sd, se, q⟩ := h
  obtain ⟨as, r1⟩ := Dp.reads I d x v hd rx
  obtain ⟨bs, r2⟩ := Dp.reads I e y u he ry
  exact SeqAt.compareEq_shaped r1 r2 sd se hu ⟨.bl _, H, I, rfl, q⟩
theorem op_neD (hu : X.A.units + 64 < cLine) : OpR X (compareOp .NotEq) (rNeD X.K) := by
  intro pins s σ H x y v u Q I rx ry h
  obtain ⟨d, e, hd, he, sd, se, q⟩ := h
  obtain ⟨as, r1⟩ := Dp.reads I d x v hd rx
  obtain ⟨bs, r2⟩ := Dp.reads I e y u he ry
  exact SeqAt.compareNe_shaped r1 r2 sd se hu ⟨.bl _, H, I, rfl, q⟩
end
end L2

namespace L2
open PySem PySem.Spec PyProof.Rows
abbrev CellAt (h : Heap) (c : Addr) (v : Option Value) : Prop := h.IsCell c v
def relS (scope sc : Scope) : Scope :=
  { scope with names := scope.names.map fun (n, k) => if (k == .free && sc.kind == .function && sc.names.lookup n == some .cell) then (n, .cell) else (n, k) }

def cloFrom (cells : List (Str × Addr)) : List (Str × NameKind) → List (Str × Addr) → List (Str × Addr)
  | [], acc => acc
  | (n, k) :: r, acc => if k == .free then cloFrom cells r ((n, (cells.lookup n).getD 0) :: acc) else cloFrom cells r acc

theorem closure_loop (env : Env) (f : Str × NameKind → List (Str × Addr) → Sem (ForInStep (List (Str × Addr))))
    (hf : ∀ n k c, f (n, k) c = if k == .free then (do let a ← cellOf env n; pure (.yield ((n, a) :: c))) else pure (.yield c)) :
    ∀ (names : List (Str × NameKind)) (acc : List (Str × Addr)), (∀ y ∈ names, y.2 = .free → ∃ c, env.cells.lookup y.1 = some c) → forIn names acc f = pure (cloFrom env.cells names acc)
  | [], acc, _ => by rw [List.forIn_nil]; rfl
  | (n, k) :: r, acc, h => by
    rw [List.forIn_cons, hf]
    have ih := fun acc => closure_loop env f hf r acc fun y hy => h y (List.mem_cons_of_mem _ hy)
    unfold cloFrom
    by_cases hk : (k == NameKind.free) = true
    · rw [if_pos hk, if_pos hk]
      obtain ⟨c, hc⟩ := h (n, k) List.mem_cons_self (by simpa using hk)
      have e : cellOf env n = pure c := by unfold cellOf; rw [hc]
      rw [e]
      have e2 : (env.cells.lookup n).getD 0 = c := by rw [hc]; rfl
      rw [e2]
      exact ih _
    · rw [if_neg hk, if_neg hk]
      exact ih _
theorem closure_ok {scope : Scope} {env : Env} (h : ∀ y ∈ scope.names, y.2 = .free → ∃ c, env.cells.lookup y.1 = some c) : closureFor scope env = pure (cloFrom env.cells scope.names []) := by
  simp only [closureFor]
  rw [closure_loop env _ (fun n k c => rfl) scope.names [] h]
  rfl

theorem mem_lookup {α : Type} : ∀ {l : List (Str × α)} {n : Str} {c : α}, (n, c) ∈ l → ∃ c', l.lookup n = some c'
  | (k, v) :: r, n, c, h => by
    rw [List.lookup_cons]
    cases hb : n == k with
    | true => exact ⟨_, rfl⟩
    | false =>
      rcases List.mem_cons.mp h with e | h
      · cases e; simp at hb
      · exact mem_lookup h

theorem cloFrom_mem {cells : List (Str × Addr)} : ∀ {names : List (Str × NameKind)} {acc : List (Str × Addr)} {n : Str} {c : Addr}, (n, c) ∈ cloFrom cells names acc → (n, c) ∈ acc ∨ ((n, .free) ∈ names ∧ c = (cells.lookup n).getD 0)
  | [], _, _, _, h => .inl h
  | (m, k) :: r, acc, n, c, h => by
    unfold cloFrom at h
    split at h
    · rename_i hk
      have hk : k = .free := by simpa using hk
      rcases cloFrom_mem h with h | ⟨h1, h2⟩
      · rcases List.mem_cons.mp h with e | h
        · cases e; exact .inr ⟨hk ▸ List.mem_cons_self, rfl⟩
        · exact .inl h
      · exact .inr ⟨List.mem_cons_of_mem _ h1, h2⟩
    · rcases cloFrom_mem h with h | ⟨h1, h2⟩
      · exact .inl h
      · exact .inr ⟨List.mem_cons_of_mem _ h1, h2⟩
theorem cloFrom_acc {cells : List (Str × Addr)} : ∀ {names : List (Str × NameKind)} {acc : List (Str × Addr)} {p : Str × Addr}, p ∈ acc → p ∈ cloFrom cells names acc
  | [], _, _, h => h
  | (m, k) :: r, acc, p, h => by
    unfold cloFrom
    split
    · exact cloFrom_acc (List.mem_cons_of_mem _ h)
    · exact cloFrom_acc h
theorem cloFrom_has {cells : List (Str × Addr)} : ∀ {names : List (Str × NameKind)} {acc : List (Str × Addr)} {n : Str}, (n, .free) ∈ names → (n, (cells.lookup n).getD 0) ∈ cloFrom cells names acc
  | (m, k) :: r, acc, n, h => by
    unfold cloFrom
    rcases List.mem_cons.mp h with e | h
    · cases e
      exact cloFrom_acc List.mem_cons_self
    · split
      · exact cloFrom_has h
      · exact cloFrom_has h

theorem cells_mem : ∀ {names : List (Str × NameKind)} {h : Heap} {acc : List (Str × Addr)} {x : Str} {c : Addr}, (x, c) ∈ cellsFrom h.objs.size names acc →
    (x, c) ∈ acc ∨ ((x, .cell) ∈ names ∧ h.objs.size ≤ c ∧ CellAt (pushCells h names) c none)
  | [], _, _, _, _, h => .inl h
  | (n, k) :: r, h, acc, x, c, hm => by
    unfold cellsFrom at hm
    unfold pushCells
    split at hm
    · rename_i hk
      rw [if_pos hk]
      have hk : k = .cell := by simpa using hk
      rw [← Heap.size_push h { cls := .type "cell", data := .cell none }] at hm
      rcases cells_mem hm with hm | ⟨h1, h2, h3⟩
      · rcases List.mem_cons.mp hm with e | hm
        · cases e
          exact .inr ⟨hk ▸ List.mem_cons_self, Nat.le_refl _, _, pushCells_keeps r _ _ _ (Heap.get?_push_size _ rfl), rfl⟩
        · exact .inl hm
      · rw [Heap.size_push] at h2
        exact .inr ⟨List.mem_cons_of_mem _ h1, Nat.le_of_succ_le h2, h3⟩
    · rename_i hk
      rw [if_neg hk]
      rcases cells_mem hm with hm | ⟨h1, h2, h3⟩
      · exact .inl hm
      · exact .inr ⟨List.mem_cons_of_mem _ h1, h2, h3⟩
theorem cells_acc : ∀ {names : List (Str × NameKind)} {n : Nat} {acc : List (Str × Addr)} {p : Str × Addr}, p ∈ acc → p ∈ cellsFrom n names acc
  | [], _, _, _, h => h
  | (m, k) :: r, n, acc, p, h => by
    unfold cellsFrom
    split
    · exact cells_acc (List.mem_cons_of_mem _ h)
    · exact cells_acc h
theorem cells_has : ∀ {names : List (Str × NameKind)} {n : Nat} {acc : List (Str × Addr)} {x : Str}, (x, .cell) ∈ names → ∃ c, (x, c) ∈ cellsFrom n names acc
  | (m, k) :: r, n, acc, x, h => by
    unfold cellsFrom
    rcases List.mem_cons.mp h with e | h
    · cases e
      exact ⟨n, cells_acc List.mem_cons_self⟩
    · split
      · exact cells_has h
      · exact cells_has h
theorem cells_inj : ∀ {names : List (Str × NameKind)} {h : Heap} {acc : List (Str × Addr)} {x y : Str} {c : Addr}, (∀ p ∈ acc, p.2 < h.objs.size) → (∀ x y c, (x, c) ∈ acc → (y, c) ∈ acc → x = y) →
    (x, c) ∈ cellsFrom h.objs.size names acc → (y, c) ∈ cellsFrom h.objs.size names acc → x = y
  | [], _, _, _, _, _, _, hi, h1, h2 => hi _ _ _ h1 h2
  | (n, k) :: r, h, acc, x, y, c, hl, hi, h1, h2 => by
    unfold cellsFrom at h1 h2
    split at h1
    · rename_i hk
      rw [if_pos hk] at h2
      rw [← Heap.size_push h { cls := .type "cell", data := .cell none }] at h1 h2
      refine cells_inj (h := h.push _) (fun p hp => ?_) (fun x y c a b => ?_) h1 h2
      · rw [Heap.size_push]
        rcases List.mem_cons.mp hp with rfl | hp
        · exact Nat.lt_succ_self _
        · exact Nat.lt_succ_of_lt (hl p hp)
      · rcases List.mem_cons.mp a with e | a <;> rcases List.mem_cons.mp b with e' | b
        · cases e; cases e'; rfl
        · cases e; exact absurd (hl _ b) (Nat.lt_irrefl _)
        · cases e'; exact absurd (hl _ a) (Nat.lt_irrefl _)
        · exact hi _ _ _ a b
    · rename_i hk
      rw [if_neg hk] at h2
      exact cells_inj hl hi h1 h2

theorem newEnv_comp {M : Model} {A : Around} {E : Value → Shared → Prop} {s : Shared} {scope : Scope} {globals : Addr} {closure : List (Str × Addr)} {qual : Str} {func : Option Addr} {code : Value} {around : Env} {builtins : Addr} {Q : Env → Shared → Prop}
    (h : Q (newEnv scope s.heap.objs.size globals (cellsFrom (s.heap.objs.size + 1) scope.names closure) qual func code (some around) builtins)
      { s with heap := pushCells (s.heap.push { cls := .type "dict", data := .dict #[] }) scope.names }) :
    wpAny M A (newFunctionEnv scope globals closure [] qual func code (some around) builtins) Q E s := by
  simp only [newFunctionEnv, Option.isSome_some, if_true]
  refine wpAny_bind (wpAny_alloc ?_)
  refine wpAny_bind (wpAny_layCells _ (fun n k c => rfl) scope.names closure _ _ ?_)
  rw [show ({ s with heap := s.heap.push { cls := .type "dict", data := .dict #[] } } : Shared).heap.objs.size = s.heap.objs.size + 1 from Heap.size_push ..]
  rw [List.forIn_nil]
  exact wpAny_bind (wpAny_pure (wpAny_pure h))

/-- every name of the written scope, in the scope that runs -/
theorem lookup_relS {sc : Scope} : ∀ {names : List (Str × NameKind)} {x : Str} {k : NameKind},
    (names.map fun (n, k) => if (k == NameKind.free && sc.kind == .function && sc.names.lookup n == some .cell) then (n, NameKind.cell) else (n, k)).lookup x = some k →
    ∃ k', names.lookup x = some k' ∧ (k = k' ∨ (k' = .free ∧ k = .cell))
  | [], _, _, h => by simp at h
  | (n, k₀) :: r, x, k, h => by
    have ih := @lookup_relS sc r x k
    have h' : List.lookup x ((if (k₀ == NameKind.free && sc.kind == .function && sc.names.lookup n == some .cell) = true then (n, NameKind.cell) else (n, k₀)) :: (r.map _)) = some k := h
    cases hx : x == n with
    | true =>
      simp only [List.lookup_cons, hx]
      by_cases hc : (k₀ == NameKind.free && sc.kind == .function && sc.names.lookup n == some .cell) = true
      · rw [if_pos hc] at h'
        simp only [List.lookup_cons, hx] at h'
        cases h'
        simp only [Bool.and_eq_true, beq_iff_eq] at hc
        exact ⟨k₀, rfl, .inr ⟨hc.1.1, rfl⟩⟩
      · rw [if_neg hc] at h'
        simp only [List.lookup_cons, hx] at h'
        cases h'
        exact ⟨_, rfl, .inl rfl⟩
    | false =>
      simp only [List.lookup_cons, hx]
      by_cases hc : (k₀ == NameKind.free && sc.kind == .function && sc.names.lookup n == some .cell) = true
      · rw [if_pos hc] at h'
        simp only [List.lookup_cons, hx] at h'
        exact ih h'
      · rw [if_neg hc] at h'
        simp only [List.lookup_cons, hx] at h'
        exact ih h'



/-- the names of a comprehension's block: its own (with their places in N), or captured -/
structure BlkOk (N : List Str) (sc scope : Scope) (own : List (Str × Nat)) : Prop where
  kind : scope.kind = .function
  uniq : ∀ y ∈ scope.names, scope.names.lookup y.1 = some y.2
  ix : ∀ p ∈ own, N[p.2]? = some p.1
  free : ∀ y ∈ scope.names, y.2 = .free → sc.names.lookup y.1 = some .cell ∨ sc.names.lookup y.1 = some .free
  own : ∀ y ∈ scope.names, y.2 = .local ∨ y.2 = .cell → y.1 ∈ own.map (·.1) ∨ y.1 ∉ N
/-- the slots of the block's own names forgotten -/
def wipe (σ : St) : List Nat → St
  | [] => σ
  | v :: vs => (wipe σ vs).set v none
theorem wipe_length (σ : St) : ∀ vs : List Nat, (wipe σ vs).length = σ.length
  | [] => rfl
  | v :: vs => by unfold wipe; rw [List.length_set, wipe_length σ vs]
theorem wipe_some {σ : St} {i : Nat} {x : V} : ∀ {vs : List Nat}, (wipe σ vs)[i]? = some (some x) → σ[i]? = some (some x) ∧ i ∉ vs
  | [], h => ⟨h, by simp⟩
  | v :: vs, h => by
    unfold wipe at h
    by_cases hi : v = i
    · subst hi
      by_cases hv : v < (wipe σ vs).length
      · rw [List.getElem?_set_self hv] at h; cases h
      · rw [List.getElem?_eq_none (by simpa using hv)] at h; cases h
    · rw [List.getElem?_set_ne hi] at h
      obtain ⟨h1, h2⟩ := wipe_some h
      exact ⟨h1, by simp only [List.mem_cons, not_or]; exact ⟨fun e => hi e.symm, h2⟩⟩

/-- the context of a block that starts at s, its iterator's objects at fp -/
abbrev Cx.blk (X : Cx) (s : Shared) (H : Hp) (scope : Scope) (cenv : Env) (fp : List Addr) : Cx := { X with s_0 := s, H_0 := H, env := cenv, outer := X.stack, ex := fp, fn := fun x => scope.names.lookup x == some .cell, pn := [], xe := fun _ _ => False }
section
variable {X : Cx} {pins : List (Addr × Obj)} {σ : St} {H : Hp} {s : Shared}
theorem block_start {scope : Scope} {own : List (Str × Nat)} {fp : List Addr} (I : Inv X pins σ H s) (ok : BlkOk X.N X.env.scope scope own) (hN : X.N.Nodup) (hfp : ∀ b ∈ fp, FpOk X pins H b ∧ b < s.heap.objs.size) :
    Inv (X.blk s H scope (compEnvC scope (cellsFrom (s.heap.objs.size + 1) scope.names (cloFrom X.env.cells scope.names [])) s.heap.objs.size X.env) fp) [] (wipe σ (own.map (·.2))) H { s with heap := pushCells (s.heap.push { cls := .type "dict", data := .dict #[] }) scope.names } := by
  have hfree : ∀ y ∈ scope.names, y.2 = .free → ∃ c, X.env.cells.lookup y.1 = some c := fun y hy e => by
    rcases ok.free y hy e with k | k
    · exact I.ok.has _ (.inl k)
    · exact I.ok.has _ (.inr k)
  generalize hcenv : compEnvC scope (cellsFrom (s.heap.objs.size + 1) scope.names (cloFrom X.env.cells scope.names [])) s.heap.objs.size X.env = cenv
  have kp : ∀ b o, s.heap.get? b = some o → (pushCells (s.heap.push { cls := .type "dict", data := .dict #[] }) scope.names).get? b = some o := fun b o e => pushCells_keeps _ _ _ _ (Heap.get?_push_of_some _ e)
  have hL : cenv.locals = s.heap.objs.size := by rw [← hcenv]; rfl
  have hcl : cenv.cells = cellsFrom (s.heap.objs.size + 1) scope.names (cloFrom X.env.cells scope.names []) := by rw [← hcenv]; rfl
  have hsc : cenv.scope = relS scope X.env.scope := by rw [← hcenv]; rfl
  rw [← Heap.size_push s.heap { cls := .type "dict", data := .dict #[] }] at hcl
  have cm : ∀ {y c}, (y, c) ∈ cloFrom X.env.cells scope.names [] → X.env.cells.lookup y = some c ∧ c < s.heap.objs.size := fun {y c} hm => by
    rcases cloFrom_mem hm with hm | ⟨h1, rfl⟩
    · cases hm
    · obtain ⟨c, hc⟩ := hfree _ h1 rfl
      rw [hc]
      obtain ⟨w, z⟩ := I.cell _ _ hc
      exact ⟨rfl, z.lt⟩
  have mem : ∀ {y c}, cenv.cells.lookup y = some c → (X.env.cells.lookup y = some c ∧ c < s.heap.objs.size) ∨ (s.heap.objs.size + 1 ≤ c ∧ CellAt (pushCells (s.heap.push { cls := .type "dict", data := .dict #[] }) scope.names) c none) := fun {y c} e => by
    rw [hcl] at e
    rcases cells_mem (PySem.mem_of_lookup e) with hm | ⟨_, h2, h3⟩
    · exact .inl (cm hm)
    · rw [Heap.size_push] at h2; exact .inr ⟨h2, h3⟩
  have look : ∀ {y}, scope.names.lookup y = some .free → ∃ c, cenv.cells.lookup y = some c ∧ X.env.cells.lookup y = some c := fun {y} hl => by
    have hy : (y, NameKind.free) ∈ scope.names := PySem.mem_of_lookup hl
    obtain ⟨c', e'⟩ := mem_lookup (cells_acc (names := scope.names) (n := (s.heap.push { cls := .type "dict", data := .dict #[] }).objs.size) (cloFrom_has (cells := X.env.cells) (acc := []) hy))
    rw [← hcl] at e'
    refine ⟨c', e', ?_⟩
    rw [hcl] at e'
    rcases cells_mem (PySem.mem_of_lookup e') with hm | ⟨h1, _, _⟩
    · exact (cm hm).1
    · have := ok.uniq _ h1
      rw [hl] at this; cases this
  have okB : (X.blk s H scope cenv fp).Ok := by
    refine ⟨I.ok.mod, by show cenv.scope.kind = _; rw [hsc]; exact ok.kind, by show cenv.globals = _; rw [← hcenv]; exact I.ok.glob, by show cenv.builtins = _; rw [← hcenv]; exact I.ok.blt, by show s.heap.objs.size ≤ cenv.locals; rw [hL]; exact Nat.le_refl _,
      fun y z c e1 e2 => ?_, fun y hy => ?_, fun y c z e => ?_, I.ok.hd, I.ok.frames, .inl rfl, fun b hb => ⟨?_, fun y c e z => ?_⟩, I.bs, Nat.le_trans I.ok.bsz I.sz, fun b o e hb => ?_, fun b hb z => ?_, I.stack, I.stkFree⟩
    · have e1 : cenv.cells.lookup y = some c := e1
      have e2 : cenv.cells.lookup z = some c := e2
      rw [hcl] at e1 e2
      refine cells_inj (fun p hp => ?_) (fun y z c a b => I.ok.inj y z c (cm a).1 (cm b).1) (PySem.mem_of_lookup e1) (PySem.mem_of_lookup e2)
      rw [Heap.size_push]
      exact Nat.lt_succ_of_lt (cm (y := p.1) (c := p.2) hp).2
    · show ∃ c, cenv.cells.lookup y = some c
      have key : ∀ k, cenv.kindOf y = some k → (k = .cell ∨ k = .free) → ∃ c, cenv.cells.lookup y = some c := fun k hk hk' => by
        unfold Env.kindOf at hk
        rw [hsc] at hk
        obtain ⟨k', e, r⟩ := lookup_relS hk
        have : k' = .cell ∨ k' = .free := by
          rcases r with rfl | ⟨rfl, _⟩
          · exact hk'
          · exact .inr rfl
        rcases this with rfl | rfl
        · obtain ⟨c, hm⟩ := cells_has (n := (s.heap.push { cls := .type "dict", data := .dict #[] }).objs.size) (acc := cloFrom X.env.cells scope.names []) (PySem.mem_of_lookup e)
          obtain ⟨c', e'⟩ := mem_lookup hm
          exact ⟨c', by rw [hcl]; exact e'⟩
        · obtain ⟨c, h1, _⟩ := look e
          exact ⟨c, h1⟩
      rcases hy with hy | hy
      · exact key _ hy (.inl rfl)
      · exact key _ hy (.inr rfl)
    · have z : (scope.names.lookup y == some NameKind.cell) = true := z
      have z : scope.names.lookup y = some .cell := by simpa using z
      have e : cenv.cells.lookup y = some c := e
      rw [hcl] at e
      rcases cells_mem (PySem.mem_of_lookup e) with hm | ⟨_, h2, _⟩
      · rcases cloFrom_mem hm with hm | ⟨h1, _⟩
        · cases hm
        · have q := ok.uniq _ h1
          rw [z] at q; cases q
      · rw [Heap.size_push] at h2
        exact Nat.le_of_succ_le h2
    · show b ≠ cenv.locals
      rw [hL]; exact Nat.ne_of_lt (hfp b hb).2
    · have e : cenv.cells.lookup y = some c := e
      rcases mem e with ⟨h1, _⟩ | ⟨h1, _⟩
      · exact (hfp b hb).1.2.2.2.2.1 y c h1 z
      · have h2 : s.heap.objs.size + 1 ≤ b := by rw [← z]; exact h1
        exact absurd (Nat.lt_of_lt_of_le (hfp b hb).2 (Nat.le_of_succ_le h2)) (Nat.lt_irrefl _)
    · rcases (hfp b hb).1.2.2.2.1 with z | z
      · exact I.ok.noex b o e z
      · exact absurd (Nat.lt_of_lt_of_le (Heap.lt_size e) (Nat.le_trans I.ok.bsz z)) (Nat.lt_irrefl _)
    · rcases List.mem_cons.mp (I.stkSub b z) with z | z
      · exact (hfp b hb).1.2.1 z
      · exact (hfp b hb).1.2.2.1 z
  refine ⟨okB, rfl, I.bare, Un.kept kp, ⟨fun _ => none, ?_, fun i y av e1 e2 e3 => ?_⟩, fun y c e => ?_, ?_, fun y c e => ?_, fun p hp => ?_, I.hok.kept kp, by rw [wipe_length]; exact I.len⟩
  · show Heap.Ns _ cenv.locals _
    rw [hL]
    exact Heap.Ns.keeps (Heap.Ns.new ..) fun b o e => pushCells_keeps _ _ _ _ e
  · obtain ⟨e2, hne⟩ := wipe_some e2
    have hfr : scope.names.lookup y = some .free ∧ (cenv.kindOf y = some .cell ∨ cenv.kindOf y = some .free) := by
      have key : ∀ k, cenv.scope.names.lookup y = some k → k = .local ∨ k = .cell ∨ k = .free → scope.names.lookup y = some .free ∧ (cenv.kindOf y = some .cell ∨ cenv.kindOf y = some .free) := fun k hk hk' => by
        have hk0 := hk
        rw [hsc] at hk
        obtain ⟨k', e, r⟩ := lookup_relS hk
        have no : ¬ (k' = .local ∨ k' = .cell) := fun hh => by
          rcases ok.own _ (PySem.mem_of_lookup e) hh with e' | e'
          · obtain ⟨p, hp, hpy⟩ := List.mem_map.mp e'
            have e3 := ok.ix p hp
            have : p.1 = y := hpy
            rw [this] at e3
            exact hne (List.mem_map.mpr ⟨p, hp, nodup_ix hN e3 e1⟩)
          · exact e' (List.mem_of_getElem? e1)
        rcases r with rfl | ⟨rfl, rfl⟩
        · rcases hk' with rfl | rfl | rfl
          · exact absurd (.inl rfl) no
          · exact absurd (.inr rfl) no
          · exact ⟨e, .inr hk0⟩
        · exact ⟨e, .inl hk0⟩
      have e3 : Vis cenv.scope y := e3
      rcases e3 with e3 | e3 | e3
      · exact key _ e3 (.inl rfl)
      · exact key _ e3 (.inr (.inl rfl))
      · exact key _ e3 (.inr (.inr rfl))
    obtain ⟨m, hn, hl⟩ := I.loc
    have hvis : Vis X.env.scope y := (ok.free _ (PySem.mem_of_lookup hfr.1) rfl).elim (fun k => .inr (.inl k)) (fun k => .inr (.inr k))
    obtain ⟨w, r, q⟩ := hl i y av e1 e2 hvis
    refine ⟨w, r, .inr ⟨hfr.2, ?_⟩⟩
    obtain ⟨c, h1, h2⟩ := look hfr.1
    rcases q with ⟨k, _⟩ | ⟨_, c', e', z⟩
    · have k : X.env.scope.names.lookup y = some .local := k
      rcases ok.free _ (PySem.mem_of_lookup hfr.1) rfl with k' | k' <;> rw [show X.env.scope.names.lookup y = _ from k'] at k <;> cases k
    · rw [h2] at e'; cases e'
      exact ⟨c, h1, z.keeps kp⟩
  · have e : cenv.cells.lookup y = some c := e
    rcases mem e with ⟨h1, _⟩ | ⟨_, z⟩
    · obtain ⟨w, z⟩ := I.cell y c h1
      exact ⟨w, z.keeps kp⟩
    · exact ⟨_, z⟩
  · show H cenv.locals = none
    rw [hL]; exact I.hok.fresh (Nat.le_refl _)
  · have e : cenv.cells.lookup y = some c := e
    rcases mem e with ⟨h1, _⟩ | ⟨h1, _⟩
    · exact I.freeC y c h1
    · exact I.hok.fresh (Nat.le_of_succ_le h1)
  · exact absurd (show p ∈ ([] : List (Addr × Obj)) ++ [] from hp) (by simp)

/-- an item appended to a tracked list -/
theorem app_ok {E : Value → Shared → Prop} {D : Addr} {xs : List V} {y : V} {v : Value} {Q : Value → Shared → Prop} (I : Inv X pins σ H s) (hD : H D = some (.lst xs)) (hz : xs.length < sizeLine) (r : RelV y v)
    (h : ∀ s', Inv X pins σ (upd H D (.lst (xs ++ [y]))) s' → Q .none s') : wpAny (model X.prog X.w) X.A (call (.builtin "list.append") [.ref D, v]) Q E s := by
  obtain ⟨hz', its, n, ri, e⟩ := I.hok D _ hD
  have hl := ri.length
  refine append_at (hsz := by rw [List.size_toArray]; omega) e fun h' sb ho' => ?_
  refine h { s with heap := h' } (I.write (t' := s.toks) (by rw [hD]; trivial) (.inl rfl) (fun b u hb q => (sb.2 b hb).trans q) ⟨_, ho'⟩ ⟨by rw [List.length_append]; exact hz, its ++ [v], n + 1, ri.append (.cons r .nil), ?_⟩)
  rw [ho']
  simp

/-- a clause's tests -/
def PTs (X : Cx) (ifs : List Expr) (t : TT) : Prop :=
  ∀ (pins : List (Addr × Obj)) (s : Shared) (σ : St) (H : Hp) (Q : Bool → Hp → Prop), Inv X pins σ H s → t σ H Q →
    wpAny (model X.prog X.w) X.A (forIn ifs true fun c r => if r = true then do let ok ← isTrue c X.env (eval c X.env); pure (ForInStep.yield ok) else pure (ForInStep.yield r)) (TP X pins σ Q) X.xe s
def tYes : TT := fun _ H Q => Q true H
theorem pts_nil : PTs X [] tYes := fun _ _ _ H _ I h => wpAny_tests_nil ⟨H, I, h⟩
theorem pts_one {c : Expr} {t : TT} (h : PT X c t) : PTs X [c] t := fun pins s σ H Q I hw => wpAny_tests_one (h pins s σ H Q I hw)
end

theorem thnF {α : Type} {t : Sem α} {Q Q' : α → Shared → Prop} {M : Model} {A : Around} {E : Value → Shared → Prop} {s : Shared} (h : wpAny M A t Q (fun _ _ => False) s) (hQ : ∀ a s, Q a s → Q' a s) : wpAny M A t Q' E s := wpAny_mono h hQ fun _ _ z => False.elim z

/-- the loop of a list comprehension's block, the target of any form (codeAny_compLoop_tests asks a target that no tuple goes to; statement and proof follow it, PyProof/CompMap.lean:41-61, with the step letOwnedTupleGo kept) -/
theorem compLoop_any {prog : Program} {w : World} {A : Around} {R : Result → Shared → Prop} {s : Shared} {elt target iter : Expr} {ifs : List Expr} {scope : Scope} {pos : Pos} {it acc : Value} {env : Env} (I : Nat → Shared → Prop)
    (turn : ∀ n s, I n s → wpAny (model prog w) A (pyNext it) (fun r s₁ => match r with
      | none => R (.ok .next) s₁
      | some v => wpAny (model prog w) A (letOwnedTupleGo target it v) (fun _ s₁' => wpAny (model prog w) A (assign target env v) (fun _ s₂ =>
          wpAny (model prog w) A (forIn ifs true fun c r => if r = true then do let ok ← isTrue c env (eval c env); pure (ForInStep.yield ok) else pure (ForInStep.yield r)) (fun ok s₃ =>
            if ok = true then wpAny (model prog w) A (eval elt env) (fun x s₄ =>
              wpAny (model prog w) A (call (.builtin "list.append") [acc, x]) (fun _ s₅ => ∃ m, m < n ∧ I m s₅) (notedBy (model prog w) A env fun e s' => R (.error e) s') s₄) (notedBy (model prog w) A env fun e s' => R (.error e) s') s₃
            else ∃ m, m < n ∧ I m s₃) (notedBy (model prog w) A env fun e s' => R (.error e) s') s₂) (notedBy (model prog w) A env fun e s' => R (.error e) s') s₁') (notedBy (model prog w) A env fun e s' => R (.error e) s') s₁) (notedBy (model prog w) A env fun e s' => R (.error e) s') s)
    (n : Nat) (h : I n s) :
    codeAny (model prog w) A (.compLoop (.ListComp elt [⟨target, iter, ifs, 0⟩] scope pos) 0 it acc env) R s := by
  refine codeAny_loop rfl I (fun n s hI => ?_) n h
  show wpAny _ A ((compTurn (.ListComp elt [⟨target, iter, ifs, 0⟩] scope pos) 0 it acc env).onRaise (fun x => do noteFrame x env; theTreesLotGoes x)) _ _ s
  refine wpAny_noted ?_
  rw [compTurn_list]
  refine wpAny_bind (wpAny_standAt (wpAny_bind (wpAny_mono (turn n s hI) (fun r s₁ h₁ => ?_) fun _ _ h' => h')))
  cases r with
  | none => exact wpAny_pure h₁
  | some v =>
    refine wpAny_bind (wpAny_mono h₁ (fun _ s₁' h₁' => ?_) fun _ _ h' => h')
    refine wpAny_bind (wpAny_mono h₁' (fun _ s₂ h₂ => wpAny_bind (wpAny_mono h₂ (fun ok s₃ h₃ => ?_) fun _ _ h' => h')) fun _ _ h' => h')
    cases ok with
    | false => exact wpAny_pure ⟨rfl, h₃⟩
    | true =>
      exact wpAny_bind (wpAny_bind (wpAny_mono h₃ (fun x s₄ h₄ => wpAny_bind (wpAny_mono h₄ (fun _ s₅ h₅ => wpAny_pure (wpAny_pure ⟨rfl, h₅⟩)) fun _ _ h' => h')) fun _ _ h' => h'))

section
variable {X : Cx}
/-- [elt for target in iter if ..]: D the new list; W by the turn and a measure, Nx what a turn is to reach -/
def tLc (wi : TI) (g : TG) (tt : TT) (te : TE) (vs : List Nat) : TE := fun σ H Q => wi σ H fun J H1 => ∀ D, H1 D = none → ∃ W : Nat → Nat → Hp → Prop, (∃ m, W 0 m (upd H1 D (.lst []))) ∧ ∀ i m H, W i m H →
  (J.stop i H ∧ Q (.ref D) H) ∨ (J.go i H ∧ ∃ Nx : Hp → Prop, (∀ H', Nx H' → ∃ m', m' < m ∧ W (i + 1) m' H') ∧ ∀ x H', J.yld i H x H' → g x (wipe σ vs) H' fun σ2 H2 => wipe σ2 vs = wipe σ vs ∧ tt σ2 H2 fun b H3 =>
    if b = true then te σ2 H3 fun y H4 => ∃ acc, H4 D = some (.lst acc) ∧ acc.length < sizeLine ∧ Nx (upd H4 D (.lst (acc ++ [y]))) else Nx H3)
theorem lc_core {pins : List (Addr × Obj)} {s : Shared} {σ : St} {H : Hp} {Q : VK} {elt tg iter : Expr} {ifs : List Expr} {scope : Scope} {own : List (Str × Nat)} {pos pos' : Pos} {wi : TI} {g : TG} {tt : TT} {te : TE} {use : Option (Value → Sem Unit)} {Qf : Value → Shared → Prop}
    (hc : X.calm = true) (hN : X.N.Nodup) (I : Inv X pins σ H s) (hi : PI X tg iter wi) (ok : BlkOk X.N X.env.scope scope own)
    (hg : ∀ (s : Shared) (H : Hp) (C : Addr) (cl : List (Str × Addr)) (fp : List Addr), PG (X.blk s H scope (compEnvC scope cl C X.env) fp) tg g) (ht : ∀ (s : Shared) (H : Hp) (C : Addr) (cl : List (Str × Addr)) (fp : List Addr), PTs (X.blk s H scope (compEnvC scope cl C X.env) fp) ifs tt)
    (he : ∀ (s : Shared) (H : Hp) (C : Addr) (cl : List (Str × Addr)) (fp : List Addr), PE (X.blk s H scope (compEnvC scope cl C X.env) fp) elt te) (hs : ∀ x, foldedSetIterable iter X.env x = pure x)
    (h : tLc wi g tt te (own.map (·.2)) σ H Q)
    (hRR : ∀ D C s' m H', Inv X pins σ H' s' → Q (.ref D) H' → s'.heap.Ns C m → FpOk X pins H' C → compPost (model X.prog X.w) X.A X.xe use Qf (.ref D) C (.ok .next) s') :
    wpAny (model X.prog X.w) X.A (comprehension (.ListComp elt [⟨tg, iter, ifs, 0⟩] scope pos) scope X.env pos' (newList []) false (eval iter X.env) use) Qf X.xe s := by
  have hfree : ∀ y ∈ scope.names, y.2 = .free → ∃ c, X.env.cells.lookup y.1 = some c := fun y hy e => by
    rcases ok.free y hy e with k | k
    · exact I.ok.has _ (.inl k)
    · exact I.ok.has _ (.inr k)
  refine wpAny_comprehension_free (use := use) rfl hs (closure_ok hfree) ok.kind (fun y hy e => by rw [ok.uniq y hy, e])
    (thn (hi pins s σ H _ I h) fun xv s1 hx => thn hx fun itv s2 h2 => ?_)
  obtain ⟨it, fp, tn, J, H2, e, I2, T, st2, f2, q⟩ := h2
  subst e
  refine wpAny_newObj_type (newEnv_comp ?_) (by show 0 ≤ sizeLine; decide)
  generalize hD : s2.heap.objs.size = D
  have hDn : H2 D = none := I2.hok.fresh (Nat.le_of_eq hD)
  obtain ⟨W, ⟨m0, w0⟩, turn⟩ := q D hDn
  -- the new list
  generalize hs3 : ({ s2 with heap := s2.heap.push { cls := .type "list", data := .seq ([] : List Value).toArray } } : Shared) = s3
  have I3 : Inv X pins σ (upd H2 D (.lst [])) s3 := by
    rw [← hs3]
    refine I2.laid (t' := s2.toks) (fun b o e => Heap.get?_push_of_some _ e) (Nat.le_of_eq hD) ⟨Nat.zero_le _, [], 0, .nil, ?_⟩
    rw [← hD]
    exact Heap.get?_push_size _ rfl
  have h3 : s3.heap = s2.heap.push { cls := .type "list", data := .seq ([] : List Value).toArray } := by rw [← hs3]
  have sz : ∀ b ∈ fp, b < s2.heap.objs.size := fun b hb => by
    obtain ⟨o, e, _⟩ := T.obj _ _ st2 b hb
    exact Heap.lt_size e
  have f3 : ∀ b ∈ fp, FpOk X pins (upd H2 D (.lst [])) b ∧ b < s3.heap.objs.size := fun b hb => by
    have hlt := sz b hb
    refine ⟨⟨?_, (f2 b hb).2⟩, by rw [h3, Heap.size_push]; exact Nat.lt_succ_of_lt hlt⟩
    rw [upd_ne (by rw [← hD]; exact Nat.ne_of_lt hlt)]
    exact (f2 b hb).1
  have st3 : tn 0 s3.heap := T.keep _ _ _ st2 fun b _ o e => by rw [h3]; exact Heap.get?_push_of_some _ e
  have I4 := block_start I3 ok hN f3
  have pg := hg s3 (upd H2 D (.lst [])) s3.heap.objs.size (cellsFrom (s3.heap.objs.size + 1) scope.names (cloFrom X.env.cells scope.names [])) fp
  have pt := ht s3 (upd H2 D (.lst [])) s3.heap.objs.size (cellsFrom (s3.heap.objs.size + 1) scope.names (cloFrom X.env.cells scope.names [])) fp
  have pe := he s3 (upd H2 D (.lst [])) s3.heap.objs.size (cellsFrom (s3.heap.objs.size + 1) scope.names (cloFrom X.env.cells scope.names [])) fp
  show codeAny _ _ (.compStart (.ListComp elt [⟨tg, iter, ifs, 0⟩] scope pos) 0 (.ref it) (.ref D) (compEnvC scope (cellsFrom (s3.heap.objs.size + 1) scope.names (cloFrom X.env.cells scope.names [])) s3.heap.objs.size X.env)) (compPost (model X.prog X.w) X.A X.xe use Qf (.ref D) s3.heap.objs.size) { s3 with heap := pushCells (s3.heap.push { cls := .type "dict", data := .dict #[] }) scope.names }
  have nfp : ∀ b ∈ fp, (upd H2 D (.lst [])) b = none := fun b hb => (f3 b hb).1.1
  generalize hce : compEnvC scope (cellsFrom (s3.heap.objs.size + 1) scope.names (cloFrom X.env.cells scope.names [])) s3.heap.objs.size X.env = ce at I4 pg pt pe ⊢
  have cL : ce.locals = s3.heap.objs.size := by subst hce; rfl
  generalize hH3 : upd H2 D (.lst []) = H3 at I3 I4 pg pt pe w0 nfp f3
  generalize hs4 : ({ s3 with heap := pushCells (s3.heap.push { cls := .type "dict", data := .dict #[] }) scope.names } : Shared) = s4 at I4 ⊢
  have st4 : tn 0 s4.heap := T.keep _ _ _ st3 fun b _ o e => by rw [← hs4]; exact pushCells_keeps _ _ _ _ (Heap.get?_push_of_some _ e)
  have stat : ∀ {σ' : St} {H' : Hp} {s' : Shared}, Inv (X.blk s3 H3 scope ce fp) [] σ' H' s' → (∀ b ∈ fp, H' b = none) → ∀ b ∈ fp, FpOk (X.blk s3 H3 scope ce fp) [] H' b := fun {σ' H' s'} I' hn b hb =>
    ⟨hn b hb, (I'.ok.exf b hb).1, I'.ok.exfs b hb, .inl hb, fun x c e => (I'.ok.exf b hb).2 x c e, fun p hp => absurd (show p ∈ ([] : List (Addr × Obj)) ++ [] from hp) (by simp)⟩
  have loop : codeAny (model X.prog X.w) X.A (.compLoop (.ListComp elt [⟨tg, iter, ifs, 0⟩] scope pos) 0 (.ref it) (.ref D) ce) (compPost (model X.prog X.w) X.A X.xe use Qf (.ref D) s3.heap.objs.size) s4 := by
    refine compLoop_any (fun n s' => ∃ i H', Inv (X.blk s3 H3 scope ce fp) [] (wipe σ (own.map (·.2))) H' s' ∧ tn i s'.heap ∧ (∀ b ∈ fp, H' b = none) ∧ W i n H') ?_ m0 ⟨0, H3, I4, st4, nfp, w0⟩
    rintro n s5 ⟨i, H5, I5, st5, n5, w5⟩
    rcases turn i n H5 w5 with ⟨stop, qq⟩ | ⟨go, Nx, hNx, step⟩
    · have td := T.done (X.blk s3 H3 scope ce fp) rfl rfl rfl hc i [] s5 _ H5 (fun _ _ => False) I5 (stat I5 n5) st5 stop
      refine thnF td fun r s6 ⟨hr, I6⟩ => ?_
      subst hr
      -- back in the def's context
      have I7 : Inv X pins σ H5 s6 := I3.call' (ch := fp) I6.os I6.base I6.hok I6.bare fun b hb => ⟨(f3 b hb).1.2.2.2.1, (f3 b hb).1.2.1, (f3 b hb).1.2.2.2.2.1, (f3 b hb).1.2.2.2.2.2⟩
      have nC : H5 s3.heap.objs.size = none := by
        have z : H5 ce.locals = none := I6.free
        rw [cL] at z
        exact z
      obtain ⟨m, hn, _⟩ := I6.loc
      have hn : s6.heap.Ns ce.locals m := hn
      rw [cL] at hn
      exact hRR D s3.heap.objs.size s6 m H5 I7 qq hn (I3.fpOk (Nat.le_refl _) nC)
    · have ti := T.item (X.blk s3 H3 scope ce fp) rfl rfl rfl hc i [] s5 _ H5 (fun _ _ => False) I5 (stat I5 n5) st5 go
      refine thnF ti fun r s6 ⟨u, hr, h6⟩ => ?_
      subst hr
      refine thnF h6 fun _ s7 ⟨x, H7, I7, r7, y7, st7, n7⟩ => ?_
      have I7' := I7.pinned (stat I7 n7) (T.obj _ _ st7)
      refine thnF (pg _ s7 _ H7 x u _ I7' r7 (step x H7 y7)) fun _ s8 ⟨σ8, H8, I8, hw8, q8⟩ => ?_
      refine thnF (pt _ s8 σ8 H8 _ I8 q8) fun b s9 ⟨H9, I9, q9⟩ => ?_
      -- the turn's end
      have fin : ∀ {s' : Shared} {H' : Hp}, Inv (X.blk s3 H3 scope ce fp) ([] ++ pinsAt fp s7.heap) σ8 H' s' → Nx H' → ∃ m, m < n ∧ ∃ i H', Inv (X.blk s3 H3 scope ce fp) [] (wipe σ (own.map (·.2))) H' s' ∧ tn i s'.heap ∧ (∀ b ∈ fp, H' b = none) ∧ W i m H' := fun {s' H'} I' nx => by
        obtain ⟨m', hm, w'⟩ := hNx H' nx
        have pin' : ∀ b ∈ fp, ∀ o, s7.heap.get? b = some o → s'.heap.get? b = some o ∧ H' b = none := fun b hb o e =>
          let z := I'.pin (b, o) (List.mem_append_right _ (List.mem_append_right _ (mem_pinsAt hb e)))
          ⟨z.1, z.2.1⟩
        have hl : (wipe σ (own.map (·.2))).length = σ8.length := by rw [← hw8, wipe_length]
        refine ⟨m', hm, i + 1, H', (I'.unpinned (pins := [])).weak hl (fun j v e => ?_), T.keep _ _ _ st7 fun b hb o e => (pin' b hb o e).1, fun b hb => ?_, w'⟩
        · rw [← hw8] at e
          exact (wipe_some e).1
        · obtain ⟨o, e, _⟩ := T.obj _ _ st7 b hb
          exact (pin' b hb o e).2
      cases b with
      | false =>
        simp only [Bool.false_eq_true, if_false] at q9 ⊢
        exact fin I9 q9
      | true =>
        simp only [if_true] at q9 ⊢
        refine thnF (pe _ s9 σ8 H9 _ I9 q9) fun z s10 ⟨yv, H10, I10, r10, acc, hD10, hz10, nx⟩ => ?_
        exact app_ok (X := X.blk s3 H3 scope ce fp) I10 hD10 hz10 r10 fun s11 I11 => fin I11 nx
  exact codeAny_compStart_list loop (T.self X.A 0 _ _ _ st4 loop)
/-- as a value -/
theorem pe_lc {elt tg iter : Expr} {ifs : List Expr} {scope : Scope} {own : List (Str × Nat)} {pos : Pos} {wi : TI} {g : TG} {tt : TT} {te : TE} (hc : X.calm = true) (hN : X.N.Nodup) (hi : PI X tg iter wi) (ok : BlkOk X.N X.env.scope scope own)
    (hg : ∀ (s : Shared) (H : Hp) (C : Addr) (cl : List (Str × Addr)) (fp : List Addr), PG (X.blk s H scope (compEnvC scope cl C X.env) fp) tg g) (ht : ∀ (s : Shared) (H : Hp) (C : Addr) (cl : List (Str × Addr)) (fp : List Addr), PTs (X.blk s H scope (compEnvC scope cl C X.env) fp) ifs tt)
    (he : ∀ (s : Shared) (H : Hp) (C : Addr) (cl : List (Str × Addr)) (fp : List Addr), PE (X.blk s H scope (compEnvC scope cl C X.env) fp) elt te) (hs : ∀ x, foldedSetIterable iter X.env x = pure x := by intro _; rfl) :
    PE X (.ListComp elt [⟨tg, iter, ifs, 0⟩] scope pos) (tLc wi g tt te (own.map (·.2))) := by
  intro pins s σ H Q I h
  rw [eval_ListComp]
  refine lc_core hc hN I hi ok hg ht he hs h fun D C s' m H' I' q hn f => ⟨m, hn, fun h'' sb => ?_⟩
  obtain ⟨f0, f1, f2, f3, f4, f5⟩ := f
  exact ⟨.ref D, H', I'.turned (t' := s'.toks) (fun b o hb e => (sb.2 b hb).trans e) f0 f1 f3 f4 f5, rfl, q⟩
/-- name = [..] on one line, the name a local -/
theorem ps_setLc {i : Nat} {y : Str} {py : Pos} {elt tg iter : Expr} {ifs : List Expr} {scope : Scope} {own : List (Str × Nat)} {pos spos : Pos} {wi : TI} {g : TG} {tt : TT} {te : TE} (hc : X.calm = true) (hN : X.N.Nodup) (hy : X.N[i]? = some y) (hyl : X.env.scope.names.lookup y = some .local)
    (hsw : swapsWith (.ListComp elt [⟨tg, iter, ifs, 0⟩] scope pos) (some (.Name y py)) spos.line X.env = pure true) (hi : PI X tg iter wi) (ok : BlkOk X.N X.env.scope scope own)
    (hg : ∀ (s : Shared) (H : Hp) (C : Addr) (cl : List (Str × Addr)) (fp : List Addr), PG (X.blk s H scope (compEnvC scope cl C X.env) fp) tg g) (ht : ∀ (s : Shared) (H : Hp) (C : Addr) (cl : List (Str × Addr)) (fp : List Addr), PTs (X.blk s H scope (compEnvC scope cl C X.env) fp) ifs tt)
    (he : ∀ (s : Shared) (H : Hp) (C : Addr) (cl : List (Str × Addr)) (fp : List Addr), PE (X.blk s H scope (compEnvC scope cl C X.env) fp) elt te) (hs : ∀ x, foldedSetIterable iter X.env x = pure x := by intro _; rfl) :
    PS X (.Assign [.Name y py] (.ListComp elt [⟨tg, iter, ifs, 0⟩] scope pos) spos) (tAsg (tLc wi g tt te (own.map (·.2))) (gName i)) := by
  intro pins s σ H D I h
  rw [exec_Assign_Name_used _ _ _ _ hsw]
  refine wpAny_bind (wpAny_standAt (wpAny_bind ?_))
  show wpAny _ X.A (do let _ ← comprehension (.ListComp elt [⟨tg, iter, ifs, 0⟩] scope pos) scope X.env (firstIterPos [⟨tg, iter, ifs, 0⟩] pos) (newList []) false (eval iter X.env) (some (assign (.Name y py) X.env))) _ _ s
  have h : tLc wi g tt te (own.map (·.2)) σ H (fun x H1 => gName i x σ H1 D.nx) := h
  refine wpAny_bind (thn (lc_core (Qf := fun _ s' => SP X pins D .next s') hc hN I hi ok hg ht he hs h fun L C s' m H' I' q hn f => ?_) fun _ s' hq => wpAny_pure (wpAny_pure hq))
  show wpAny _ _ (assign (.Name y py) X.env (.ref L)) _ _ _
  refine wpAny_assign_Name (store_ok2 (v := V.ref L) I' hN hy (.inl hyl) rfl (fun s2 I2 ⟨a, sb, ha⟩ => ?_) (.inr hyl))
  obtain ⟨f0, f1, f2, f3, f4, f5⟩ := f
  have haC : C ≠ a := by
    rcases ha with z | z
    · rw [z]; exact f1
    · exact fun e => f4 y a z e.symm
  refine ⟨m, hn.sameBut sb haC, fun h3 sb3 => ?_⟩
  exact ⟨_, H', I2.turned (t' := s2.toks) (fun b o hb e => (sb3.2 b hb).trans e) f0 f1 f3 f4 f5, q⟩
theorem sw_true {elt : Expr} {gs : List Comprehension} {scope : Scope} {pos py : Pos} {y : Str} {l : Nat} {env : Env} (hk : env.scope.kind = .function) (hy : env.scope.names.lookup y = some .local) (hl : (py.line == pos.line) = true)
    (ha : (scope.names.any fun (n, k) => n == y && (k == .local || k == .cell)) = false) : swapsWith (.ListComp elt gs scope pos) (some (.Name y py)) l env = pure true := by
  have ky : env.kindOf y = some .local := hy
  have hb : env.blockKind = .function := by unfold Env.blockKind; rw [hk]; rfl
  unfold swapsWith
  simp only [hb, ky, ha, Expr.pos, hl]
  rfl
end

/-! ### the forms one uses -/
/-- over a range: Pv by the turn and the heap (the new list at D within) -/
theorem lc_range {lo : Int} {n : Nat} {g : TG} {tt : TT} {te : TE} {vs : List Nat} {σ : St} {H1 : Hp} {D : Addr} {Qd : Hp → Prop} (Pv : Nat → Hp → Prop) (h0 : Pv 0 (upd H1 D (.lst [])))
    (hs : ∀ i H, i < n → Pv i H → g (.int (lo + i)) (wipe σ vs) H fun σ2 H2 => wipe σ2 vs = wipe σ vs ∧ tt σ2 H2 fun b H3 =>
      if b = true then te σ2 H3 fun y H4 => ∃ acc, H4 D = some (.lst acc) ∧ acc.length < sizeLine ∧ Pv (i + 1) (upd H4 D (.lst (acc ++ [y]))) else Pv (i + 1) H3) (hd : ∀ H, Pv n H → Qd H) :
    ∃ W : Nat → Nat → Hp → Prop, (∃ m, W 0 m (upd H1 D (.lst []))) ∧ ∀ i m H, W i m H →
      ((Itr lo n).stop i H ∧ Qd H) ∨ ((Itr lo n).go i H ∧ ∃ Nx : Hp → Prop, (∀ H', Nx H' → ∃ m', m' < m ∧ W (i + 1) m' H') ∧ ∀ x H', (Itr lo n).yld i H x H' → g x (wipe σ vs) H' fun σ2 H2 => wipe σ2 vs = wipe σ vs ∧ tt σ2 H2 fun b H3 =>
        if b = true then te σ2 H3 fun y H4 => ∃ acc, H4 D = some (.lst acc) ∧ acc.length < sizeLine ∧ Nx (upd H4 D (.lst (acc ++ [y]))) else Nx H3) := by
  refine ⟨fun i m H => m = n - i ∧ i ≤ n ∧ Pv i H, ⟨n, by simp, Nat.zero_le _, h0⟩, ?_⟩
  rintro i m H ⟨rfl, hi, p⟩
  by_cases hlt : i < n
  · refine .inr ⟨hlt, Pv (i + 1), fun H' p' => ⟨n - (i + 1), by omega, rfl, hlt, p'⟩, fun x H' y => ?_⟩
    obtain ⟨e, y⟩ := y
    subst e y
    exact hs i _ hlt p
  · have e : i = n := by omega
    subst e
    exact .inl ⟨Nat.le_refl _, hd H p⟩
/-- over a list that the block leaves as it is -/
theorem lc_list {K : PySem.W.Frag} {a : Addr} {xs : List V} {g : TG} {tt : TT} {te : TE} {vs : List Nat} {σ : St} {H1 : Hp} {D : Addr} {Qd : Hp → Prop} (Pv : Nat → Hp → Prop) (h0 : Pv 0 (upd H1 D (.lst []))) (hl : ∀ i H, i ≤ xs.length → Pv i H → SqL K H a xs)
    (hs : ∀ i x H, xs[i]? = some x → Pv i H → g x (wipe σ vs) H fun σ2 H2 => wipe σ2 vs = wipe σ vs ∧ tt σ2 H2 fun b H3 =>
      if b = true then te σ2 H3 fun y H4 => ∃ acc, H4 D = some (.lst acc) ∧ acc.length < sizeLine ∧ Pv (i + 1) (upd H4 D (.lst (acc ++ [y]))) else Pv (i + 1) H3) (hd : ∀ H, Pv xs.length H → Qd H) :
    ∃ W : Nat → Nat → Hp → Prop, (∃ m, W 0 m (upd H1 D (.lst []))) ∧ ∀ i m H, W i m H →
      ((Itl K a).stop i H ∧ Qd H) ∨ ((Itl K a).go i H ∧ ∃ Nx : Hp → Prop, (∀ H', Nx H' → ∃ m', m' < m ∧ W (i + 1) m' H') ∧ ∀ x H', (Itl K a).yld i H x H' → g x (wipe σ vs) H' fun σ2 H2 => wipe σ2 vs = wipe σ vs ∧ tt σ2 H2 fun b H3 =>
        if b = true then te σ2 H3 fun y H4 => ∃ acc, H4 D = some (.lst acc) ∧ acc.length < sizeLine ∧ Nx (upd H4 D (.lst (acc ++ [y]))) else Nx H3) := by
  refine ⟨fun i m H => m = xs.length - i ∧ i ≤ xs.length ∧ Pv i H, ⟨xs.length, by simp, Nat.zero_le _, h0⟩, ?_⟩
  rintro i m H ⟨rfl, hi, p⟩
  have q := hl i H hi p
  by_cases hlt : i < xs.length
  · refine .inr ⟨⟨xs, xs[i], q, by simp [hlt]⟩, Pv (i + 1), fun H' p' => ⟨xs.length - (i + 1), by omega, rfl, hlt, p'⟩, fun x H' y => ?_⟩
    obtain ⟨e, y⟩ := y
    subst e
    exact hs i x _ (y xs q) p
  · have e : i = xs.length := by omega
    subst e
    exact .inl ⟨⟨xs, q, Nat.le_refl _⟩, hd H p⟩
def blkC (N : List Str) (sc scope : Scope) (own : List (Str × Nat)) : Bool :=
  (match scope.kind with | .function => true | _ => false) && (scope.names.all fun y => decide (scope.names.lookup y.1 = some y.2)) && (own.all fun p => decide (N[p.2]? = some p.1)) &&
    (scope.names.all fun y => match y.2 with
      | .free => (match sc.names.lookup y.1 with | some .cell => true | some .free => true | _ => false)
      | .local => decide (y.1 ∈ own.map (·.1)) || decide (y.1 ∉ N)
      | .cell => decide (y.1 ∈ own.map (·.1)) || decide (y.1 ∉ N)
      | _ => true)
theorem blkOk_by {N : List Str} {sc scope : Scope} {own : List (Str × Nat)} (h : blkC N sc scope own = true) : BlkOk N sc scope own := by
  unfold blkC at h
  simp only [Bool.and_eq_true, List.all_eq_true, decide_eq_true_eq] at h
  obtain ⟨⟨⟨h1, h2⟩, h3⟩, h4⟩ := h
  refine ⟨?_, h2, h3, fun y hy e => ?_, fun y hy e => ?_⟩
  · split at h1
    · assumption
    · cases h1
  · have q := h4 y hy
    simp only [e] at q
    split at q <;> first | exact .inl (by assumption) | exact .inr (by assumption) | cases q
  · have q := h4 y hy
    rcases e with e | e <;> (simp only [e, Bool.or_eq_true, decide_eq_true_eq] at q; exact q)
end L2

namespace L2
open PySem PySem.Spec PyProof.Rows

theorem compTurn2_out (elt t0 i0 t1 i1 : Expr) (ifs0 ifs1 : List Expr) (scope : Scope) (pos : Pos) (it acc : Value) (env : Env) :
    compTurn (.ListComp elt [⟨t0, i0, ifs0, 0⟩, ⟨t1, i1, ifs1, 0⟩] scope pos) 0 it acc env = (do
      standAt i0.pos
      match ← pyNext it with
      | none => pure (.done .next)
      | some v =>
        letOwnedTupleGo t0 it v
        assign t0 env v
        let mut ok := true
        for c in ifs0 do
          if ok then ok ← isTrue c env (eval c env)
        if ok then
          let x ← eval i1 env
          standAt i1.pos
          let x ← foldedSetIterable i1 env x
          let _ ← runOwn (.compStart (.ListComp elt [⟨t0, i0, ifs0, 0⟩, ⟨t1, i1, ifs1, 0⟩] scope pos) 1 (← holding [x] (pyIter x)) acc env) env
        again (.compLoop (.ListComp elt [⟨t0, i0, ifs0, 0⟩, ⟨t1, i1, ifs1, 0⟩] scope pos) 0 it acc env)) := by rfl

section
variable {prog : Program} {w : World} {A : Around} {R : Result → Shared → Prop} {s : Shared} {elt t0 i0 t1 i1 : Expr} {ifs0 ifs1 : List Expr} {scope : Scope} {pos : Pos} {it acc : Value} {env : Env}
/-- the loop of the first clause -/
theorem compLoop2_out (hs : ∀ x, foldedSetIterable i1 env x = pure x) (I : Nat → Shared → Prop)
    (turn : ∀ n s, I n s → wpAny (model prog w) A (pyNext it) (fun r s₁ => match r with
      | none => R (.ok .next) s₁
      | some v => wpAny (model prog w) A (letOwnedTupleGo t0 it v) (fun _ s₁' => wpAny (model prog w) A (assign t0 env v) (fun _ s₂ =>
          wpAny (model prog w) A (forIn ifs0 true fun c r => if r = true then do let ok ← isTrue c env (eval c env); pure (ForInStep.yield ok) else pure (ForInStep.yield r)) (fun ok s₃ =>
            if ok = true then wpAny (model prog w) A (eval i1 env) (fun x s₄ => wpAny (model prog w) A (pyIter x) (fun it1 s₅ =>
              codeAny (model prog w) A (.compStart (.ListComp elt [⟨t0, i0, ifs0, 0⟩, ⟨t1, i1, ifs1, 0⟩] scope pos) 1 it1 acc env) (fun r s' => match r with
                | .ok _ => ∃ m, m < n ∧ I m s'
                | .error _ => False) s₅) (notedBy (model prog w) A env fun e s' => R (.error e) s') s₄) (notedBy (model prog w) A env fun e s' => R (.error e) s') s₃
            else ∃ m, m < n ∧ I m s₃) (notedBy (model prog w) A env fun e s' => R (.error e) s') s₂) (notedBy (model prog w) A env fun e s' => R (.error e) s') s₁') (notedBy (model prog w) A env fun e s' => R (.error e) s') s₁) (notedBy (model prog w) A env fun e s' => R (.error e) s') s)
    (n : Nat) (h : I n s) :
    codeAny (model prog w) A (.compLoop (.ListComp elt [⟨t0, i0, ifs0, 0⟩, ⟨t1, i1, ifs1, 0⟩] scope pos) 0 it acc env) R s := by
  refine codeAny_loop rfl I (fun n s hI => ?_) n h
  show wpAny _ A ((compTurn (.ListComp elt [⟨t0, i0, ifs0, 0⟩, ⟨t1, i1, ifs1, 0⟩] scope pos) 0 it acc env).onRaise (fun x => do noteFrame x env; theTreesLotGoes x)) _ _ s
  refine wpAny_noted ?_
  rw [compTurn2_out]
  refine wpAny_bind (wpAny_standAt (wpAny_bind (wpAny_mono (turn n s hI) (fun r s₁ h₁ => ?_) fun _ _ h' => h')))
  cases r with
  | none => exact wpAny_pure h₁
  | some v =>
    refine wpAny_bind (wpAny_mono h₁ (fun _ s₁' h₁' => ?_) fun _ _ h' => h')
    refine wpAny_bind (wpAny_mono h₁' (fun _ s₂ h₂ => wpAny_bind (wpAny_mono h₂ (fun ok s₃ h₃ => ?_) fun _ _ h' => h')) fun _ _ h' => h')
    cases ok with
    | false => exact wpAny_pure ⟨rfl, h₃⟩
    | true =>
      refine wpAny_bind (wpAny_mono h₃ (fun x s₄ h₄ => ?_) fun _ _ h' => h')
      refine wpAny_bind (wpAny_standAt (wpAny_bind (wpAny_of_eq (hs x) (wpAny_bind (wpAny_holding (wpAny_mono h₄ (fun it1 s₅ h₅ => ?_) fun _ _ h' => h'))))))
      refine wpAny_bind (wpAny_runOwn ?_)
      rw [Around.mark_none]
      refine codeAny_mono h₅ fun r s' hr => ?_
      cases r with
      | ok f =>
        first
          | exact wpAny_pure ⟨rfl, hr⟩
          | exact wpAny_bind (wpAny_pure (wpAny_pure ⟨rfl, hr⟩))
      | error e => exact hr.elim
end

section
variable {X : Cx}
/-- [elt for tg in iter if .. for tg1 in iter1 if ..]: behind the first clause's store and tests the second source's own loop, from which Nx is reached. vs: the block's names; vs1: those of the second target -/
def tLc2 (wi : TI) (g : TG) (tt : TT) (wi1 : TI) (g1 : TG) (tt1 : TT) (te : TE) (vs vs1 : List Nat) : TE := fun σ H Q => wi σ H fun J H1 => ∀ D, H1 D = none → ∃ W : Nat → Nat → Hp → Prop, (∃ m, W 0 m (upd H1 D (.lst []))) ∧ ∀ i m H, W i m H →
  (J.stop i H ∧ Q (.ref D) H) ∨ (J.go i H ∧ ∃ Nx : Hp → Prop, (∀ H', Nx H' → ∃ m', m' < m ∧ W (i + 1) m' H') ∧ ∀ x H', J.yld i H x H' → g x (wipe σ vs) H' fun σ2 H2 => wipe σ2 vs = wipe σ vs ∧ tt σ2 H2 fun b H3 =>
    if b = true then wi1 σ2 H3 fun J1 H4 => ∃ W1 : Nat → Nat → Hp → Prop, (∃ m, W1 0 m H4) ∧ ∀ j k H, W1 j k H →
      (J1.stop j H ∧ Nx H) ∨ (J1.go j H ∧ ∃ Nx1 : Hp → Prop, (∀ H', Nx1 H' → ∃ k', k' < k ∧ W1 (j + 1) k' H') ∧ ∀ x H', J1.yld j H x H' → g1 x (wipe σ2 vs1) H' fun σ3 H5 => wipe σ3 vs1 = wipe σ2 vs1 ∧ tt1 σ3 H5 fun b H6 =>
        if b = true then te σ3 H6 fun y H7 => ∃ acc, H7 D = some (.lst acc) ∧ acc.length < sizeLine ∧ Nx1 (upd H7 D (.lst (acc ++ [y]))) else Nx1 H6)
    else Nx H3)
end
end L2

namespace L2
open PySem PySem.Spec PyProof.Rows

/-! ### lists of pairs as tables -/
section
variable {κ : Type} [DecidableEq κ]
def valV (kvs : List (κ × V)) (k : κ) : Option V := (kvs.find? fun kv => decide (kv.1 = k)).map (·.2)
/-- in its place, or at the end -/
def putK (kvs : List (κ × V)) (k : κ) (v : V) : List (κ × V) :=
  if (kvs.any fun kv => decide (kv.1 = k)) = true then kvs.map (fun kv => if kv.1 = k then (kv.1, v) else kv) else kvs ++ [(k, v)]
def dropK (kvs : List (κ × V)) (k : κ) : List (κ × V) := kvs.filter fun kv => decide (kv.1 ≠ k)

theorem valV_nil {k : κ} : valV ([] : List (κ × V)) k = none := rfl
theorem valV_pos {p : κ × V} {r : List (κ × V)} {k : κ} (e : p.1 = k) : valV (p :: r) k = some p.2 := by simp [valV, List.find?_cons, e]
theorem valV_neg {p : κ × V} {r : List (κ × V)} {k : κ} (e : ¬ p.1 = k) : valV (p :: r) k = valV r k := by simp [valV, List.find?_cons, e]
theorem valV_any (k : κ) : ∀ kvs : List (κ × V), (kvs.any fun kv => decide (kv.1 = k)) = (valV kvs k).isSome
  | [] => rfl
  | p :: r => by
    rw [List.any_cons]
    by_cases e : p.1 = k
    · simp only [valV_pos e, decide_eq_true e, Bool.true_or, Option.isSome_some]
    · rw [valV_neg e, decide_eq_false e, Bool.false_or]; exact valV_any k r
theorem valV_map (k j : κ) (y : V) : ∀ kvs : List (κ × V), valV (kvs.map fun kv => if kv.1 = k then (kv.1, y) else kv) j = (valV kvs j).map fun x => if j = k then y else x
  | [] => rfl
  | p :: r => by
    have ih := valV_map k j y r
    rw [List.map_cons]
    by_cases h : p.1 = k
    · rw [if_pos h]
      by_cases e : p.1 = j
      · rw [valV_pos (p := (p.1, y)) e, valV_pos e, Option.map_some, if_pos (e.symm.trans h)]
      · rw [valV_neg (p := (p.1, y)) e, valV_neg e, ih]
    · rw [if_neg h]
      by_cases e : p.1 = j
      · rw [valV_pos (p := p) e, valV_pos e, Option.map_some, if_neg (fun z => h (e.trans z))]
      · rw [valV_neg (p := p) e, valV_neg e, ih]
theorem valV_snoc (k j : κ) (y : V) : ∀ kvs : List (κ × V), valV kvs k = none → valV (kvs ++ [(k, y)]) j = if j = k then some y else valV kvs j
  | [], _ => by
    by_cases e : k = j
    · rw [if_pos e.symm]; exact valV_pos (p := (k, y)) e
    · rw [if_neg (fun z => e z.symm)]; exact valV_neg (p := (k, y)) e
  | p :: r, hn => by
    rw [List.cons_append]
    have hk : ¬ p.1 = k := fun z => by rw [valV_pos z] at hn; cases hn
    rw [valV_neg hk] at hn
    have ih := valV_snoc k j y r hn
    by_cases e : p.1 = j
    · rw [valV_pos e, valV_pos e, if_neg (fun z => hk (e.trans z))]
    · rw [valV_neg e, valV_neg e, ih]
theorem valV_put (kvs : List (κ × V)) (k j : κ) (y : V) : valV (putK kvs k y) j = if j = k then some y else valV kvs j := by
  unfold putK
  by_cases a : (kvs.any fun kv => decide (kv.1 = k)) = true
  · rw [if_pos a, valV_map]
    rw [valV_any] at a
    by_cases e : j = k
    · obtain ⟨x, hx⟩ := Option.isSome_iff_exists.mp a
      rw [if_pos e, e, hx, Option.map_some, if_pos rfl]
    · rw [if_neg e]
      cases valV kvs j with
      | none => rfl
      | some x => rw [Option.map_some, if_neg e]
  · rw [if_neg a]
    refine valV_snoc k j y kvs ?_
    rw [valV_any] at a
    cases q : valV kvs k with
    | none => rfl
    | some x => rw [q] at a; exact (a rfl).elim
theorem putK_new {kvs : List (κ × V)} {k : κ} (v : V) (h : valV kvs k = none) : putK kvs k v = kvs ++ [(k, v)] := by
  unfold putK
  rw [valV_any, h]
  exact if_neg (by decide)

theorem RelO.isSome_eq {o : Option V} {u : Option Value} (r : RelO o u) : o.isSome = u.isSome := by
  cases o with
  | none => cases u with
    | none => rfl
    | some _ => exact (show False from r).elim
  | some _ => cases u with
    | none => exact (show False from r).elim
    | some _ => rfl
theorem RelO.getD {o : Option V} {u : Option Value} {d : V} {d' : Value} (r : RelO o u) (rd : RelV d d') : RelV (o.getD d) (u.getD d') := by
  cases o with
  | none => cases u with
    | none => exact rd
    | some _ => exact (show False from r).elim
  | some _ => cases u with
    | none => exact (show False from r).elim
    | some _ => exact r

/-- raw tables of the same keys -/
theorem KV.val {kvs : List (κ × V)} {vs : List (κ × Value)} (r : KV kvs vs) (k : κ) : RelO (valV kvs k) (valueAt vs k) := by
  unfold KV at r
  induction r with
  | nil => exact True.intro
  | @cons p q ps qs h t ih =>
    obtain ⟨h1, h2⟩ := h
    by_cases e : p.1 = k
    · have e' : q.1 = k := h1.symm.trans e
      have b : valueAt (q :: qs) k = some q.2 := by simp [valueAt, List.find?_cons, e']
      rw [valV_pos e, b]; exact h2
    · have e' : ¬ q.1 = k := fun z => e (h1.trans z)
      have b : valueAt (q :: qs) k = valueAt qs k := by simp [valueAt, List.find?_cons, e']
      rw [valV_neg e, b]; exact ih
theorem KV.any {kvs : List (κ × V)} {vs : List (κ × Value)} (r : KV kvs vs) (k : κ) : (kvs.any fun kv => decide (kv.1 = k)) = vs.any fun kv => decide (kv.1 = k) := by
  unfold KV at r
  induction r with
  | nil => rfl
  | cons h t ih => rw [List.any_cons, List.any_cons, ih, h.1]
theorem KV.repl {kvs : List (κ × V)} {vs : List (κ × Value)} (r : KV kvs vs) (k : κ) {y : V} {u : Value} (ry : RelV y u) :
    KV (kvs.map fun kv => if kv.1 = k then (kv.1, y) else kv) (vs.map fun kv => if kv.1 = k then (kv.1, u) else kv) := by
  unfold KV at r ⊢
  induction r with
  | nil => exact .nil
  | @cons p q ps qs h t ih =>
    rw [List.map_cons, List.map_cons]
    refine .cons ?_ ih
    obtain ⟨h1, h2⟩ := h
    by_cases e : p.1 = k
    · rw [if_pos e, if_pos (h1.symm.trans e)]; exact ⟨h1, ry⟩
    · rw [if_neg e, if_neg (fun z => e (h1.trans z))]; exact ⟨h1, h2⟩
theorem KV.put {kvs : List (κ × V)} {vs : List (κ × Value)} (r : KV kvs vs) (k : κ) {y : V} {u : Value} (ry : RelV y u) : KV (putK kvs k y) (stored vs k u) := by
  unfold putK stored
  rw [r.any k]
  by_cases e : (vs.any fun kv => decide (kv.1 = k)) = true
  · rw [if_pos e, if_pos e]; exact r.repl k ry
  · rw [if_neg e, if_neg e]; exact Paired.snoc r ⟨rfl, ry⟩
theorem KV.drop {kvs : List (κ × V)} {vs : List (κ × Value)} (r : KV kvs vs) (k : κ) : KV (dropK kvs k) (without vs k) := by
  unfold KV at r ⊢
  unfold dropK without
  induction r with
  | nil => exact .nil
  | @cons p q ps qs h t ih =>
    obtain ⟨h1, h2⟩ := h
    rw [List.filter_cons, List.filter_cons]
    by_cases e : p.1 = k
    · have a : ¬ decide (p.1 ≠ k) = true := by simp [e]
      have b : ¬ decide (q.1 ≠ k) = true := by simp [h1.symm.trans e]
      rw [if_neg a, if_neg b]; exact ih
    · have e' : ¬ q.1 = k := fun z => e (h1.trans z)
      have a : decide (p.1 ≠ k) = true := by simp [e]
      have b : decide (q.1 ≠ k) = true := by simp [e']
      rw [if_pos a, if_pos b]; exact .cons ⟨h1, h2⟩ ih
theorem KV.keys {kvs : List (κ × V)} {vs : List (κ × Value)} (r : KV kvs vs) : kvs.map (·.1) = vs.map (·.1) := by
  unfold KV at r
  induction r with
  | nil => rfl
  | cons h t ih => rw [List.map_cons, List.map_cons, ih, h.1]
theorem KV.length {kvs : List (κ × V)} {vs : List (κ × Value)} (r : KV kvs vs) : kvs.length = vs.length := Paired.length r
end


/-! ### a tracked dict, its keys ints and texts or tuples of these -/

/-- raw entries of a dict with tuple keys -/
abbrev KT (H : Hp) : List (List Key × V) → List (List Key × Addr × Value) → Prop := Paired fun p q => p.1 = q.1 ∧ H q.2.1 = some (.tup (p.1.map kV)) ∧ RelV p.2 q.2.2
theorem KT.val {H : Hp} {kvs : List (List Key × V)} {xs : List (List Key × Addr × Value)} (r : KT H kvs xs) (k : List Key) : RelO (valV kvs k) ((atKey xs k).map (·.2)) := by
  induction r with
  | nil => exact True.intro
  | @cons p q ps qs h t ih =>
    obtain ⟨h1, _, h2⟩ := h
    by_cases e : p.1 = k
    · have e' : q.1 = k := h1.symm.trans e
      have b : atKey (q :: qs) k = some q.2 := by simp [atKey, List.find?_cons, e']
      rw [valV_pos e, b]; exact h2
    · have e' : ¬ q.1 = k := fun z => e (h1.trans z)
      have b : atKey (q :: qs) k = atKey qs k := by simp [atKey, List.find?_cons, e']
      rw [valV_neg e, b]; exact ih
theorem KT.repl {H : Hp} {kvs : List (List Key × V)} {xs : List (List Key × Addr × Value)} (r : KT H kvs xs) (k : List Key) {y : V} {u : Value} (ry : RelV y u) :
    KT H (kvs.map fun kv => if kv.1 = k then (kv.1, y) else kv) (xs.map (putAt k u)) := by
  induction r with
  | nil => exact .nil
  | @cons p q ps qs h t ih =>
    rw [List.map_cons, List.map_cons]
    refine .cons ?_ ih
    obtain ⟨h1, h2, h3⟩ := h
    unfold putAt
    by_cases e : p.1 = k
    · rw [if_pos e, if_pos (h1.symm.trans e)]; exact ⟨h1, h2, ry⟩
    · rw [if_neg e, if_neg (fun z => e (h1.trans z))]; exact ⟨h1, h2, h3⟩
theorem KT.put {H : Hp} {kvs : List (List Key × V)} {xs : List (List Key × Addr × Value)} (r : KT H kvs xs) (k : List Key) {b : Addr} {y : V} {u : Value} (hb : H b = some (.tup (k.map kV))) (ry : RelV y u) :
    KT H (putK kvs k y) (storedH xs k b u) := by
  have e : (kvs.any fun kv => decide (kv.1 = k)) = (atKey xs k).isSome := by
    rw [valV_any, (r.val k).isSome_eq, Option.isSome_map]
  unfold putK storedH
  rw [e]
  by_cases q : (atKey xs k).isSome = true
  · rw [if_pos q, if_pos q]; exact r.repl k ry
  · rw [if_neg q, if_neg q]; exact Paired.snoc r ⟨rfl, hb, ry⟩
theorem KT.keeps {H H' : Hp} {kvs : List (List Key × V)} {xs : List (List Key × Addr × Value)} (r : KT H kvs xs) (ht : ∀ b ys, H b = some (.tup ys) → H' b = some (.tup ys)) : KT H' kvs xs :=
  Paired.mapP r fun _ _ z => ⟨z.1, ht _ _ z.2.1, z.2.2⟩

section
variable {P : Program} {w : World} {H : Hp} {h : Heap} {a : Addr}
end

/-- what the dict at a holds at the key y -/
def DGet (H : Hp) (a : Addr) (y : V) (r : Option V) : Prop :=
  (∃ kvs k, Rd H a (.dK kvs) ∧ y = kV k ∧ r = valV kvs k) ∨ ∃ kvs k b, Rd H a (.dT kvs) ∧ y = .ref b ∧ H b = some (.tup (k.map kV)) ∧ r = valV kvs k
/-- the heap behind a[y] = v -/
def DPut (H : Hp) (a : Addr) (y v : V) (H' : Hp) : Prop :=
  (∃ kvs k, H a = some (.dK kvs) ∧ y = kV k ∧ kvs.length < sizeLine ∧ H' = upd H a (.dK (putK kvs k v))) ∨
  ∃ kvs k b, H a = some (.dT kvs) ∧ y = .ref b ∧ H b = some (.tup (k.map kV)) ∧ kvs.length < sizeLine ∧ H' = upd H a (.dT (putK kvs k v))
theorem DGet.k {H : Hp} {a : Addr} {kvs : List (Key × V)} {k : Key} (e : H a = some (.dK kvs)) : DGet H a (kV k) (valV kvs k) := .inl ⟨kvs, k, .inl e, rfl, rfl⟩
theorem DGet.t {H : Hp} {a b : Addr} {kvs : List (List Key × V)} {k : List Key} (e : H a = some (.dT kvs)) (eb : H b = some (.tup (k.map kV))) : DGet H a (.ref b) (valV kvs k) := .inr ⟨kvs, k, b, .inl e, rfl, eb, rfl⟩
theorem DPut.k {H : Hp} {a : Addr} {kvs : List (Key × V)} {k : Key} {v : V} (e : H a = some (.dK kvs)) (hl : kvs.length < sizeLine) : DPut H a (kV k) v (upd H a (.dK (putK kvs k v))) := .inl ⟨kvs, k, e, rfl, hl, rfl⟩
theorem DPut.t {H : Hp} {a b : Addr} {kvs : List (List Key × V)} {k : List Key} {v : V} (e : H a = some (.dT kvs)) (eb : H b = some (.tup (k.map kV))) (hl : kvs.length < sizeLine) :
    DPut H a (.ref b) v (upd H a (.dT (putK kvs k v))) := .inr ⟨kvs, k, b, e, rfl, eb, hl, rfl⟩


section
variable {X : Cx} {pins : List (Addr × Obj)} {σ : St} {H : Hp} {s : Shared} {a : Addr} {y v : V} {u r : Value} {o : Option V} {A : Around} {E : Value → Shared → Prop}


end

section
variable {X : Cx} {pins : List (Addr × Obj)} {σ : St} {H : Hp} {s : Shared} {a : Addr} {kvs : List (Key × V)} {k : Key} {u : Value} {A : Around} {E : Value → Shared → Prop}
end


/-! ### readings and rules -/
/-- the element of a subscription, not a slice -/
def NoSl (i : Expr) : Prop := ∀ ov iv, subscripted i false ov iv = operate [ov, iv] (getItem ov iv)


/-- d[y] -/
def tDGet (td ty : TE) : TE := fun σ H Q => td σ H fun x H1 => ty σ H1 fun y H2 => ∃ a v, x = .ref a ∧ DGet H2 a y (some v) ∧ Q v H2
/-- y in d, y not in d -/
def tDIn (ty td : TE) : TE := fun σ H Q => ty σ H fun y H1 => td σ H1 fun x H2 => ∃ a o, x = .ref a ∧ DGet H2 a y o ∧ Q (.bl o.isSome) H2
def tDNotIn (ty td : TE) : TE := fun σ H Q => ty σ H fun y H1 => td σ H1 fun x H2 => ∃ a o, x = .ref a ∧ DGet H2 a y o ∧ Q (.bl (!o.isSome)) H2
/-- d[y] = v -/
def sDPut (td ty tv : TE) : TS := fun D σ H => tv σ H fun v H1 => td σ H1 fun x H2 => ty σ H2 fun y H3 => ∃ a H4, x = .ref a ∧ DPut H3 a y v H4 ∧ D.nx σ H4
/-- d[y] op= v -/
def sDAug (td ty tv : TE) (rd : V → V → Hp → VK → Prop) : TS := fun D σ H => td σ H fun x H1 => ty σ H1 fun y H2 => ∃ a v, x = .ref a ∧ DGet H2 a y (some v) ∧
  tv σ H2 fun y2 H3 => rd v y2 H3 fun z H4 => ∃ H5, DPut H4 a y z H5 ∧ D.nx σ H5
/-- del d[y] -/
def sDDel (td ty : TE) : TS := fun D σ H => td σ H fun x H1 => ty σ H1 fun y H2 => ∃ a kvs k, x = .ref a ∧ H2 a = some (.dK kvs) ∧ y = kV k ∧ (valV kvs k).isSome = true ∧ D.nx σ (upd H2 a (.dK (dropK kvs k)))

section
variable {X : Cx} {o i e value : Expr} {pos pos' tpos : Pos} {td ty tv : TE}
end


/-! ### displays -/
/-- {}, to be a dict of the kind that is wanted -/
def tDNewK : TE := fun _ H Q => ∀ p, H p = none → Q (.ref p) (upd H p (.dK []))
def tDNewT : TE := fun _ H Q => ∀ p, H p = none → Q (.ref p) (upd H p (.dT []))
section
variable {X : Cx} {pos : Pos}
end

/-- the pairs of a display, from the left -/
def tPairs : List (TE × TE) → St → Hp → (List (V × V) → Hp → Prop) → Prop
  | [], _, H, Q => Q [] H
  | (tk, tv) :: r, σ, H, Q => tk σ H fun x H1 => tv σ H1 fun y H2 => tPairs r σ H2 fun ps H3 => Q ((x, y) :: ps) H3
abbrev VV : List (V × V) → List (Value × Value) → Prop := Paired fun p q => RelV p.1 q.1 ∧ RelV p.2 q.2
def PPs (X : Cx) (pos : Pos) (keys : List (Option Expr)) (values : List Expr) (trs : List (TE × TE)) : Prop :=
  ∀ (pins : List (Addr × Obj)) (s : Shared) (σ : St) (H : Hp) (Q : List (V × V) → Hp → Prop), Inv X pins σ H s → tPairs trs σ H Q →
    wpAny (model X.prog X.w) X.A (evalPairs (pairTrees keys values X.env pos)) (fun vs s' => ∃ ps H', Inv X pins σ H' s' ∧ VV ps vs ∧ Q ps H') X.xe s

def mergeK (kvs more : List (Key × V)) : List (Key × V) := more.foldl (fun acc kv => putK acc kv.1 kv.2) kvs
theorem KV.merge : ∀ {more : List (Key × V)} {rs : List (Key × Value)} {kvs : List (Key × V)} {vs : List (Key × Value)}, KV more rs → KV kvs vs → KV (mergeK kvs more) (merged vs rs) := by
  intro more rs kvs vs r
  unfold KV at r
  induction r generalizing kvs vs with
  | nil => intro q; exact q
  | @cons p q ps qs h t ih =>
    intro r0
    have e : KV (putK kvs p.1 p.2) (stored vs q.1 q.2) := by
      have := r0.put p.1 h.2
      rw [← h.1]; exact this
    exact ih e
/-- {k: v, ..} with keys ints and texts; the new dict stands empty while the pairs are made -/
def tDisp (trs : List (TE × TE)) : TE := fun σ H Q => ∀ p, H p = none → tPairs trs σ (upd H p (.dK [])) fun ps H2 => H2 p = some (.dK []) ∧ ∃ kvs : List (Key × V), ps = kvs.map (fun kv => (kV kv.1, kv.2)) ∧ kvs.length ≤ 15 ∧ Q (.ref p) (upd H2 p (.dK (mergeK [] kvs)))


/-! ### methods -/
/-- a method call o.m(e) of a built-in, with one argument: what must be seen of the text -/
structure M1 (X : Cx) (o : Expr) (m : Str) (apos : Pos) (e : Expr) (cpos : Pos) : Prop where
  base : attributeBase o m X.env (eval o X.env) = eval o X.env
  few : ((backTo cpos (starEach [e] X.env)).all (fun x => !x.1) && (backToKw cpos (keywordEach [] X.env)).all (fun x => x.1.isSome)
    && decide (([e] : List Expr).length + ([] : List Keyword).length + (if ([] : List Keyword).isEmpty then 0 else 1) < 30)) = true
  line : (apos.endLine == cpos.line) = true
  trees : backTo cpos (starEach [e] X.env) = [(false, eval e X.env)]
structure M2 (X : Cx) (o : Expr) (m : Str) (apos : Pos) (e f : Expr) (cpos : Pos) : Prop where
  base : attributeBase o m X.env (eval o X.env) = eval o X.env
  few : ((backTo cpos (starEach [e, f] X.env)).all (fun x => !x.1) && (backToKw cpos (keywordEach [] X.env)).all (fun x => x.1.isSome)
    && decide (([e, f] : List Expr).length + ([] : List Keyword).length + (if ([] : List Keyword).isEmpty then 0 else 1) < 30)) = true
  line : (apos.endLine == cpos.line) = true
  trees : backTo cpos (starEach [e, f] X.env) = [(false, eval e X.env), (false, eval f X.env)]

/-- a is a dict, whatever its keys -/
def IsD (H : Hp) (a : Addr) : Prop := (∃ kvs, Rd H a (.dK kvs)) ∨ ∃ kvs, Rd H a (.dT kvs)

section
variable {X : Cx} {pins : List (Addr × Obj)} {σ : St} {H : Hp} {s : Shared} {a : Addr} {y d : V} {u r : Value} {o : Option V} {A : Around} {E : Value → Shared → Prop}
end

def tDGet1 (td ty : TE) : TE := fun σ H Q => td σ H fun x H1 => ∃ a, x = .ref a ∧ IsD H1 a ∧ ty σ H1 fun y H2 => ∃ o, DGet H2 a y o ∧ Q (o.getD .non) H2
def tDGet2 (td ty tx : TE) : TE := fun σ H Q => td σ H fun x H1 => ∃ a, x = .ref a ∧ IsD H1 a ∧ ty σ H1 fun y H2 => tx σ H2 fun z H3 => ∃ o, DGet H3 a y o ∧ Q (o.getD z) H3
/-- d.pop(k): there; d.pop(k, x): there or not -/
def tDPop1 (td ty : TE) : TE := fun σ H Q => td σ H fun x H1 => ∃ a, x = .ref a ∧ IsD H1 a ∧ ty σ H1 fun y H2 => ∃ kvs k v, H2 a = some (.dK kvs) ∧ y = kV k ∧ valV kvs k = some v ∧ Q v (upd H2 a (.dK (dropK kvs k)))
def tDPop2 (td ty tx : TE) : TE := fun σ H Q => td σ H fun x H1 => ∃ a, x = .ref a ∧ IsD H1 a ∧ ty σ H1 fun y H2 => tx σ H2 fun z H3 => ∃ kvs k, H3 a = some (.dK kvs) ∧ y = kV k ∧
  (∀ v, valV kvs k = some v → Q v (upd H3 a (.dK (dropK kvs k)))) ∧ (valV kvs k = none → Q z H3)
section
variable {X : Cx} {o e f : Expr} {apos cpos : Pos} {td ty tx : TE}
end

/-! ### dict(d): a copy -/
section
variable {X : Cx} {pins : List (Addr × Obj)} {σ : St} {H : Hp} {s : Shared} {a : Addr} {kvs : List (Key × V)} {A : Around} {E : Value → Shared → Prop}
end


section
variable {X : Cx} {pins : List (Addr × Obj)} {σ : St} {H : Hp} {s : Shared} {a : Addr} {y : V} {u : Value} {A : Around} {E : Value → Shared → Prop}
end
end L2

namespace L2
open PySem PySem.Spec PyProof.Rows


section
variable {prog : Program} {w : World} {A : Around} {E : Value → Shared → Prop}


end

section
variable {X : Cx}
end
end L2

namespace L2
open PySem PySem.Spec PyProof.Rows


section
variable {X : Cx} {pins : List (Addr × Obj)} {σ : St} {H : Hp} {s : Shared} {h' : Heap}
/-- several records of ours have turned -/
theorem Inv.turnedL {t' : Nat} {ch : List Addr} (I : Inv X pins σ H s) (k : ∀ b o, b ∉ ch → s.heap.get? b = some o → h'.get? b = some o) (hf : ∀ b ∈ ch, FpOk X pins H b) : Inv X pins σ H { s with heap := h', toks := t' } := by
  have nit : ∀ b u, H b = some u → b ∉ ch := fun b u e z => by
    have q := (hf b z).1
    rw [q] at e; cases e
  refine I.step (g' := s.gens) (d' := s.drawn) (ch := ch) (fun b hb => ⟨(hf b hb).2.2.2.1, (hf b hb).2.1, (hf b hb).2.2.2.2.1, (hf b hb).2.2.2.2.2⟩) (fun b o _ _ hc e _ => k b o hc e) (fun b o _ _ hc e _ => ⟨o.slots, k b o hc e⟩)
    (fun _ _ _ _ n => n) (fun b o hc e => ⟨o, k b o hc e⟩) (fun _ _ e => e) (fun _ _ _ e => e) (fun b ps e => ⟨#[], by rw [e]; simp⟩) (fun m hm => ?_) (fun b u e => ?_) I.bare
  · obtain ⟨o, es, ep, ho, r⟩ := hm
    exact ⟨o, es, ep, k _ o (fun z => (hf _ z).2.1 rfl) ho, r⟩
  · refine (I.hok b u e).stay (fun c v hc q => k c v ?_ q) (fun _ q => q) fun _ _ q => q
    rcases hc with z | z
    · rw [z]; exact nit b u e
    · exact nit c _ z
/-- .. and one new object is laid -/
theorem Inv.turnedNew {t' : Nat} {ch : List Addr} {T : Addr} {ob : HO} (I : Inv X pins σ H s) (k : ∀ b o, b ∉ ch → s.heap.get? b = some o → h'.get? b = some o) (hf : ∀ b ∈ ch, FpOk X pins H b) (hT : s.heap.objs.size ≤ T)
    (new : ObjOk X.prog X.w (upd H T ob) h' T ob) : Inv X pins σ (upd H T ob) { s with heap := h', toks := t' } := by
  have hn : H T = none := I.hok.fresh hT
  have nit : ∀ b u, H b = some u → b ∉ ch := fun b u e z => by
    have q := (hf b z).1
    rw [q] at e; cases e
  refine I.step (g' := s.gens) (d' := s.drawn) (ch := ch) (fun b hb => ⟨(hf b hb).2.2.2.1, (hf b hb).2.1, (hf b hb).2.2.2.2.1, (hf b hb).2.2.2.2.2⟩) (fun b o _ _ hc e _ => k b o hc e) (fun b o _ _ hc e _ => ⟨o.slots, k b o hc e⟩)
    (fun b o _ e n => ?_) (fun b o hc e => ⟨o, k b o hc e⟩) (fun b xs e => ?_) (fun b o u e => ?_) (fun b ps e => ⟨#[], ?_⟩) (fun m hm => ?_) (fun b u e => ?_) I.bare
  · rw [upd_ne (Nat.ne_of_lt (Nat.lt_of_lt_of_le (Heap.lt_size e) hT))]; exact n
  · rw [upd_ne (ne_of_none e hn)]; exact e
  · rw [upd_ne (ne_of_none e hn)]; exact e
  · rw [upd_ne (ne_of_none e hn), e]; simp
  · obtain ⟨o, es, ep, ho, r⟩ := hm
    exact ⟨o, es, ep, k _ o (fun z => (hf _ z).2.1 rfl) ho, r⟩
  · by_cases hb : b = T
    · subst hb
      rw [upd_same] at e
      cases e
      exact new
    · rw [upd_ne hb] at e
      refine (I.hok b u e).stay (fun c v hc q => k c v ?_ q) (fun c q => by rw [upd_ne (ne_of_none q hn)]; exact q) fun c xs q => by rw [upd_ne (ne_of_none q hn)]; exact q
      rcases hc with z | z
      · rw [z]; exact nit b u e
      · exact nit c _ z

/-! ### locking a thing while a statement runs -/
end
/-- the statement runs while the thing at d is locked (read, not written); d and what stands there are the reading's choice -/
def tLock (t : TS) : TS := fun D σ H => ∃ d u, H d = some u ∧ Mut (some u) ∧ ∀ od, t ⟨fun σ' H' => H' d = some (.frz od u) ∧ D.nx σ' (upd H' d u), fun v H' => H' d = some (.frz od u) ∧ D.rt v (upd H' d u), fun σ' H' => H' d = some (.frz od u) ∧ D.bk σ' (upd H' d u), fun σ' H' => H' d = some (.frz od u) ∧ D.ct σ' (upd H' d u)⟩ σ (upd H d (.frz od u))
def tLockE (t : TE) : TE := fun σ H Q => ∃ d u, H d = some u ∧ Mut (some u) ∧ ∀ od, t σ (upd H d (.frz od u)) fun v H' => H' d = some (.frz od u) ∧ Q v (upd H' d u)
section
variable {X : Cx}

/-! ### one iterator just laid -/
end

/-! ### range with a step -/
/-- lo, lo + c, .. (n of them) -/
def Itc (lo c : Int) (n : Nat) : It := ⟨fun i _ => i < n, fun i H x H' => H' = H ∧ x = .int (lo + (i : Nat) * c), fun i _ => n ≤ i⟩
/-- range(i, j, c): small bounds, n items -/
def RgC (i j c : Int) (n : Nat) : Prop := c ≠ 0 ∧ c.natAbs < 1073741824 ∧ Builtin.Range.small i j c = true ∧ Builtin.Range.rangeSize i j c = n
theorem RgC.neg {i j : Int} (ha : -(2 ^ 62) ≤ i) (ha' : i < 2 ^ 62) (hb : -(2 ^ 62) ≤ j) (hb' : j < 2 ^ 62) : RgC i j (-1) (i - j).toNat :=
  ⟨by decide, by decide, PySem.W.small_down ha ha' hb hb', PySem.W.rangeSize_downNat i j⟩
def iRng3 (ta : TA) : TI := fun σ H R => ta σ H fun vs H1 => ∃ (i j c : Int) (n : Nat), vs = [.int i, .int j, .int c] ∧ RgC i j c n ∧ R (Itc i c n) H1
section
variable {X : Cx} {tg : Expr}
end

/-! ### reversed(list) -/
/-- the list at a (n items at the start, which the loop leaves there), from its end -/
def Itv (K : PySem.W.Frag) (a : Addr) (n : Nat) : It :=
  ⟨fun i H => i < n ∧ ∃ (xs : List V) (x : V), SqL K H a xs ∧ xs[n - 1 - i]? = some x, fun i H x H' => H' = H ∧ ∀ xs, SqL K H a xs → xs[n - 1 - i]? = some x, fun i _ => n ≤ i⟩
def iRev (K : PySem.W.Frag) (ta : TA) : TI := fun σ H R => ta σ H fun vs H1 => ∃ (a : Addr) (xs : List V), vs = [.ref a] ∧ SqL K H1 a xs ∧ R (Itv K a xs.length) H1
section
variable {X : Cx} {tg : Expr}
end

/-! ### a str -/
def Its (x : Str) : It := ⟨fun i _ => i < x.cps.size, fun i H v H' => H' = H ∧ ∃ c, x.cps[i]? = some c ∧ v = .str ⟨#[c]⟩, fun i _ => x.cps.size ≤ i⟩
def iStr (te : TE) : TI := fun σ H R => te σ H fun v H1 => ∃ x, v = .str x ∧ R (Its x) H1

/-! ### a dict's keys: any dict's entries -/
section
variable {prog : Program} {w : World} {A : Around} {E : Value → Shared → Prop} {s : Shared}
end

/-! ### a locked dict -/
section
variable {X : Cx} {pins : List (Addr × Obj)} {σ : St} {H : Hp} {s : Shared} {d : Addr} {o : Obj}
end

/-- the keys of the locked dict at d, in their order -/
def Itk (d : Addr) (o : Obj) (kvs : List (Key × V)) : It :=
  ⟨fun i H => H d = some (.frz o (.dK kvs)) ∧ i < kvs.length, fun i H x H' => H' = H ∧ ∃ k v, kvs[i]? = some (k, v) ∧ x = kV k, fun i H => H d = some (.frz o (.dK kvs)) ∧ kvs.length ≤ i⟩
/-- .. of tuple keys: the key's own tuple -/
def Itkt (d : Addr) (o : Obj) (kvs : List (List Key × V)) : It :=
  ⟨fun i H => H d = some (.frz o (.dT kvs)) ∧ i < kvs.length, fun i H x H' => H' = H ∧ ∃ (k : List Key) (v : V) (q : Addr), kvs[i]? = some (k, v) ∧ x = .ref q ∧ H q = some (.tup (k.map kV)), fun i H => H d = some (.frz o (.dT kvs)) ∧ kvs.length ≤ i⟩
/-- the values -/
def Itd (d : Addr) (o : Obj) (kvs : List (Key × V)) : It :=
  ⟨fun i H => H d = some (.frz o (.dK kvs)) ∧ i < kvs.length, fun i H x H' => H' = H ∧ ∃ k, kvs[i]? = some (k, x), fun i H => H d = some (.frz o (.dK kvs)) ∧ kvs.length ≤ i⟩
/-- the pairs, each a new tuple -/
def Iti (d : Addr) (o : Obj) (kvs : List (Key × V)) : It :=
  ⟨fun i H => H d = some (.frz o (.dK kvs)) ∧ i < kvs.length, fun i H x H' => ∃ T k v, kvs[i]? = some (k, v) ∧ x = .ref T ∧ H T = none ∧ H' = upd H T (.tup [kV k, v]), fun i H => H d = some (.frz o (.dK kvs)) ∧ kvs.length ≤ i⟩
section
variable {P : Program} {w : World} {K : PySem.W.Frag} {tg : Expr} {d : Addr} {o : Obj} {es : Array DictEntry} {ep : Nat}
end

/-! ### for k in d, d.keys(), d.values(), d.items() -/
/-- the dict is locked (tLock, or by the caller) -/
def iKeys (td : TE) : TI := fun σ H R => td σ H fun x H1 => ∃ d o, x = .ref d ∧ ((∃ kvs, H1 d = some (.frz o (.dK kvs)) ∧ R (Itk d o kvs) H1) ∨ ∃ kvs, H1 d = some (.frz o (.dT kvs)) ∧ R (Itkt d o kvs) H1)
def iVals (td : TE) : TI := fun σ H R => td σ H fun x H1 => ∃ d o kvs, x = .ref d ∧ H1 d = some (.frz o (.dK kvs)) ∧ R (Itd d o kvs) H1
def iItems (td : TE) : TI := fun σ H R => td σ H fun x H1 => ∃ d o kvs, x = .ref d ∧ H1 d = some (.frz o (.dK kvs)) ∧ R (Iti d o kvs) H1
def iKeysM (td : TE) : TI := fun σ H R => td σ H fun x H1 => ∃ d o kvs, x = .ref d ∧ H1 d = some (.frz o (.dK kvs)) ∧ R (Itk d o kvs) H1
section
variable {X : Cx} {tg e : Expr} {td : TE} {apos cpos : Pos}
end

/-! ### enumerate(list) -/
/-- the list at a as it stands at each turn, each item in a new pair -/
def Ite (K : PySem.W.Frag) (a : Addr) : It :=
  ⟨fun i H => ∃ (xs : List V) (x : V), SqL K H a xs ∧ xs[i]? = some x, fun i H v H' => ∃ T x, v = .ref T ∧ H T = none ∧ H' = upd H T (.tup [.int (i : Nat), x]) ∧ ∀ xs, SqL K H a xs → xs[i]? = some x, fun i H => ∃ xs : List V, SqL K H a xs ∧ xs.length ≤ i⟩
theorem turn_enum {P : Program} {w : World} {K : PySem.W.Frag} {elts : List Expr} {kk : Nat} {tpos : Pos} (a e it : Addr) :
    Turn P w K (.Tuple elts kk tpos) (Ite K a) [e, it] e (fun i h => (∃ old, IsEnum h e it ((i : Nat) : Int) old) ∧ h.IsListIter it a i ∧ e ≠ it) where
  mem := by simp
  obj := fun i h st b hb => by
    obtain ⟨⟨old, he⟩, ⟨o, ho, hc, hd⟩, _⟩ := st
    have e' : b = e ∨ b = it := by simpa using hb
    rcases e' with z | z
    · rw [z]; exact ⟨_, he, fun v q => nomatch q⟩
    · rw [z]; exact ⟨o, ho, fun v q => by rw [hd] at q; cases q⟩
  keep := fun i h h' st k => let ⟨⟨old, he⟩, hi, hne⟩ := st; ⟨⟨old, k e (by simp) _ he⟩, hi.at fun o q => k it (by simp) o q, hne⟩
  item := by
    intro X hP hw hK hc i pins s σ H E I hf st hg
    subst hP hw hK
    obtain ⟨⟨old, he⟩, hit, hne⟩ := st
    obtain ⟨xs, x, hq, hx⟩ := hg
    obtain ⟨its, rv, p, hz⟩ := I.list hq
    obtain ⟨u, hu, ru⟩ := rv.get hx
    have hel : e < s.heap.objs.size := Heap.lt_size he
    have hil : it < s.heap.objs.size := by obtain ⟨_, q, _⟩ := hit; exact Heap.lt_size q
    refine wpAny_pyNext_enum_item he hit p.isList (x := u) (by simpa using hu) hne fun h' ho hit' hT hsz hk => ?_
    refine ⟨_, rfl, wpAny_letOwnedTupleGo_enum (s := { s with heap := h', toks := s.toks + 1 }) ho fun h'' he' sb => ?_⟩
    have hT2 : h''.get? s.heap.objs.size = some { cls := .type "tuple", data := .seq #[.int i s.toks, u] } := (sb.2 _ (Nat.ne_of_gt hel)).trans hT
    have new : ObjOk X.prog X.w (upd H s.heap.objs.size (.tup [.int (i : Nat), x])) h'' s.heap.objs.size (.tup [.int (i : Nat), x]) :=
      ⟨by show 2 ≤ sizeLine; decide, [.int i s.toks, u], .cons ⟨_, rfl⟩ (.cons ru .nil), ⟨_, hT2, rfl, _, rfl⟩⟩
    have I1 : Inv X pins σ (upd H s.heap.objs.size (.tup [.int (i : Nat), x])) { s with heap := h'', toks := s.toks + 1 } :=
      I.turnedNew (ch := [e, it]) (fun b ob hb q => (sb.2 b (fun z => hb (by simp [z]))).trans (hk b ob (fun z => hb (by simp [z])) (fun z => hb (by simp [z])) q)) hf (Nat.le_refl _) new
    refine ⟨.ref s.heap.objs.size, _, I1, rfl, ⟨_, x, rfl, I.hok.fresh (Nat.le_refl _), rfl, fun ys hy => by rw [I.list_inj hy hq]; exact hx⟩, ⟨⟨u, ?_⟩, hit'.at fun o q => (sb.2 it (Ne.symm hne)).trans q, hne⟩, fun b hb => ?_⟩
    · have e1 : ((i + 1 : Nat) : Int) = (i : Int) + 1 := by omega
      rw [e1]; exact he'
    · have hb' : b < s.heap.objs.size := by
        have e' : b = e ∨ b = it := by simpa using hb
        rcases e' with z | z
        · rw [z]; exact hel
        · rw [z]; exact hil
      rw [upd_ne (Nat.ne_of_lt hb')]
      exact (hf b hb).1
  done := by
    intro X hP hw hK hc i pins s σ H E I hf st hg
    subst hP hw hK
    obtain ⟨⟨old, he⟩, hit, hne⟩ := st
    obtain ⟨xs, hq, hx⟩ := hg
    obtain ⟨its, rv, p, hz⟩ := I.list hq
    obtain ⟨f0, f1, f2, f3, f4, f5⟩ := hf it (by simp)
    have hl := rv.length
    exact wpAny_pyNext_enum_end (I.ok.hd hc) he hit p.isList (by simp; omega) fun h' eb => ⟨rfl, I.turned (t' := s.toks) (fun b o hb q => eb b o hb q) f0 f1 f3 f4 f5⟩
  self := fun A i s Q E st h => let ⟨⟨_, he⟩, _⟩ := st; wpAny_pyIter_enum he h
def iEnum (K : PySem.W.Frag) (ta : TA) : TI := fun σ H R => ta σ H fun vs H1 => ∃ a xs, vs = [.ref a] ∧ SqL K H1 a xs ∧ R (Ite K a) H1
theorem pi_enum {X : Cx} {e : Expr} {ta : TA} {p pos tpos : Pos} {elts : List Expr} {kk : Nat} (hg : Gl X "enumerate") (hm : X.mg "enumerate" = none) (ha : PA X [e] ta) (hs : starEach [e] X.env = [(false, eval e X.env)] := by rfl) :
    PI X (.Tuple elts kk tpos) (.Call (.Name "enumerate" p) [e] [] pos) (iEnum X.K ta) := by
  intro pins s σ H R I h
  refine Call_ (ld_blt I hg hm boot_enumerate (PyProof.Rows.callWith_type1 (thn (ha pos pins s σ H _ I h) fun us s1 ⟨vs, H1, I1, r1, q1⟩ => ?_) hs rfl))
  obtain ⟨a, xs, ex, hq, q⟩ := q1
  subst ex
  cases r1 with
  | cons r rr =>
    cases rr
    cases r
    obtain ⟨its, rv, p', hz⟩ := I1.list hq
    refine call_enumerate_list p'.isList fun h' he hit hsz hk => wpAny_pyIter_enum he ?_
    have I2 : Inv X pins σ H1 { s1 with heap := h' } := I1.kept (t' := s1.toks) hk
    refine ⟨s1.heap.objs.size + 1, [s1.heap.objs.size + 1, s1.heap.objs.size], _, _, H1, rfl, I2, turn_enum a (s1.heap.objs.size + 1) s1.heap.objs.size, ⟨⟨.none, he⟩, hit, Nat.succ_ne_self _⟩, fun b hb => ?_, q⟩
    have e' : b = s1.heap.objs.size + 1 ∨ b = s1.heap.objs.size := by simpa using hb
    have hle : s1.heap.objs.size ≤ b := by
      rcases e' with z | z
      · rw [z]; exact Nat.le_add_right _ _
      · rw [z]; exact Nat.le_refl _
    exact I1.fpOk hle (I1.hok.fresh hle)
/-! ### zip(list, list) -/
theorem boot_zip5 : bootBuiltins "zip" = some (.type "zip") := by decide +kernel
/-- the lists at a and b as they stand at each turn, the items in new pairs -/
def Itz (K : PySem.W.Frag) (a b : Addr) : It :=
  ⟨fun i H => ∃ (xs ys : List V) (x y : V), SqL K H a xs ∧ SqL K H b ys ∧ xs[i]? = some x ∧ ys[i]? = some y,
    fun i H v H' => ∃ T x y, v = .ref T ∧ H T = none ∧ H' = upd H T (.tup [x, y]) ∧ (∀ xs, SqL K H a xs → xs[i]? = some x) ∧ ∀ ys, SqL K H b ys → ys[i]? = some y,
    fun i H => ∃ xs ys : List V, SqL K H a xs ∧ SqL K H b ys ∧ (xs.length ≤ i ∨ ys.length ≤ i)⟩
theorem turn_zip {P : Program} {w : World} {K : PySem.W.Frag} {elts : List Expr} {kk : Nat} {tpos : Pos} {a b z TI TO i1 i2 : Addr} (D : ZipApart z TI TO i1 i2 a b) :
    Turn P w K (.Tuple elts kk tpos) (Itz K a b) [z, TI, TO, i1, i2] z (fun i h => IsZip h z TI TO .none ∧ IsPair h TI (.ref i1) (.ref i2) ∧ (∃ x y, IsPair h TO x y) ∧ h.IsListIter i1 a i ∧ h.IsListIter i2 b i) where
  mem := by simp
  obj := fun i h st c hc => by
    obtain ⟨hz, hTI, ⟨x, y, hTO⟩, ⟨o1, e1, _, d1⟩, ⟨o2, e2, _, d2⟩⟩ := st
    have e' : c = z ∨ c = TI ∨ c = TO ∨ c = i1 ∨ c = i2 := by simpa using hc
    rcases e' with q | q | q | q | q
    · rw [q]; exact ⟨_, hz, fun v q => nomatch q⟩
    · rw [q]; exact ⟨_, hTI, fun v q => nomatch q⟩
    · rw [q]; exact ⟨_, hTO, fun v q => nomatch q⟩
    · rw [q]; exact ⟨o1, e1, fun v q => by rw [d1] at q; cases q⟩
    · rw [q]; exact ⟨o2, e2, fun v q => by rw [d2] at q; cases q⟩
  keep := fun i h h' st k => by
    obtain ⟨hz, hTI, ⟨x, y, hTO⟩, h1, h2⟩ := st
    exact ⟨k z (by simp) _ hz, k TI (by simp) _ hTI, ⟨x, y, k TO (by simp) _ hTO⟩, h1.at fun o q => k i1 (by simp) o q, h2.at fun o q => k i2 (by simp) o q⟩
  item := by
    intro X hP hw hK hc i pins s σ H E I hf st hg
    subst hP hw hK
    obtain ⟨hz, hTI, ⟨x0, y0, hTO⟩, h1, h2⟩ := st
    obtain ⟨xs, ys, x, y, hqx, hqy, hx, hy⟩ := hg
    obtain ⟨its, rv, p, _⟩ := I.list hqx
    obtain ⟨its2, rv2, p2, _⟩ := I.list hqy
    obtain ⟨u, hu, ru⟩ := rv.get hx
    obtain ⟨u2, hu2, ru2⟩ := rv2.get hy
    have hzl : z < s.heap.objs.size := Heap.lt_size hz
    refine wpAny_pyNext_zip_item D hz hTI hTO h1 h2 p.isList p2.isList (x := u) (y := u2) (by simpa using hu) (by simpa using hu2) fun h' z' TO' h1' h2' hT hsz hk => ?_
    refine ⟨_, rfl, wpAny_letOwnedTupleGo_zip (s := { s with heap := h' }) z' fun h'' z'' sb => ?_⟩
    have hT2 : h''.get? s.heap.objs.size = some { cls := .type "tuple", data := .seq #[u, u2] } := (sb.2 _ (Nat.ne_of_gt hzl)).trans hT
    have new : ObjOk X.prog X.w (upd H s.heap.objs.size (.tup [x, y])) h'' s.heap.objs.size (.tup [x, y]) :=
      ⟨by show 2 ≤ sizeLine; decide, [u, u2], .cons ru (.cons ru2 .nil), ⟨_, hT2, rfl, _, rfl⟩⟩
    have I1 : Inv X pins σ (upd H s.heap.objs.size (.tup [x, y])) { s with heap := h'' } :=
      I.turnedNew (t' := s.toks) (ch := [z, TI, TO, i1, i2]) (fun c o hb q => (sb.2 c (fun q' => hb (by simp [q']))).trans (hk c o (fun q' => hb (by simp [q'])) (fun q' => hb (by simp [q'])) (fun q' => hb (by simp [q'])) (fun q' => hb (by simp [q'])) q)) hf (Nat.le_refl _) new
    refine ⟨.ref s.heap.objs.size, _, I1, rfl, ⟨_, x, y, rfl, I.hok.fresh (Nat.le_refl _), rfl, fun l hl => by rw [I.list_inj hl hqx]; exact hx, fun l hl => by rw [I.list_inj hl hqy]; exact hy⟩, ⟨z'', ?_, ⟨u, u2, ?_⟩, ?_, ?_⟩, fun c hcm => ?_⟩
    · exact (sb.2 _ D.TIz).trans (hk _ _ D.TIz D.TITO D.TIi1 D.TIi2 hTI)
    · exact (sb.2 _ D.TOz).trans TO'
    · exact h1'.at fun o q => (sb.2 _ D.i1z).trans q
    · exact h2'.at fun o q => (sb.2 _ D.i2z).trans q
    · have hlt : c < s.heap.objs.size := by
        have e' : c = z ∨ c = TI ∨ c = TO ∨ c = i1 ∨ c = i2 := by simpa using hcm
        rcases e' with q | q | q | q | q
        · rw [q]; exact hzl
        · rw [q]; exact Heap.lt_size hTI
        · rw [q]; exact Heap.lt_size hTO
        · rw [q]; obtain ⟨_, e1, _⟩ := h1; exact Heap.lt_size e1
        · rw [q]; obtain ⟨_, e2, _⟩ := h2; exact Heap.lt_size e2
      rw [upd_ne (Nat.ne_of_lt hlt)]
      exact (hf c hcm).1
  done := by
    intro X hP hw hK hc i pins s σ H E I hf st hg
    subst hP hw hK
    obtain ⟨hz, hTI, ⟨x0, y0, hTO⟩, h1, h2⟩ := st
    obtain ⟨xs, ys, hqx, hqy, hend⟩ := hg
    obtain ⟨its, rv, p, _⟩ := I.list hqx
    obtain ⟨its2, rv2, p2, _⟩ := I.list hqy
    have l1 := rv.length
    have l2 := rv2.length
    have he : its.toArray[i]? = none ∨ its2.toArray[i]? = none := by
      rcases hend with q | q
      · exact .inl (by simp; omega)
      · exact .inr (by simp; omega)
    exact wpAny_pyNext_zip_end (I.ok.hd hc) D hz hTI hTO h1 h2 p.isList p2.isList he fun h' hk => ⟨rfl, I.turnedL (t' := s.toks) (ch := [z, TI, TO, i1, i2]) (fun c o hb q =>
      hk c o (fun q' => hb (by simp [q'])) (fun q' => hb (by simp [q'])) (fun q' => hb (by simp [q'])) (fun q' => hb (by simp [q'])) q) hf⟩
  self := fun A i s Q E st h => wpAny_pyIter_zip st.1 h
def iZip (K : PySem.W.Frag) (ta : TA) : TI := fun σ H R => ta σ H fun vs H1 => ∃ a b xs ys, vs = [.ref a, .ref b] ∧ SqL K H1 a xs ∧ SqL K H1 b ys ∧ R (Itz K a b) H1
theorem pi_zip {X : Cx} {e e2 : Expr} {ta : TA} {p pos tpos : Pos} {elts : List Expr} {kk : Nat} (hg : Gl X "zip") (hm : X.mg "zip" = none) (ha : PA X [e, e2] ta)
    (hs : starEach [e, e2] X.env = (false, eval e X.env) :: starEach [e2] X.env := by rfl) (hpl : (backTo pos (starEach [e2] X.env)).any (·.1) = false := by rfl) :
    PI X (.Tuple elts kk tpos) (.Call (.Name "zip" p) [e, e2] [] pos) (iZip X.K ta) := by
  intro pins s σ H R I h
  refine Call_ (ld_blt I hg hm boot_zip5 (PyProof.Rows.callWith_type1 (thn (ha pos pins s σ H _ I h) fun us s1 ⟨vs, H1, I1, r1, q1⟩ => ?_) hs hpl))
  obtain ⟨a, b, xs, ys, ex, hqx, hqy, q⟩ := q1
  subst ex
  cases r1 with
  | cons r rr =>
    cases rr with
    | cons r' rr =>
      cases rr
      cases r
      cases r'
      obtain ⟨its, rv, p1, _⟩ := I1.list hqx
      obtain ⟨its2, rv2, p2, _⟩ := I1.list hqy
      have la : a < s1.heap.objs.size := p1.lt
      have lb : b < s1.heap.objs.size := p2.lt
      refine call_zip_2 p1.isList p2.isList fun h' hz hTI hTO h1 h2 hsz hk => wpAny_pyIter_zip hz ?_
      have I2 : Inv X pins σ H1 { s1 with heap := h' } := I1.kept (t' := s1.toks) hk
      refine ⟨s1.heap.objs.size + 4, [s1.heap.objs.size + 4, s1.heap.objs.size + 2, s1.heap.objs.size + 3, s1.heap.objs.size, s1.heap.objs.size + 1], _, _, H1, rfl, I2, turn_zip (PySem.W.ktu_apart s1.heap.objs.size a b la lb), ⟨hz, hTI, ⟨_, _, hTO⟩, h1, h2⟩, fun c hcm => ?_, q⟩
      have e' : c = s1.heap.objs.size + 4 ∨ c = s1.heap.objs.size + 2 ∨ c = s1.heap.objs.size + 3 ∨ c = s1.heap.objs.size ∨ c = s1.heap.objs.size + 1 := by simpa using hcm
      have hle : s1.heap.objs.size ≤ c := by
        rcases e' with z | z | z | z | z
        · rw [z]; exact Nat.le_add_right _ _
        · rw [z]; exact Nat.le_add_right _ _
        · rw [z]; exact Nat.le_add_right _ _
        · rw [z]; exact Nat.le_refl _
        · rw [z]; exact Nat.le_add_right _ _
      exact I1.fpOk hle (I1.hok.fresh hle)
end L2

section 
namespace Bits
open PySem PyProof.Rows








end Bits
end 

section 
namespace TL
open PySem PySem.Builtin PySem.Builtin.Str PySem.StrLaws

abbrev tl (x : Str) : List Nat := x.cps.toList
theorem len_tl (x : Str) : x.length = (tl x).length := by simp [tl, Str.length]
theorem ext_tl {x y : Str} (h : tl x = tl y) : x = y := Str.ext' (Array.toList_inj.mp h)
theorem tl_append (x y : Str) : tl (x ++ y) = tl x ++ tl y := by
  show (x ++ y).cps.toList = _
  rw [Str.cps_append, Array.toList_append]
theorem tl_ofString (s : String) : tl (Str.ofString s) = s.toList.map Char.toNat := PyProof.Rows.signs_ofString s

/-! ### the list functions -/
/-- S stands at the head of l -/
def pre (S l : List Nat) : Bool := l.take S.length == S
/-- l cut at each S from the left; k signs are still to be passed over -/
def spl (S : List Nat) : Nat → List Nat → List Nat → List (List Nat)
  | _, acc, [] => [acc]
  | 0, acc, c :: r => if pre S (c :: r) = true then acc :: spl S (S.length - 1) [] r else spl S 0 (acc ++ [c]) r
  | k + 1, acc, _ :: r => spl S k acc r
/-- what stands before the first S, and behind it -/
def par (S : List Nat) : List Nat → List Nat → Option (List Nat × List Nat)
  | _, [] => none
  | acc, c :: r => if pre S (c :: r) = true then some (acc, (c :: r).drop S.length) else par S (acc ++ [c]) r




/-! ### the model's split and partition are these -/




/-! ### computing spl and par -/

/-- joined lists -/
def joinL (S : List Nat) : List (List Nat) → List Nat
  | [] => []
  | [p] => p
  | p :: q :: r => p ++ (S ++ joinL S (q :: r))

/-! ### digits -/
/-- the signs of a number -/
def numL (n : Nat) : List Nat := (Nat.toDigits 10 n).map Char.toNat
theorem tl_num (n : Nat) : tl (Str.ofString (toString ((n : Nat) : Int))) = numL n := PySem.W.KIN.signs_num n
theorem numL_len {n k : Nat} (hk : 0 < k) (h : n < 10 ^ k) : (numL n).length ≤ k := by
  have z := PyProof.Rows.toString_length_le (v := (n : Int)) (by omega) hk (by
    have e : ((10 : Int) ^ k) = ((10 ^ k : Nat) : Int) := by
      first
        | exact (Int.natCast_pow 10 k).symm
        | simp
    rw [e]
    first | exact Int.ofNat_lt.mpr h | omega)
  rw [len_tl, tl_num] at z
  exact z

/-! ### words: x.split() -/
def wstep (st : List (List Nat) × List Nat) (c : Nat) : List (List Nat) × List Nat :=
  if Unicode.isSpace c = true then (if st.2 = [] then st else (st.1 ++ [st.2], [])) else (st.1, st.2 ++ [c])
def wfin (st : List (List Nat) × List Nat) : List (List Nat) := if st.2 = [] then st.1 else st.1 ++ [st.2]
end TL
end 

namespace L2
open PySem PySem.Spec PyProof.Rows


theorem strs_of_vals : ∀ {ys : List Str} {us : List Value}, Vals (ys.map V.str) us → StrsAre us ys
  | [], _, .nil => .nil
  | y :: ys, _, .cons r t => by
    obtain ⟨k, rfl⟩ := r
    exact .cons y k (strs_of_vals t)

/-- a new list of texts, tracked -/
def rNewStrs (ys : List Str) : Hp → VK → Prop := fun H Q => ∀ p, H p = none → Q (.ref p) (upd H p (.lst (ys.map V.str)))

section
variable {X : Cx} {pins : List (Addr × Obj)} {σ : St} {H : Hp} {s : Shared} {Q : VK}
end

section
variable {X : Cx}




/-- sep.join(a list | a tuple of texts) -/
theorem mt_join : MtR X "str.join" (fun x xs H Q => ∃ a p, ∃ ys : List Str, x = .str a ∧ xs = [.ref p] ∧ (SqL X.K H p (ys.map V.str) ∨ SqT X.K H p (ys.map V.str)) ∧
    (ys.map (·.length)).sum + ys.length * a.length ≤ 16777216 ∧ Q (.str (Txt.join a ys)) H) := by
  intro pins s σ H x xs v us Q I rx rs h
  obtain ⟨a, p, ys, rfl, rfl, hp, hz, h⟩ := h
  obtain ⟨t, rfl⟩ := rx
  cases rs with
  | cons r1 rs =>
    cases rs
    cases r1
    rcases hp with hp | hp
    · obtain ⟨its, r, ⟨o, n, ho, hc, _, hd⟩, _⟩ := I.list hp
      exact PyProof.Rows.join_list (items := its.toArray) ⟨o, ho, hc, n, hd⟩ (by rw [List.toList_toArray]; exact strs_of_vals r) hz fun t' k => ⟨.str _, H, I.tok k, ⟨t', rfl⟩, h⟩
    · obtain ⟨its, r, ht, _⟩ := I.tuple hp
      exact PyProof.Rows.join_tuple (items := its.toArray) ht (by rw [List.toList_toArray]; exact strs_of_vals r) hz fun t' k => ⟨.str _, H, I.tok k, ⟨t', rfl⟩, h⟩

/-! ### of a text alone -/

/-! ### of a text and a text -/

end

section
variable {X : Cx} {o e : Expr} {to te : TE}
def tM0 (r : V → List V → Hp → VK → Prop) (to : TE) : TE := fun σ H Q => to σ H fun x H1 => (∃ a, x = .str a) ∧ r x [] H1 Q
def tM1 (r : V → List V → Hp → VK → Prop) (to te : TE) : TE := fun σ H Q => to σ H fun x H1 => (∃ a, x = .str a) ∧ te σ H1 fun y H2 => r x [y] H2 Q
theorem pe_m1 {id : String} {name : Str} {apos pos : Pos} {r : V → List V → Hp → VK → Prop} (slot : Slot "str" name id) (ty : typeOf (.builtin id) = pure (.type "method_descriptor")) (rule : MtR X id r) (ho : PE X o to) (he : PE X e te)
    (hs : starEach [e] X.env = [(false, eval e X.env)] := by rfl) (hbase : attributeBase o name X.env (eval o X.env) = eval o X.env := by rfl) (hline : (apos.endLine == pos.line) = true := by rfl) :
    PE X (.Call (.Attribute o name apos) [e] [] pos) (tM1 r to te) := by
  intro pins s σ H Q I h
  refine PySem.Call_method1 hbase hs hline (thn (ho pins s σ H _ I h) fun v s1 ⟨x, H1, I1, r1, q1⟩ => ?_)
  obtain ⟨⟨a, rfl⟩, q1⟩ := q1
  obtain ⟨t, rfl⟩ := _root_.id r1
  refine ⟨"str", _, F.plainAttrs_str, slot, ty, typeIs_str _ _ _, (fun _ e => nomatch e), Calls.callWith_builtin rfl (Calls.evalArgs_plain (Calls.spliced_cons ?_))⟩
  exact thn (he pins s1 σ H1 _ I1 q1) fun u s2 ⟨y, H2, I2, r2, q2⟩ => Calls.spliced_nil (rule pins s2 σ H2 _ [y] _ [u] Q I2 r1 (.cons r2 .nil) q2)

end
end L2

namespace L2
open PySem PySem.Spec PyProof.Rows

section
variable {X : Cx}
end

/-! ### slices of a text -/
theorem IsPart.raw {v : Value} {o : Option Int} (p : IsPart v o) : ∃ l : Option (Int × Tok), v = partValue l ∧ l.map (·.1) = o := by
  cases p with
  | none => exact ⟨none, rfl, rfl⟩
  | int i t => exact ⟨some (i, t), rfl, rfl⟩

/-- a part, clipped, as the text's slice reckons it -/
def clipS (n d : Nat) : Option Int → Int
  | none => (d : Int)
  | some i => max 0 (min (if i < 0 then i + (n : Int) else i) (n : Int))

/-- z[lo:hi] -/
def cutS (z : Str) (lo hi : Option Int) : Str :=
  ⟨((z.cps.toList.drop (HT.sIx z.length 0 lo)).take (HT.sIx z.length z.length hi - HT.sIx z.length 0 lo)).toArray⟩
def rSlS : V → Option Int → Option Int → Hp → VK → Prop := fun x lo hi H Q => ∃ z, x = .str z ∧ z.length ≤ sizeLine ∧ Q (.str (cutS z lo hi)) H
end L2

namespace Att
open PySem PySem.W PySem.Calls PyProof.Rows

/-! ### the script -/
theorem ints_of_wellAll {P : Params} {h : Heap} : ∀ (ns : List Int) (vs : List Value), WellAll P h vs (ns.map WData.int) → IntsAre vs ns := by
  intro ns
  induction ns with
  | nil =>
    intro vs w
    rw [List.map_nil] at w
    cases w
    exact .nil
  | cons n ns ih =>
    intro vs w
    rw [List.map_cons] at w
    cases w with
    | cons a b =>
      cases a
      exact .cons _ _ (ih _ b)

theorem script_of {l : OpenLaw} {n : Nat} (hn : l.most = some n) {P : Params} {h : Heap} {args : List WData} {vals : List Value}
    (hpre : l.row.toRowW.claim.pre args = true) (hwl : WellAll P h vals args) :
    ∃ a vs ns, vals = [Value.ref a] ∧ args = [WData.list (ns.map WData.int)] ∧ h.get? a = some { cls := .type "list", data := .seq vs.toArray } ∧ IntsAre vs ns ∧ ns.length ≤ n := by
  have hsh : WShape.hasAll [] args [.list .int] = true := (pre_splitW hpre).1
  have hc : l.pre.holds [] { args := args } = true := (pre_splitW hpre).2
  obtain ⟨d, r, rfl, h1, h2⟩ := hasAllW_cons hsh
  obtain rfl := hasAllW_nil h2
  obtain ⟨xs, rfl, h3⟩ := hasW_list h1
  obtain ⟨ns, rfl⟩ := items_int h3
  have hlen : ns.length ≤ n := by
    unfold OpenLaw.pre at hc
    have h4 : (WTm.not (.lt (.lit (.int (n : Int))) (.len (.arg 0)))).holds [] { args := [.list (ns.map .int)] } = true := by
      have h4 := (holds_andW hc).1
      rw [hn] at h4
      exact h4
    have h5 := condW_of h4 (w_not (w_lt w_lit (w_len_list (w_arg rfl))))
    rw [List.length_map] at h5
    refine Nat.le_of_not_lt fun q => ?_
    have q' : (n : Int) < ((ns.length : Nat) : Int) := by omega
    first
      | (rw [decide_eq_true q'] at h5; exact absurd h5 (by decide))
      | (simp at h5; omega)
  cases hwl with
  | cons w1 w2 =>
    cases w2
    cases w1 with
    | list ho hall => exact ⟨_, _, ns, rfl, rfl, ho, ints_of_wellAll ns _ hall, hlen⟩

theorem post_true (l : OpenLaw) (args : List WData) : l.row.toRowW.claim.post args (.bool true) args = true :=
  postW_of (r := l.row.toRowW) (X := (true == true))
    (show WShape.has [] (.bool true) .bool = true by first | rfl | decide | simp [WShape.has, WShape.arms, WShape.armsAll])
    (show (WTm.eq .res (.lit (.bool true))).value [] { args := args, res := some (.bool true), after := args } = some (.bool (true == true)) from w_eq_bool (w_res rfl) w_lit) rfl

/-! ### the attachment: holds_open's last premise (the goal 'hc' behind k_head) from a wpAny of the law's body -/

/-- the same from a codeAny of the CALL (for a layer whose function contracts speak of calls) -/
theorem attach_call {l : OpenLaw} {n : Nat} {q : Program} {loose : List Str} {XP : (Str → Option Value) → Heap → Prop} {YP : World → Heap → Prop} {d : DefRec}
    (hn : l.most = some n) (hdf : d.params.defaults = [])
    (call : ∀ (w : World) (s₀ s₁ : Shared) (mg mb : Str → Option Value) (fa : Addr) (o : Obj) (pm cd doc : Value) (a : Addr) (vs : List Value) (ns : List Int),
      Ground q loose [] XP w s₀ mg mb s₁.heap → YP w s₁.heap →
      s₁.heap.get? fa = some o → o.data = .func (docDef d.name d.params d.body d.scope pm cd doc) → s₁.heap.CodeRec cd d.name → mg d.name = some (.ref fa) →
      s₁.heap.get? a = some { cls := .type "list", data := .seq vs.toArray } → IntsAre vs ns → ns.length ≤ n → s₁.gens = #[] →
      codeAny (model l.prog w) callerA (.call (.ref fa) ⟨[.ref a], []⟩) (fun r s' => r = .ok (.ret (.bool true)) ∧ OldK s₁.heap s'.heap ∧ s'.os = s₁.os ∧ AllBare s'.gens) s₁) :
    WalkO q loose XP YP l.row.toRowW d [] (fun f vs => PySem.call f vs) := by
  intro w s₀ s₁ mg mb G Y fa o pm cd doc dV kV ho hd hcd hD hmg hg args vals as hpre hlay hrd hwl hlo
  obtain rfl : dV = .none := Dflts.none hD hdf
  obtain rfl : kV = .none := Dflts.noKw hD
  obtain ⟨a, vs, ns, rfl, rfl, hobj, hints, hlen⟩ := script_of hn hpre hwl
  refine enter_call (codeAny_mono (call w s₀ s₁ mg mb fa o pm cd doc a vs ns G Y ho (fd_plain hd) hcd hmg hobj hints hlen hg) fun r s' hq => ?_)
  obtain ⟨rfl, h2, h3, h4⟩ := hq
  exact ⟨.inl ⟨.bool true, .bool true, [], rfl, fun _ => rfl, .bool true, post_true l _, fun _ => ⟨List.Pairwise.nil, fun _ hm => (nomatch hm)⟩⟩, h2, h3, h4⟩


/-! ### rules over ANY heap (no ledger) from facts about the written part K: the library's own take a ledger (News) for what they write -/
section
variable {prog : Program} {w : World} {A : Around} {E : Value → Shared → Prop} {s : Shared} {K : Frag}





/-! the whole heap as the ledger: makes every rule that writes through a ledger a rule over any heap -/
def noObjs (h : Heap) : Heap := { h with objs := #[] }
def ledger (h : Heap) (L d : Addr) : List (Addr × Obj) := (List.range h.objs.size).filterMap fun a => if a = L ∨ a = d then none else (h.get? a).map fun o => (a, o)

end
end Att

namespace L2
open PySem PySem.Spec PyProof.Rows

theorem vals_ints : ∀ {vs : List Value} {ns : List Int}, IntsAre vs ns → Vals (ns.map V.int) vs
  | _, _, .nil => .nil
  | _, _, .cons n t h => .cons ⟨t, rfl⟩ (vals_ints h)

/-- nothing is tracked but the script, known to the object (or it is an object of the module) -/
def Only (H : Hp) : Prop := ∀ b, H b = none ∨ ∃ o xs, H b = some (.frz o (.lst xs))

/-- THE HEAD: the law's promise, at the heap behind the top. F, the promise of the law's def, may use that base is part of the heap (so K.In base, base.Ns mainGlobals mg stand in Mod) -/
theorem law_call {P : Program} {w : World} {K : PySem.W.Frag} {mg mb : Str → Option Value} {CX : CXT} {k : Nat} {fa a : Addr} {fd : FuncData} {x : Str} {sp : Sp} {s₁ : Shared} {vs : List Value} {ns : List Int}
    (KX : K.In s₁.heap) (hns : s₁.heap.Ns mainGlobals mg) (hb : s₁.heap.Ns builtinsNs mb) (hbb : ∀ x : Str, x ≠ "__name__" → mb x = bootBuiltins x) (hlim : s₁.heap.NoLimit) (hg : s₁.gens = #[])
    (ha : s₁.heap.get? a = some { cls := .type "list", data := .seq vs.toArray }) (hi : IntsAre vs ns) (hl : ns.length ≤ sizeLine) (hr : Room k callerA)
    (F : ∀ base : Heap, K.In base → base.Ns mainGlobals mg → FnOk P w K mg base CX k fa fd [x] sp) (hbind : ∀ (s : Shared) (u : Value), BindsTo s fd ⟨[u], []⟩ [(x, u)])
    (hsp : ∀ H : Hp, Only H → SqL K H a (ns.map V.int) → sp [.ref a] H (fun v _ => v = .bl true) fun _ _ _ => False)
    (hCX : ∀ H e s', CX [] H s₁ (fun _ _ _ => False) e s' → False) :
    codeAny (model P w) callerA (.call (.ref fa) ⟨[.ref a], []⟩) (fun r s' => r = .ok (.ret (.bool true)) ∧ OldK s₁.heap s'.heap ∧ s'.os = s₁.os ∧ AllBare s'.gens) s₁ := by
  have rv := vals_ints hi
  have lenV := hi.length
  -- from an abstract heap in which nothing but the script may be tracked
  have core : ∀ H : Hp, Only H → SqL K H a (ns.map V.int) → HOk P w H s₁.heap → (∀ b, H b ≠ none → b = a) → (H a ≠ none → K.lookup a = none) →
      codeAny (model P w) callerA (.call (.ref fa) ⟨[.ref a], []⟩) (fun r s' => r = .ok (.ret (.bool true)) ∧ OldK s₁.heap s'.heap ∧ s'.os = s₁.os ∧ AllBare s'.gens) s₁ := by
    intro H hO hS hok hA hK
    have base_of : ∀ {b : Addr} {o : Obj}, s₁.heap.get? b = some o → H b = none → (hidT s₁.heap H).get? b = some o := fun e n => hidT_get e n
    have noA : ∀ {b : Addr} {o : Obj} {es : Array DictEntry} {ep : Nat}, s₁.heap.get? b = some o → o.data = .dict es ep → H b = none := fun {b o es ep} e d => by
      cases q : H b with
      | none => rfl
      | some u =>
        have e' : b = a := hA b (by rw [q]; simp)
        subst e'
        rw [ha] at e; cases e
        have d' : Data.seq vs.toArray _ = Data.dict es ep := d
        cases d'
    have nsK : ∀ {b : Addr} {m : Str → Option Value}, s₁.heap.Ns b m → (hidT s₁.heap H).Ns b m := fun {b m} ⟨o, es, ep, e, d, r⟩ => ⟨o, es, ep, base_of e (noA e d), d, r⟩
    have hKb : K.In (hidT s₁.heap H) := fun b o e => base_of (KX b o e) (by
      cases q : H b with
      | none => rfl
      | some u =>
        have e' : b = a := hA b (by rw [q]; simp)
        subst e'
        rw [hK (by rw [q]; simp)] at e; cases e)
    have hM : Mod K mg (hidT s₁.heap H) := ⟨hKb, nsK hns, ⟨mb, nsK hb, hbb⟩, let ⟨mc, h1, h2⟩ := hlim; ⟨mc, nsK h1, h2⟩⟩
    have e0 : Env0 P w K mg (hidT s₁.heap H) callerA [] s₁ H := ⟨rfl, hM, fun b o e => of_hidT e, Nat.le_of_eq (hidT_size _ _), trivial, fun b hb => absurd (show b ∈ ([] : List Addr) from hb) (by simp), hok, .of_eq hg⟩
    refine codeAny_mono ((F _ hKb (nsK hns)).run callerA [] s₁ H ⟨[.ref a], []⟩ [.ref a] [.ref a] _ _ hr e0 (hbind s₁ (.ref a)) (.cons rfl .nil) (hsp H hO hS)) fun r s' h => ?_
    cases r with
    | error e => exact (hCX H e s' h).elim
    | ok fl =>
      cases fl with
      | next => exact False.elim h
      | brk => exact False.elim h
      | cont => exact False.elim h
      | ret u =>
        obtain ⟨v, H', os, bare, un, hok', r', q⟩ := h
        have q' : v = .bl true := q
        subst q'
        obtain rfl : u = Value.bool true := r'
        refine ⟨rfl, OldK.of_keep fun b o e => ?_, os, bare⟩
        cases q : H b with
        | none => exact un.keep b o e q (by intro z; exact absurd (show b ∈ ([] : List Addr) from z) (by simp)) (by simp)
        | some u =>
          rcases hO b with z | ⟨ob, xs, z⟩
          · rw [q] at z; cases z
          · have z2 := un.frzs b ob _ z
            obtain ⟨e1, _⟩ := hok b _ z
            obtain ⟨e2, _⟩ := hok' b _ z2
            rw [e] at e1; cases e1
            exact e2
  cases hk : K.lookup a with
  | some o =>
    -- the script is one of the module's own objects
    have e := KX a o hk
    rw [ha] at e
    cases e
    refine core (fun _ => none) (fun _ => .inl rfl) (.inr ⟨_, vs.toArray, _, hk, rfl, rfl, rfl, by rw [List.size_toArray, lenV]; exact hl, by simpa using rv⟩) (fun b u z => by have z' : (none : Option HO) = some u := z; cases z') (fun b z => absurd rfl z) fun z => absurd rfl z
  | none =>
    refine core (fun b => if b = a then some (.frz { cls := .type "list", data := .seq vs.toArray } (.lst (ns.map V.int))) else none) (fun b => ?_) (.inl (.inr ⟨{ cls := .type "list", data := .seq vs.toArray }, if_pos rfl⟩)) (fun b u z => ?_) (fun b z => ?_) fun _ => hk
    · by_cases hb : b = a
      · exact .inr ⟨_, _, if_pos hb⟩
      · exact .inl (if_neg hb)
    · by_cases hb : b = a
      · have z' := (if_pos hb).symm.trans z
        cases z'
        subst hb
        exact ⟨ha, by rw [List.length_map]; exact hl, vs, _, rv, ha⟩
      · have z' := (if_neg hb).symm.trans z
        cases z'
    · by_cases hb : b = a
      · exact hb
      · exact absurd (if_neg hb) z
end L2

namespace L2
open PySem PySem.Spec PyProof.Rows

abbrev KOf {K : PySem.W.Frag} {h : Heap} (_ : K.In h) : PySem.W.Frag := K

/-- the goal that k_head leaves (case hc), from the law's promise. F gives the function object fd (K's own) once, then the promise over every base -/
theorem walk_of {l : PySem.W.OpenLaw} {n k : Nat} {q : Program} {loose : List Str} {XP : (Str → Option Value) → Heap → Prop} {YP : World → Heap → Prop} {d : DefRec} {K : Params → PySem.W.Frag} {CX : World → CXT} {sp : World → Sp} {x : Str}
    (hn : l.most = some n) (hn2 : n ≤ sizeLine) (hdf : d.params.defaults = []) (hr : Room k callerA)
    (hY : ∀ (w : World) (h : Heap), YP w h → (K w.params).In h)
    (F : ∀ (w : World) (mg : Str → Option Value) (fa : Addr) (h : Heap), (K w.params).In h → h.Ns mainGlobals mg → mg d.name = some (.ref fa) →
      ∃ fd : FuncData, (∀ (s : Shared) (u : Value), BindsTo s fd ⟨[u], []⟩ [(x, u)]) ∧
        ∀ base : Heap, (K w.params).In base → base.Ns mainGlobals mg → FnOk l.prog w (K w.params) mg base (CX w) k fa fd [x] (sp w))
    (hsp : ∀ (w : World) (H : Hp) (a : Addr) (ns : List Int), ns.length ≤ n → Only H → SqL (K w.params) H a (ns.map V.int) → sp w [.ref a] H (fun v _ => v = .bl true) fun _ _ _ => False)
    (hCX : ∀ (w : World) (H : Hp) (s : Shared) (e : Value) (s' : Shared), CX w [] H s (fun _ _ _ => False) e s' → False) :
    PySem.W.WalkO q loose XP YP l.row.toRowW d [] (fun f vs => PySem.call f vs) := by
  refine Att.attach_call hn hdf fun w s₀ s₁ mg mb fa o pm cd doc a vs ns G Y ho hd hcd hmg hobj hints hlen hg => ?_
  have KX := hY w _ Y
  obtain ⟨fd, hb, hF⟩ := F w mg fa _ KX G.T.g hmg
  exact law_call KX G.T.g G.T.b G.T.builtins G.T.nolimit hg hobj hints (Nat.le_trans hlen hn2) hr hF hb (fun H hO hS => hsp w H a ns hlen hO hS) fun H e s' => hCX w H s₁ e s'
end L2

/- THE LAST THEOREM (shape; LID, My.* are yours):
   My.Adr: a structure of the addresses that your layer names (classes, functions); My.Txt K t: a structure (Prop) of the equations over K;
   My.txt_mk : {K} {implicit addresses ..} (e1 : nsIn K mainGlobals "law" = some (some (.ref f))) (e2 : K.lookup f = some ⟨oc, od, .func (fnOf "law" "law" params body scope dV kV doc pm an cdv ct), sl⟩) (e3 : codeIn K cdv "law" = true) .. : ∃ t, My.Txt K t

set_option maxRecDepth 100000 in
set_option maxHeartbeats 0 in
theorem PySem.Challenge.cw_LID_holds : PySem.Challenge.rw_LID.Holds := by
  w_on; o_law; k_head; (case hw => w_witness2)
  k_fill
  refine L2.walk_of (l := PySem.Challenge.rw_LID) (n := 63) (k := 40) (x := "script") (CX := fun w => ..) (sp := fun _ => My.sp_law) rfl (by decide) rfl ⟨rfl, by decide, by decide⟩ (fun w h Y => PySem.W.kIn_of Y) ?F ?S ?C
  case F =>
    intro w mg fa h KX G hmg
    have T : ∃ t, My.Txt (L2.KOf KX) t := by
      dsimp only [L2.KOf]                          -- K must stand as «<heap const> w.params» for k_is
      refine' My.txt_mk ?e1 ?e2 ?e3 ..
      (case e1 => PySem.W.k_is)                    -- in the order: a name -> its address -> its object -> its parts
      (case e2 => PySem.W.k_is)
      ..
    obtain ⟨t, T⟩ := T
    have e0 := hmg.symm.trans (PySem.W.mg_of KX G T.law)
    cases e0                                       -- fa is the law's own address
    exact ⟨_, fun s u => .of_eq rfl, fun base kb nb => My.law_fn T kb nb⟩     -- if «.of_eq rfl» comes too early: refine' ⟨_, ?b, fun base kb nb => My.law_fn T kb nb⟩; exact fun s u => .of_eq rfl
  case S => exact fun w H a ns hl hO hS => ..
  case C => exact ..
(the tactic k_is has no namespace: write k_is) -/

/-! SHORT WORDS over the layer: a def of the text, its body, what a loop and a test want. -/
namespace L2
open PySem PySem.Spec PyProof.Rows

/-! ### the text by places -/
/-- the j-th statement of a class's body -/
def inClass (s : Stmt) (j : Nat) : Stmt := match s with
  | .ClassDef _ _ _ body _ _ _ _ _ _ _ => body.getD j (.Pass ⟨0, 0, 0, 0⟩)
  | _ => .Pass ⟨0, 0, 0, 0⟩
def defArgs (s : Stmt) : Arguments := match s with
  | .FunctionDef _ a _ _ _ _ _ _ _ _ => a
  | _ => { posonlyargs := [], args := [], vararg := none, kwonlyargs := [], kw_defaults := [], kwarg := none, defaults := [] }
def defBody (s : Stmt) : List Stmt := match s with
  | .FunctionDef _ _ b _ _ _ _ _ _ _ => b
  | _ => []
def defScope (s : Stmt) : Scope := match s with
  | .FunctionDef _ _ _ _ _ _ sc _ _ _ => sc
  | _ => { kind := .function, names := [], isGenerator := false, isCoroutine := false }

/-! ### no exception leaves a def -/
abbrev CX0 : CXT := fun _ _ _ _ _ _ => False
abbrev E0 : XK := fun _ _ _ => False
theorem pass0 {X : Cx} : Passes CX0 X E0 := fun _ _ _ _ _ _ _ h => h.elim

/-! ### a def (or method) of the text as it stands behind the top -/
structure Fun (K : PySem.W.Frag) (x qual : Str) (st : Stmt) (f : Addr) (fd : FuncData) : Prop where
  ex : ∃ (oc : Value) (od : Option Addr) (kV doc pm : Value) (an : Option Addr) (cdv ct : Value) (osl : Array (Option Value)),
    fd = PySem.W.fnOf x qual (defArgs st) (defBody st) (defScope st) .none kV doc pm an cdv ct ∧ K.lookup f = some ⟨oc, od, .func fd, osl⟩ ∧ PySem.W.codeIn K cdv qual = true
  kp : PySem.W.keepIn K (.ref f) = true
section
variable {P : Program} {w : World} {K : PySem.W.Frag} {mg : Str → Option Value} {base : Heap}
/-- THE RULE for a def: its body as a term of rules, and the reading of that term -/
theorem Fun.ok {x qual : Str} {st : Stmt} {f : Addr} {fd : FuncData} {N ps : List Str} {k : Nat} {sp : Sp} (F : Fun K x qual st f fd) (S : FnScope N ps (defScope st)) (len : ∀ vs H Q E, sp vs H Q E → vs.length = ps.length)
    (hbody : ∀ (cdv : Value) (A : Around) (outer : List Env) (s : Shared) (H : Hp) (vs : List V) (Q : VK) (E : XK), Room k (A.deeper (envOfC qual (defScope st) s.heap.objs.size f cdv)) → sp vs H Q E →
      ∃ t, PSs (cxOf CX0 P w K mg base N qual (defScope st) f cdv A outer s H E).nox (defBody st) t ∧ t { nx := fun _ H' => Q .non H', rt := Q } (start N vs) H) : FnOk P w K mg base CX0 (k + 1) f fd ps sp := by
  obtain ⟨oc, od, kV, doc, pm, an, cdv, ct, osl, rfl, lk, hcd⟩ := F.ex
  refine fn_of lk hcd S len fun A outer s H vs Q E hr hsp => ?_
  obtain ⟨t, h, q⟩ := hbody cdv A outer s H vs Q E hr hsp
  exact ⟨t, h.nox, q⟩
/-- how its arguments bind (no defaults): h is «fun _ _ _ _ _ _ us hl => match us, hl with | [_, _], _ => rfl», one _ a parameter -/
theorem Fun.binds {x qual : Str} {st : Stmt} {f : Addr} {fd : FuncData} {ps : List Str} (F : Fun K x qual st f fd)
    (h : ∀ (kV doc pm : Value) (an : Option Addr) (cdv ct : Value) (us : List Value), us.length = ps.length → bindArgs (PySem.W.fnOf x qual (defArgs st) (defBody st) (defScope st) .none kV doc pm an cdv ct) ⟨us, []⟩ = pure (ps.zip us)) : Binds K fd ps [] := by
  obtain ⟨oc, od, kV, doc, pm, an, cdv, ct, osl, rfl, lk, hcd⟩ := F.ex
  exact .all (h kV doc pm an cdv ct)
theorem fun_mk {x qual : Str} {st : Stmt} {f : Addr} {oc : Value} {od an : Option Addr} {osl : Array (Option Value)} {kV doc pm cdv ct : Value} (l : K.lookup f = some ⟨oc, od, .func (PySem.W.fnOf x qual (defArgs st) (defBody st) (defScope st) .none kV doc pm an cdv ct), osl⟩)
    (c : PySem.W.codeIn K cdv qual = true) (k : PySem.W.keepIn K (.ref f) = true) : Fun K x qual st f (PySem.W.fnOf x qual (defArgs st) (defBody st) (defScope st) .none kV doc pm an cdv ct) := ⟨⟨oc, od, kV, doc, pm, an, cdv, ct, osl, rfl, l, c⟩, k⟩
end

/-! ### expressions in short: the name that stands in the i-th slot -/
section
variable {X : Cx}
theorem pv (i : Nat) {x : Str} {pos : Pos} (hN : X.N[i]? = some x := by rfl) (hv : Vis X.env.scope x := by first | exact Or.inl rfl | exact Or.inr (Or.inl rfl) | exact Or.inr (Or.inr rfl)) (hd : (x == ("__debug__" : Str)) = false := by decide)
    (hcd : (x == ("__classdict__" : Str)) = false := by decide) : PE X (.Name x pos) (tVar i) := pe_var hN hv hd hcd
end

/-! ### tests -/

/-! ### heaps -/
/-- all that was tracked is as it was -/
def Same (H H' : Hp) : Prop := ∀ b o, H b = some o → H' b = some o
theorem Same.refl (H : Hp) : Same H H := fun _ _ h => h
theorem Same.trans {H H1 H2 : Hp} (a : Same H H1) (b : Same H1 H2) : Same H H2 := fun c o h => b c o (a c o h)
theorem Same.free {H H' : Hp} (e : Same H H') {l : Addr} (h : H' l = Option.none) : H l = Option.none := by
  cases q : H l with
  | none => rfl
  | some o =>
    rw [e l o q] at h
    cases h
theorem Same.seq {K : PySem.W.Frag} {H H' : Hp} {a : Addr} {xs : List V} (e : Same H H') (h : SqL K H a xs) : SqL K H' a xs := by
  rcases h with (h | ⟨o, h⟩) | h
  · exact .inl (.inl (e _ _ h))
  · exact .inl (.inr ⟨o, e _ _ h⟩)
  · exact .inr h

/-! ### a dict's pairs: keys that differ -/
section
variable {κ : Type} [DecidableEq κ]
theorem valV_not {kvs : List (κ × V)} {k : κ} (h : valV kvs k = none) : ¬ k ∈ kvs.map (·.1) := by
  intro m
  obtain ⟨p, hp, e⟩ := List.mem_map.mp m
  have q : (kvs.any fun kv => decide (kv.1 = k)) = true := List.any_eq_true.mpr ⟨p, hp, decide_eq_true e⟩
  rw [valV_any, h] at q
  exact absurd q (by simp)
theorem valV_in {kvs : List (κ × V)} {k : κ} {v : V} (h : valV kvs k = some v) : k ∈ kvs.map (·.1) := by
  have q : (kvs.any fun kv => decide (kv.1 = k)) = true := by
    rw [valV_any, h]
    all_goals rfl
  obtain ⟨p, hp, e⟩ := List.any_eq_true.mp q
  exact List.mem_map.mpr ⟨p, hp, of_decide_eq_true e⟩
end
/-! ### lists -/
theorem at_of {xs : List V} {z : Int} {j : Nat} {v : V} (e : z = (j : Int)) (h : xs[j]? = some v) : atI xs z = some v := by
  rw [e]
  exact atI_nat h
/-- a new instance and its __init__ leave all that was tracked as it was -/
theorem Same.made {H H1 : Hp} {x dx C : Addr} (nx : H x = Option.none) (nd : H dx = Option.none) (k : ∀ b o, (upd (upd H dx (.own x)) x (.ins C dx [])) b = some o → b ≠ x → H1 b = some o) : Same H H1 := fun b o e =>
  k b o (by rw [upd_ne (ne_of_none e nx), upd_ne (ne_of_none e nd)]; exact e) (ne_of_none e nx)
end L2

set_option Elab.async false
set_option linter.all false
set_option maxRecDepth 100000
set_option maxHeartbeats 4000000
namespace Hb
open PySem PySem.Spec PyProof.Rows L2

/-! ### three comparisons in a chain -/
section
variable {X : Cx} {a b c d : Expr} {ta tb tc td : TE} {pos : Pos}
def tChain3 (r1 r2 r3 : R2) (ta tb tc td : TE) : TE := fun σ H Q => ta σ H fun x H1 => tb σ H1 fun y H2 => r1 x y H2 fun z H3 => ∃ k, z = .bl k ∧
  (if k = true then tc σ H3 fun w H4 => r2 y w H4 fun z' H5 => ∃ k', z' = .bl k' ∧ (if k' = true then td σ H5 fun u H6 => r3 w u H6 Q else Q (.bl false) H5) else Q (.bl false) H3)
end

/-! ### isinstance(x, T), T a built-in type by its name -/
section
variable {X : Cx}
def rIsi (K : PySem.W.Frag) : List V → Hp → VK → Prop := fun xs H Q => ∃ x t n b, xs = [x, .ty n] ∧ TyOf K H x t ∧ PySem.W.kitOne K t (.type n) = some b ∧ Q (.bl b) H
theorem call_isi : CallR X (.builtin "isinstance") (rIsi X.K) := by
  intro pins s σ H xs us Q I r h
  obtain ⟨x, t, n, b, rfl, ty, e, q⟩ := h
  cases r with
  | cons rx rr =>
    cases rr with
    | cons rn r0 =>
      cases r0
      cases rn
      exact isinst_ok I rx ty e fun tk => ⟨.bl b, H, I.tok _, rfl, q⟩
end

/-! ### set(xs) of ints, len of it -/
section
variable {X : Cx}
def rSetOf (K : PySem.W.Frag) : List V → Hp → VK → Prop := fun vs H Q => ∃ (a : Addr) (ns : List Int), vs = [V.ref a] ∧ SqL K H a (ns.map V.int) ∧ ns.length < 4000 ∧
  ∀ p, H p = none → Q (.ref p) (upd H p (.set (fun k => (firstMet (fun i => ns.getD i 0) ns.length).any (· == k)) (firstMet (fun i => ns.getD i 0) ns.length).length))
def rLenSet : List V → Hp → VK → Prop := fun vs H Q => ∃ a S n, vs = [V.ref a] ∧ H a = some (.set S n) ∧ n < 5000 ∧ Q (.int n) H
end
end Hb

set_option Elab.async false
set_option linter.all false
set_option maxRecDepth 100000
set_option maxHeartbeats 4000000
namespace Hb

open PySem PySem.Spec L2
open PyProof.Rows hiding St

/-! ### readings, one step each, in folded form -/
section
variable {t u : TS} {D : Ends} {σ σ' : St} {H H' : Hp} {Q : VK} {te ta tb tc td : TE} {g : TG} {i : Nat} {v : V} {tt tt' : TT} {QT : Bool → Hp → Prop} {tA : TA} {QA : List V → Hp → Prop} {QS : St → Hp → Prop}
theorem r_seq (h : t { D with nx := u D } σ H) : tSeq t u D σ H := h
theorem r_asg (h : te σ H fun x H1 => g x σ H1 D.nx) : tAsg te g D σ H := h
theorem r_c (h : Q v H) : tC v σ H Q := h
theorem r_drop (h : te σ H fun _ H1 => D.nx σ H1) : tDrop te D σ H := h
theorem r_ret (h : te σ H D.rt) : tRet te D σ H := h
theorem r_next (h : D.nx σ H) : tNext D σ H := h
theorem r_cont (h : D.ct σ H) : tCont D σ H := h
theorem r_ifs (h : tt σ H fun b H1 => if b = true then t D σ H1 else u D σ H1) : tIfS tt t u D σ H := h
theorem r_nx {nx bk ct : St → Hp → Prop} {rt : VK} (h : nx σ H) : Ends.nx ⟨nx, rt, bk, ct⟩ σ H := h
theorem r_ct {nx bk ct : St → Hp → Prop} {rt : VK} (h : ct σ H) : Ends.ct ⟨nx, rt, bk, ct⟩ σ H := h
theorem r_rt {nx bk ct : St → Hp → Prop} {rt : VK} (h : rt v H) : Ends.rt ⟨nx, rt, bk, ct⟩ v H := h
/-- tests -/
theorem r_test (h : te σ H fun x H' => ∃ k, x = .bl k ∧ QT k H') : tTest te σ H QT := h
theorem r_tB (h : te σ H fun x H' => ∃ k, x = .bl k ∧ QT k H') : tB te σ H QT := h
theorem r_bl {k : Bool} {P : Bool → Prop} (h : P k) : ∃ k', V.bl k = V.bl k' ∧ P k' := ⟨k, rfl, h⟩
theorem r_not (h : tt σ H fun c H1 => QT (!c) H1) : tNot tt σ H QT := h
theorem r_and (h : tt σ H fun c H1 => if c = true then tt' σ H1 QT else QT false H1) : tAnd tt tt' σ H QT := h
theorem r_or (h : tt σ H fun c H1 => if c = true then QT true H1 else tt' σ H1 QT) : tOr tt tt' σ H QT := h
theorem r_andV (h : ta σ H fun x H1 => ∃ c, x = .bl c ∧ if c = true then tb σ H1 Q else Q (.bl false) H1) : tAndV ta tb σ H Q := h
theorem r_notV (h : ta σ H fun x H1 => ∃ c, x = .bl c ∧ Q (.bl (!c)) H1) : tNotV ta σ H Q := h
theorem r_tIf (h : tt σ H fun c H1 => if c = true then ta σ H1 Q else tb σ H1 Q) : tIf tt ta tb σ H Q := h
theorem r_chain {r r' : R2} (h : ta σ H fun x H1 => tb σ H1 fun y H2 => r x y H2 fun z H3 => ∃ k, z = .bl k ∧
  (if k = true then tc σ H3 fun w' H4 => r' y w' H4 Q else Q (.bl false) H3)) : tChain r r' ta tb tc σ H Q := h
/-- operators -/
theorem r_op {r : R2} (h : ta σ H fun x H1 => tb σ H1 fun y H2 => r x y H2 Q) : tOp r ta tb σ H Q := h
theorem r_un {r : V → Hp → VK → Prop} (h : ta σ H fun x H1 => r x H1 Q) : tUn r ta σ H Q := h
theorem r_I0 {f : Int → Int → V} {a b : Int} (h : Q (f a b) H) : rI0 f (.int a) (.int b) H Q := ⟨a, b, rfl, rfl, h⟩
theorem r_I {C : Int → Int → Prop} {f : Int → Int → V} {a b : Int} (c : C a b) (h : Q (f a b) H) : rI C f (.int a) (.int b) H Q := ⟨a, b, rfl, rfl, c, h⟩
theorem r_U {f : Int → V} {a : Int} (h : Q (f a) H) : rU f (.int a) H Q := ⟨a, rfl, h⟩
theorem dec_int {a b : Int} : decide (V.int a = V.int b) = decide (a = b) := by
  by_cases h : a = b
  · subst h; simp
  · rw [decide_eq_false h, decide_eq_false (fun e => h (V.int.inj e))]
theorem r_eqI {a b : Int} (h : Q (.bl (decide (a = b))) H) : rEq (.int a) (.int b) H Q := by
  refine ⟨rfl, ?_⟩
  rw [dec_int]; exact h
theorem r_neI {a b : Int} (h : Q (.bl (!decide (a = b))) H) : rNe (.int a) (.int b) H Q := by
  refine ⟨rfl, ?_⟩
  rw [dec_int]; exact h
/-- calls, displays -/
theorem r_nil (h : QA [] H) : tNil σ H QA := h
theorem r_cons (h : ta σ H fun x H1 => tA σ H1 fun xs H2 => QA (x :: xs) H2) : tCons ta tA σ H QA := h
theorem r_call {sp : Sp} {dvs : List V} {E : XK} (h : tA σ H fun vs H1 => sp (vs ++ dvs) H1 Q E) : tCall sp dvs E tA σ H Q := h
theorem r_cb {r : List V → Hp → VK → Prop} (h : tA σ H fun vs H1 => r vs H1 Q) : tCB r tA σ H Q := h
theorem r_lst (h : tA σ H fun xs H1 => xs.length ≤ sizeLine ∧ ∀ p H', H1 p = none → H' = upd H1 p (.lst xs) → Q (.ref p) H') : tLst tA σ H Q := by
  show tA σ H fun xs H1 => xs.length ≤ sizeLine ∧ ∀ p, H1 p = none → Q (.ref p) (upd H1 p (.lst xs))
  have e : (fun (xs : List V) (H1 : Hp) => xs.length ≤ sizeLine ∧ ∀ p, H1 p = none → Q (.ref p) (upd H1 p (.lst xs))) = fun xs H1 => xs.length ≤ sizeLine ∧ ∀ p H', H1 p = none → H' = upd H1 p (.lst xs) → Q (.ref p) H' :=
    funext fun xs => funext fun H1 => propext ⟨fun h => ⟨h.1, fun p H' hp e => by rw [e]; exact h.2 p hp⟩, fun h => ⟨h.1, fun p hp => h.2 p _ hp rfl⟩⟩
  rw [e]; exact h
theorem r_tup (h : tA σ H fun xs H1 => xs.length ≤ sizeLine ∧ ∀ p H', H1 p = none → H' = upd H1 p (.tup xs) → Q (.ref p) H') : tTup tA σ H Q := by
  show tA σ H fun xs H1 => xs.length ≤ sizeLine ∧ ∀ p, H1 p = none → Q (.ref p) (upd H1 p (.tup xs))
  have e : (fun (xs : List V) (H1 : Hp) => xs.length ≤ sizeLine ∧ ∀ p, H1 p = none → Q (.ref p) (upd H1 p (.tup xs))) = fun xs H1 => xs.length ≤ sizeLine ∧ ∀ p H', H1 p = none → H' = upd H1 p (.tup xs) → Q (.ref p) H' :=
    funext fun xs => funext fun H1 => propext ⟨fun h => ⟨h.1, fun p H' hp e => by rw [e]; exact h.2 p hp⟩, fun h => ⟨h.1, fun p hp => h.2 p _ hp rfl⟩⟩
  rw [e]; exact h
/-- sequences -/
theorem r_ixL {K : PySem.W.Frag} {p : Addr} {xs : List V} {k : Int} (h1 : SqL K H p xs) (h2 : atI xs k = some v) (h : Q v H) : rIxL K (.ref p) (.int k) H Q := ⟨p, xs, k, v, rfl, rfl, h1, h2, h⟩
theorem r_slL {K : PySem.W.Frag} {p : Addr} {xs : List V} {lo hi : Option Int} (h1 : SqL K H p xs) (h : ∀ q H', H q = none → H' = upd H q (.lst (cutV xs lo hi)) → Q (.ref q) H') : rSlL K (.ref p) lo hi H Q :=
  ⟨p, xs, rfl, h1, fun q hq => h q _ hq rfl⟩
theorem r_sl {r : V → Option Int → Option Int → Hp → VK → Prop} {tl th : TO} (h : te σ H fun x H1 => tl σ H1 fun l H2 => th σ H2 fun u H3 => r x l u H3 Q) : tSl r te tl th σ H Q := h
theorem r_noPart {QO : Option Int → Hp → Prop} (h : QO none H) : tNoPart σ H QO := h
theorem r_part {QO : Option Int → Hp → Prop} (h : te σ H fun x H1 => ∃ i, x = .int i ∧ QO (some i) H1) : tPart te σ H QO := h
theorem r_int {n : Int} {P : Int → Prop} (h : P n) : ∃ n', V.int n = V.int n' ∧ P n' := ⟨n, rfl, h⟩
theorem r_cat {a b : Addr} {xs zs : List V} (h1 : H a = some (.lst xs)) (h2 : H b = some (.lst zs)) (hl : xs.length + zs.length ≤ sizeLine) (h : ∀ q H', H q = none → H' = upd H q (.lst (xs ++ zs)) → Q (.ref q) H') : rCat (.ref a) (.ref b) H Q :=
  ⟨a, b, xs, zs, rfl, rfl, h1, h2, hl, fun q hq => h q _ hq rfl⟩
theorem r_append {a : Addr} {xs : List V} {y : V} (h1 : H a = some (.lst xs)) (hl : xs.length < sizeLine) (h : ∀ H', H' = upd H a (.lst (xs ++ [y])) → Q .non H') : rAppend (.ref a) [y] H Q :=
  ⟨a, xs, y, rfl, rfl, h1, hl, h _ rfl⟩
theorem r_bm {K : PySem.W.Frag} {T : String} {r : V → List V → Hp → VK → Prop} (h : te σ H fun x H1 => tyV K T x H1 ∧ tA σ H1 fun xs H2 => r x xs H2 Q) : tBM K T r te tA σ H Q := h
theorem r_bm0 {K : PySem.W.Frag} {T : String} {r : V → List V → Hp → VK → Prop} (h : te σ H fun x H1 => tyV K T x H1 ∧ r x [] H1 Q) : tBM0 K T r te σ H Q := h
theorem r_sub {to ti : TE} {s : TSet} (h : to σ H fun o H1 => ti σ H1 fun i H2 => s o i v H2 fun H3 => QS σ H3) : gSub to ti s v σ H QS := h
theorem r_setL {a : Addr} {xs : List V} {k : Int} {j : Nat} {w : V} {QH : Hp → Prop} (h1 : H a = some (.lst xs)) (h2 : ixN xs.length k = some j) (h : ∀ H', H' = upd H a (.lst (xs.set j w)) → QH H') : rSetL (.ref a) (.int k) w H QH :=
  ⟨a, xs, k, j, rfl, rfl, h1, h2, h _ rfl⟩
theorem r_gtup {K : PySem.W.Frag} {n : Nat} {tg : TGs} {a : Addr} {xs : List V} (h1 : SqT K H a xs) (h2 : xs.length = n) (h : tg xs σ H QS) : gTup K n tg (.ref a) σ H QS := ⟨a, xs, rfl, h1, h2, h⟩
theorem r_gcons {tg : TGs} {xs : List V} (h : g v σ H fun σ' H' => tg xs σ' H' QS) : gCons g tg (v :: xs) σ H QS := ⟨v, xs, rfl, h⟩
theorem r_gnil (h : QS σ H) : gNil [] σ H QS := ⟨rfl, h⟩
theorem r_if {p : Prop} [Decidable p] {A B : Prop} (h1 : p → A) (h2 : ¬ p → B) : if decide p = true then A else B := by
  by_cases h : p
  · rw [if_pos (decide_eq_true h)]; exact h1 h
  · rw [if_neg (by simp [h])]; exact h2 h
theorem r_ifn {p : Prop} [Decidable p] {A B : Prop} (h1 : ¬ p → A) (h2 : p → B) : if (!decide p) = true then A else B := by
  by_cases h : p
  · rw [if_neg (by simp [h])]; exact h2 h
  · rw [if_pos (by simp [h])]; exact h1 h
end

/-! ### the ledger: what stands at the addresses that the def made or may change -/
structure Led (H0 : Hp) (S : List Addr) (H : Hp) (l : List (Addr × HO)) : Prop where
  nd : (l.map (·.1)).Nodup
  has : ∀ p ∈ l, H p.1 = some p.2
  keep : ∀ b o, H0 b = some o → b ∉ S → H b = some o
  own : ∀ p ∈ l, ∀ o, H0 p.1 = some o → p.1 ∈ S
inductive Up (a : Addr) (o o' : HO) : List (Addr × HO) → List (Addr × HO) → Prop
  | head {l : List (Addr × HO)} : Up a o o' ((a, o) :: l) ((a, o') :: l)
  | tail {q : Addr × HO} {l l' : List (Addr × HO)} : Up a o o' l l' → Up a o o' (q :: l) (q :: l')
section
variable {H0 H H' : Hp} {S : List Addr} {l l' : List (Addr × HO)} {a p : Addr} {o o' : HO}
theorem Up.mem (u : Up a o o' l l') : (a, o) ∈ l := by
  induction u with
  | head => exact List.Mem.head _
  | tail _ ih => exact List.Mem.tail _ ih
theorem Up.fst (u : Up a o o' l l') : l'.map (·.1) = l.map (·.1) := by
  induction u with
  | head => rfl
  | tail _ ih => rw [List.map_cons, List.map_cons, ih]
theorem Up.of_mem (u : Up a o o' l l') (nd : (l.map (·.1)).Nodup) {q : Addr × HO} (h : q ∈ l') : q = (a, o') ∨ (q ∈ l ∧ q.1 ≠ a) := by
  induction u with
  | @head l =>
    rcases List.mem_cons.mp h with e | h
    · exact .inl e
    · refine .inr ⟨List.mem_cons_of_mem _ h, fun e => ?_⟩
      rw [List.map_cons] at nd
      exact (List.nodup_cons.mp nd).1 (List.mem_map.mpr ⟨q, h, e⟩)
  | @tail q' l l' u ih =>
    rw [List.map_cons] at nd
    obtain ⟨n1, n2⟩ := List.nodup_cons.mp nd
    rcases List.mem_cons.mp h with e | h
    · subst e
      refine .inr ⟨List.mem_cons_self, fun e => n1 ?_⟩
      rw [e]
      exact List.mem_map.mpr ⟨_, u.mem, rfl⟩
    · rcases ih n2 h with e | ⟨h1, h2⟩
      · exact .inl e
      · exact .inr ⟨List.mem_cons_of_mem _ h1, h2⟩
theorem Led.start : Led H [] H [] := ⟨List.nodup_nil, fun _ h => (nomatch h), fun _ _ h _ => h, fun _ h => (nomatch h)⟩
theorem Led.get (L : Led H0 S H l) (m : (a, o) ∈ l) : H a = some o := L.has _ m
theorem Led.old (L : Led H0 S H l) (h : H0 a = some o) (n : a ∉ S) : H a = some o := L.keep _ _ h n
theorem Led.new (L : Led H0 S H l) (hp : H p = none) (e : H' = upd H p o) : Led H0 S H' ((p, o) :: l) := by
  subst e
  have np : ∀ q ∈ l, q.1 ≠ p := fun q hq => ne_of_none (L.has q hq) hp
  refine ⟨?_, fun q hq => ?_, fun b u hb hs => ?_, fun q hq u hu => ?_⟩
  · rw [List.map_cons]
    refine List.nodup_cons.mpr ⟨fun m => ?_, L.nd⟩
    obtain ⟨q, hq, eq⟩ := List.mem_map.mp m
    exact np q hq eq
  · rcases List.mem_cons.mp hq with e | hq
    · subst e; exact upd_same
    · rw [upd_ne (np q hq)]; exact L.has q hq
  · have h1 := L.keep b u hb hs
    rw [upd_ne (ne_of_none h1 hp)]; exact h1
  · rcases List.mem_cons.mp hq with e | hq
    · subst e
      by_cases hs : p ∈ S
      · exact hs
      · have h1 : H p = some u := L.keep _ u hu hs
        rw [hp] at h1; cases h1
    · exact L.own q hq u hu
theorem Led.put (L : Led H0 S H l) (u : Up a o o' l l') (e : H' = upd H a o') : Led H0 S H' l' := by
  subst e
  refine ⟨by rw [u.fst]; exact L.nd, fun q hq => ?_, fun b x hb hs => ?_, fun q hq x hx => ?_⟩
  · rcases u.of_mem L.nd hq with e | ⟨h1, h2⟩
    · subst e; exact upd_same
    · rw [upd_ne h2]; exact L.has q h1
  · have hne : b ≠ a := fun z => by subst z; exact hs (L.own _ u.mem x hb)
    rw [upd_ne hne]; exact L.keep b x hb hs
  · rcases u.of_mem L.nd hq with e | ⟨h1, _⟩
    · subst e; exact L.own (a, o) u.mem x hx
    · exact L.own q h1 x hx
theorem Led.call (L : Led H0 S H l) (s : Same H H') : Led H0 S H' l :=
  ⟨L.nd, fun q hq => s _ _ (L.has q hq), fun b o h n => s _ _ (L.keep b o h n), L.own⟩
theorem Led.callNew (L : Led H0 S H l) (s : Same H H') (hp : H p = none) (h : H' p = some o) : Led H0 S H' ((p, o) :: l) := by
  have np : ∀ q ∈ l, q.1 ≠ p := fun q hq => ne_of_none (L.has q hq) hp
  refine ⟨?_, fun q hq => ?_, fun b o h n => s _ _ (L.keep b o h n), fun q hq u hu => ?_⟩
  · rw [List.map_cons]
    refine List.nodup_cons.mpr ⟨fun m => ?_, L.nd⟩
    obtain ⟨q, hq, eq⟩ := List.mem_map.mp m
    exact np q hq eq
  · rcases List.mem_cons.mp hq with e | hq
    · subst e; exact h
    · exact s _ _ (L.has q hq)
  · rcases List.mem_cons.mp hq with e | hq
    · subst e
      by_cases hs : p ∈ S
      · exact hs
      · have h1 : H p = some u := L.keep _ u hu hs
        rw [hp] at h1; cases h1
    · exact L.own q hq u hu
theorem Led.sub (L : Led H0 S H l) (h : l'.Sublist l) : Led H0 S H l' :=
  ⟨(h.map _).nodup L.nd, fun q hq => L.has q (h.subset hq), L.keep, fun q hq => L.own q (h.subset hq)⟩
theorem Led.same (L : Led H0 [] H l) : Same H0 H := fun b o h => L.keep b o h (by simp)
end

/-! ### a def that may be called -/
structure Df (P : Program) (w : World) (K : PySem.W.Frag) (mg : Str → Option Value) (base : Heap) (x : Str) (ps : List Str) (k : Nat) (sp : Sp) : Prop where
  ex : ∃ (f : Addr) (fd : FuncData), mg x = some (.ref f) ∧ PySem.W.keepIn K (.ref f) = true ∧ Binds K fd ps [] ∧ FnOk P w K mg base CX0 k f fd ps sp
section
variable {X : Cx} {x : Str} {ps : List Str} {k : Nat} {sp : Sp} {p pos : Pos} {e : Expr} {es : List Expr} {t : TA}
theorem pe_cd (G : Df X.prog X.w X.K X.mg X.base x ps k sp) (hr : Room k X.A) (hg : Gl X x) (ha : PA X (e :: es) t) (hdb : (x == ("__debug__" : Str)) = false := by decide) (he : starEach (e :: es) X.env = (false, eval e X.env) :: starEach es X.env := by rfl) (hpl : (backTo pos (starEach es X.env)).any (·.1) = false := by rfl) :
    PE X (.Call (.Name x p) (e :: es) [] pos) (tCall sp [] E0 t) := by
  obtain ⟨f, fd, hm, hk, hb, F⟩ := G.ex
  exact pe_call F hr hg hm hk hb .nil pass0 ha hdb he hpl
theorem Df.mono {P : Program} {w : World} {K : PySem.W.Frag} {mg : Str → Option Value} {base : Heap} {j : Nat} (G : Df P w K mg base x ps j sp) (h : j ≤ k) : Df P w K mg base x ps k sp := by
  obtain ⟨f, fd, hm, hk, hb, F⟩ := G.ex
  exact ⟨f, fd, hm, hk, hb, F.mono h⟩
theorem Df.imp {P : Program} {w : World} {K : PySem.W.Frag} {mg : Str → Option Value} {base : Heap} {sp' : Sp} (G : Df P w K mg base x ps k sp) (h : ∀ vs H Q E, sp' vs H Q E → sp vs H Q E) : Df P w K mg base x ps k sp' := by
  obtain ⟨f, fd, hm, hk, hb, F⟩ := G.ex
  exact ⟨f, fd, hm, hk, hb, F.imp h⟩
end
/-- a def of the text as it stands behind the top, by its name -/
structure Tx (K : PySem.W.Frag) (mg : Str → Option Value) (x : Str) (st : Stmt) (ps : List Str) : Prop where
  ex : ∃ (f : Addr) (fd : FuncData), mg x = some (.ref f) ∧ Fun K x x st f fd ∧ Binds K fd ps []
theorem Tx.ok {P : Program} {w : World} {K : PySem.W.Frag} {mg : Str → Option Value} {base : Heap} {x : Str} {st : Stmt} {N ps : List Str} {k : Nat} {sp : Sp} (T : Tx K mg x st ps) (S : FnScope N ps (defScope st)) (len : ∀ vs H Q E, sp vs H Q E → vs.length = ps.length)
    (hbody : ∀ (f : Addr) (cdv : Value) (A : Around) (outer : List Env) (s : Shared) (H : Hp) (vs : List V) (Q : VK) (E : XK), Room k (A.deeper (envOfC x (defScope st) s.heap.objs.size f cdv)) → sp vs H Q E →
      ∃ t, PSs (cxOf CX0 P w K mg base N x (defScope st) f cdv A outer s H E).nox (defBody st) t ∧ t { nx := fun _ H' => Q .non H', rt := Q } (start N vs) H) : Df P w K mg base x ps (k + 1) sp := by
  obtain ⟨f, fd, hm, F, hb⟩ := T.ex
  exact ⟨f, fd, hm, F.kp, hb, F.ok S len (fun cdv A outer s H vs Q E hr h => hbody f cdv A outer s H vs Q E hr h)⟩
end Hb
namespace Hb
open PySem PySem.Spec L2
theorem r_exI {n : Int} {P : Int → Prop} (h : P n) : ∃ i, [V.int n] = [V.int i] ∧ P i := ⟨n, rfl, h⟩
theorem r_exB {b : Bool} {P : Int → Prop} {R : Bool → Prop} (h : R b) : (∃ i, [V.bl b] = [V.int i] ∧ P i) ∨ ∃ k, [V.bl b] = [V.bl k] ∧ R k := .inr ⟨b, rfl, h⟩
theorem small_le {n : Nat} (h : n ≤ 100000) : n ≤ sizeLine := Nat.le_trans h (by decide)
theorem small_lt {n : Nat} (h : n < 100000) : n < sizeLine := Nat.lt_of_lt_of_le h (by decide)
/-- an item of a list by a place that is in it -/
theorem at_ex {xs : List V} {z : Int} (h0 : 0 ≤ z) (h1 : z < xs.length) : ∃ v, atI xs z = some v ∧ xs[z.toNat]? = some v := by
  have hl : z.toNat < xs.length := by omega
  refine ⟨xs[z.toNat], ?_, by simp [hl]⟩
  exact at_of (j := z.toNat) (by omega) (by simp [hl])
theorem ix_lit {n j : Nat} {k : Int} (e : k = j) (h : j < n) : ixN n k = some j := by
  subst e
  unfold ixN
  rw [if_pos (by omega), if_pos (by omega)]
  simp
end Hb
namespace Hb
open PySem L2
theorem r_v0 {v : V} {l : L2.St} {H : Hp} {Q : VK} (h : Q v H) : tVar 0 (some v :: l) H Q := ⟨v, rfl, h⟩
theorem r_nm1 {x0 x1 : Option V} {v : V} {l : L2.St} {H : Hp} {QS : L2.St → Hp → Prop} (h : QS (x0 :: some v :: l) H) : gName 1 v (x0 :: x1 :: l) H QS := h
theorem r_v1 {x0 : Option V} {v : V} {l : L2.St} {H : Hp} {Q : VK} (h : Q v H) : tVar 1 (x0 :: some v :: l) H Q := ⟨v, rfl, h⟩
theorem r_nm2 {x0 x1 x2 : Option V} {v : V} {l : L2.St} {H : Hp} {QS : L2.St → Hp → Prop} (h : QS (x0 :: x1 :: some v :: l) H) : gName 2 v (x0 :: x1 :: x2 :: l) H QS := h
theorem r_v2 {x0 x1 : Option V} {v : V} {l : L2.St} {H : Hp} {Q : VK} (h : Q v H) : tVar 2 (x0 :: x1 :: some v :: l) H Q := ⟨v, rfl, h⟩
theorem r_nm3 {x0 x1 x2 x3 : Option V} {v : V} {l : L2.St} {H : Hp} {QS : L2.St → Hp → Prop} (h : QS (x0 :: x1 :: x2 :: some v :: l) H) : gName 3 v (x0 :: x1 :: x2 :: x3 :: l) H QS := h
theorem r_v3 {x0 x1 x2 : Option V} {v : V} {l : L2.St} {H : Hp} {Q : VK} (h : Q v H) : tVar 3 (x0 :: x1 :: x2 :: some v :: l) H Q := ⟨v, rfl, h⟩
theorem r_nm4 {x0 x1 x2 x3 x4 : Option V} {v : V} {l : L2.St} {H : Hp} {QS : L2.St → Hp → Prop} (h : QS (x0 :: x1 :: x2 :: x3 :: some v :: l) H) : gName 4 v (x0 :: x1 :: x2 :: x3 :: x4 :: l) H QS := h
theorem r_v4 {x0 x1 x2 x3 : Option V} {v : V} {l : L2.St} {H : Hp} {Q : VK} (h : Q v H) : tVar 4 (x0 :: x1 :: x2 :: x3 :: some v :: l) H Q := ⟨v, rfl, h⟩
theorem r_nm5 {x0 x1 x2 x3 x4 x5 : Option V} {v : V} {l : L2.St} {H : Hp} {QS : L2.St → Hp → Prop} (h : QS (x0 :: x1 :: x2 :: x3 :: x4 :: some v :: l) H) : gName 5 v (x0 :: x1 :: x2 :: x3 :: x4 :: x5 :: l) H QS := h
theorem r_v5 {x0 x1 x2 x3 x4 : Option V} {v : V} {l : L2.St} {H : Hp} {Q : VK} (h : Q v H) : tVar 5 (x0 :: x1 :: x2 :: x3 :: x4 :: some v :: l) H Q := ⟨v, rfl, h⟩
theorem r_nm6 {x0 x1 x2 x3 x4 x5 x6 : Option V} {v : V} {l : L2.St} {H : Hp} {QS : L2.St → Hp → Prop} (h : QS (x0 :: x1 :: x2 :: x3 :: x4 :: x5 :: some v :: l) H) : gName 6 v (x0 :: x1 :: x2 :: x3 :: x4 :: x5 :: x6 :: l) H QS := h
theorem r_v6 {x0 x1 x2 x3 x4 x5 : Option V} {v : V} {l : L2.St} {H : Hp} {Q : VK} (h : Q v H) : tVar 6 (x0 :: x1 :: x2 :: x3 :: x4 :: x5 :: some v :: l) H Q := ⟨v, rfl, h⟩
theorem r_nm7 {x0 x1 x2 x3 x4 x5 x6 x7 : Option V} {v : V} {l : L2.St} {H : Hp} {QS : L2.St → Hp → Prop} (h : QS (x0 :: x1 :: x2 :: x3 :: x4 :: x5 :: x6 :: some v :: l) H) : gName 7 v (x0 :: x1 :: x2 :: x3 :: x4 :: x5 :: x6 :: x7 :: l) H QS := h
theorem r_v7 {x0 x1 x2 x3 x4 x5 x6 : Option V} {v : V} {l : L2.St} {H : Hp} {Q : VK} (h : Q v H) : tVar 7 (x0 :: x1 :: x2 :: x3 :: x4 :: x5 :: x6 :: some v :: l) H Q := ⟨v, rfl, h⟩
theorem r_nm8 {x0 x1 x2 x3 x4 x5 x6 x7 x8 : Option V} {v : V} {l : L2.St} {H : Hp} {QS : L2.St → Hp → Prop} (h : QS (x0 :: x1 :: x2 :: x3 :: x4 :: x5 :: x6 :: x7 :: some v :: l) H) : gName 8 v (x0 :: x1 :: x2 :: x3 :: x4 :: x5 :: x6 :: x7 :: x8 :: l) H QS := h
theorem r_v8 {x0 x1 x2 x3 x4 x5 x6 x7 : Option V} {v : V} {l : L2.St} {H : Hp} {Q : VK} (h : Q v H) : tVar 8 (x0 :: x1 :: x2 :: x3 :: x4 :: x5 :: x6 :: x7 :: some v :: l) H Q := ⟨v, rfl, h⟩
theorem r_nm9 {x0 x1 x2 x3 x4 x5 x6 x7 x8 x9 : Option V} {v : V} {l : L2.St} {H : Hp} {QS : L2.St → Hp → Prop} (h : QS (x0 :: x1 :: x2 :: x3 :: x4 :: x5 :: x6 :: x7 :: x8 :: some v :: l) H) : gName 9 v (x0 :: x1 :: x2 :: x3 :: x4 :: x5 :: x6 :: x7 :: x8 :: x9 :: l) H QS := h
theorem r_v9 {x0 x1 x2 x3 x4 x5 x6 x7 x8 : Option V} {v : V} {l : L2.St} {H : Hp} {Q : VK} (h : Q v H) : tVar 9 (x0 :: x1 :: x2 :: x3 :: x4 :: x5 :: x6 :: x7 :: x8 :: some v :: l) H Q := ⟨v, rfl, h⟩
theorem r_nm10 {x0 x1 x2 x3 x4 x5 x6 x7 x8 x9 x10 : Option V} {v : V} {l : L2.St} {H : Hp} {QS : L2.St → Hp → Prop} (h : QS (x0 :: x1 :: x2 :: x3 :: x4 :: x5 :: x6 :: x7 :: x8 :: x9 :: some v :: l) H) : gName 10 v (x0 :: x1 :: x2 :: x3 :: x4 :: x5 :: x6 :: x7 :: x8 :: x9 :: x10 :: l) H QS := h
theorem r_v10 {x0 x1 x2 x3 x4 x5 x6 x7 x8 x9 : Option V} {v : V} {l : L2.St} {H : Hp} {Q : VK} (h : Q v H) : tVar 10 (x0 :: x1 :: x2 :: x3 :: x4 :: x5 :: x6 :: x7 :: x8 :: x9 :: some v :: l) H Q := ⟨v, rfl, h⟩
theorem r_nm11 {x0 x1 x2 x3 x4 x5 x6 x7 x8 x9 x10 x11 : Option V} {v : V} {l : L2.St} {H : Hp} {QS : L2.St → Hp → Prop} (h : QS (x0 :: x1 :: x2 :: x3 :: x4 :: x5 :: x6 :: x7 :: x8 :: x9 :: x10 :: some v :: l) H) : gName 11 v (x0 :: x1 :: x2 :: x3 :: x4 :: x5 :: x6 :: x7 :: x8 :: x9 :: x10 :: x11 :: l) H QS := h
theorem r_v11 {x0 x1 x2 x3 x4 x5 x6 x7 x8 x9 x10 : Option V} {v : V} {l : L2.St} {H : Hp} {Q : VK} (h : Q v H) : tVar 11 (x0 :: x1 :: x2 :: x3 :: x4 :: x5 :: x6 :: x7 :: x8 :: x9 :: x10 :: some v :: l) H Q := ⟨v, rfl, h⟩
end Hb

set_option Elab.async false
set_option linter.all false
set_option maxRecDepth 100000
set_option maxHeartbeats 4000000
namespace Hb
open PySem PySem.Spec L2
/-- all but one address stay -/
def Kp (a : Addr) (H H' : Hp) : Prop := ∀ b u, H b = some u → b ≠ a → H' b = some u
section
variable {H0 H H' : Hp} {S : List Addr} {l l' : List (Addr × HO)} {a p : Addr} {o o' op : HO}
theorem Led.mut (L : Led H0 S H l) (u : Up a o o' l l') (k : Kp a H H') (h : H' a = some o') : Led H0 S H' l' := by
  refine ⟨by rw [u.fst]; exact L.nd, fun q hq => ?_, fun b x hb hs => ?_, fun q hq x hx => ?_⟩
  · rcases u.of_mem L.nd hq with e | ⟨h1, h2⟩
    · subst e; exact h
    · exact k _ _ (L.has q h1) h2
  · have hne : b ≠ a := fun z => by subst z; exact hs (L.own _ u.mem x hb)
    exact k _ _ (L.keep b x hb hs) hne
  · rcases u.of_mem L.nd hq with e | ⟨h1, _⟩
    · subst e; exact L.own (a, o) u.mem x hx
    · exact L.own q h1 x hx

theorem Led.get0 (L : Led H0 S H ((a, o) :: l)) : H a = some o := L.get (List.Mem.head _)
theorem Led.put0 (L : Led H0 S H ((a, o) :: l)) (e : H' = upd H a o') : Led H0 S H' ((a, o') :: l) := L.put Up.head e
theorem Led.get1 {q0 : Addr × HO} (L : Led H0 S H (q0 :: (a, o) :: l)) : H a = some o := L.get (List.Mem.tail _ (List.Mem.head _))
theorem Led.put1 {q0 : Addr × HO} (L : Led H0 S H (q0 :: (a, o) :: l)) (e : H' = upd H a o') : Led H0 S H' (q0 :: (a, o') :: l) := L.put (Up.tail Up.head) e
theorem Led.get2 {q0 q1 : Addr × HO} (L : Led H0 S H (q0 :: q1 :: (a, o) :: l)) : H a = some o := L.get (List.Mem.tail _ (List.Mem.tail _ (List.Mem.head _)))
theorem Led.put2 {q0 q1 : Addr × HO} (L : Led H0 S H (q0 :: q1 :: (a, o) :: l)) (e : H' = upd H a o') : Led H0 S H' (q0 :: q1 :: (a, o') :: l) := L.put (Up.tail (Up.tail Up.head)) e
theorem Led.get3 {q0 q1 q2 : Addr × HO} (L : Led H0 S H (q0 :: q1 :: q2 :: (a, o) :: l)) : H a = some o := L.get (List.Mem.tail _ (List.Mem.tail _ (List.Mem.tail _ (List.Mem.head _))))
theorem Led.get4 {q0 q1 q2 q3 : Addr × HO} (L : Led H0 S H (q0 :: q1 :: q2 :: q3 :: (a, o) :: l)) : H a = some o := L.get (List.Mem.tail _ (List.Mem.tail _ (List.Mem.tail _ (List.Mem.tail _ (List.Mem.head _)))))
theorem Led.get5 {q0 q1 q2 q3 q4 : Addr × HO} (L : Led H0 S H (q0 :: q1 :: q2 :: q3 :: q4 :: (a, o) :: l)) : H a = some o := L.get (List.Mem.tail _ (List.Mem.tail _ (List.Mem.tail _ (List.Mem.tail _ (List.Mem.tail _ (List.Mem.head _))))))
theorem Led.put5 {q0 q1 q2 q3 q4 : Addr × HO} (L : Led H0 S H (q0 :: q1 :: q2 :: q3 :: q4 :: (a, o) :: l)) (e : H' = upd H a o') : Led H0 S H' (q0 :: q1 :: q2 :: q3 :: q4 :: (a, o') :: l) := L.put (Up.tail (Up.tail (Up.tail (Up.tail (Up.tail Up.head))))) e
end
end Hb
namespace Hb
open PySem PySem.Spec L2
section
variable {H0 H H1 H' : Hp} {S : List Addr} {l : List (Addr × HO)} {q : Addr × HO} {σ : L2.St} {Q : VK} {K : PySem.W.Frag} {a : Addr} {xs : List V} {o : HO}
def rLenQ (K : PySem.W.Frag) : List V → Hp → VK → Prop := fun xs H Q => ∃ p ys, xs = [.ref p] ∧ (SqL K H p ys ∨ SqT K H p ys) ∧ Q (.int ys.length) H
def rListQ (K : PySem.W.Frag) : List V → Hp → VK → Prop := fun xs H Q => ∃ p ys, xs = [.ref p] ∧ (SqL K H p ys ∨ SqT K H p ys) ∧ ∀ l, H l = none → Q (.ref l) (upd H l (.lst ys))
theorem call_lenQ {X : Cx} : CallR X (.builtin "len") (rLenQ X.K) := call_len_seq
theorem call_listQ {X : Cx} : CallR X (.type "list") (rListQ X.K) := call_list_of
theorem Led.oldL (L : Led H0 [] H l) (h : SqL K H0 a xs) : SqL K H a xs := L.same.seq h
theorem Led.drop0 (L : Led H0 S H (q :: l)) : Led H0 S H l := L.sub (List.sublist_cons_self _ _)
theorem Led.drop1 {q1 : Addr × HO} (L : Led H0 S H (q1 :: q :: l)) : Led H0 S H (q1 :: l) := L.sub ((List.sublist_cons_self _ _).cons₂ _)
theorem Led.drop2 {q1 q2 : Addr × HO} (L : Led H0 S H (q1 :: q2 :: q :: l)) : Led H0 S H (q1 :: q2 :: l) := L.sub (((List.sublist_cons_self _ _).cons₂ _).cons₂ _)
theorem r_new {n : Nat} {P : Addr → Hp → Prop} (h1 : n ≤ 100000) (h : ∀ p H', H1 p = none → H' = upd H1 p o → P p H') : n ≤ sizeLine ∧ ∀ p H', H1 p = none → H' = upd H1 p o → P p H' := ⟨small_le h1, h⟩
theorem r_tyL {B : Prop} (h : SqL K H a xs) (k : B) : tyV K "list" (.ref a) H ∧ B := ⟨.inl ⟨rfl, _, h⟩, k⟩
theorem r_sel {z : Int} (h : SqL K H a xs) (h0 : 0 ≤ z) (h1 : z < xs.length) (k : ∀ v, xs[z.toNat]? = some v → v ∈ xs → Q v H) : rIxL K (.ref a) (.int z) H Q := by
  obtain ⟨v, e1, e2⟩ := at_ex h0 h1
  exact ⟨a, xs, z, v, rfl, rfl, h, e1, k v e2 (List.mem_of_getElem? e2)⟩
theorem r_lenL (h : SqL K H a xs) (k : Q (.int xs.length) H) : rLenQ K [V.ref a] H Q := ⟨a, xs, rfl, .inl h, k⟩
theorem r_lenT (h : SqT K H a xs) (k : Q (.int xs.length) H) : rLenQ K [V.ref a] H Q := ⟨a, xs, rfl, .inr h, k⟩
theorem r_listOf (h : SqL K H a xs) (k : ∀ q H', H q = none → H' = upd H q (.lst xs) → Q (.ref q) H') : rListQ K [V.ref a] H Q :=
  ⟨a, xs, rfl, .inl h, fun l hl => k l _ hl rfl⟩
end
end Hb

set_option Elab.async false
set_option linter.all false
set_option maxRecDepth 100000
set_option maxHeartbeats 4000000
namespace Hb
open PySem PySem.Spec L2
section
variable {wi : TI} {g : TG} {tb : TS} {D : Ends} {σ : L2.St} {H : Hp} {Q : VK} {ta : TA} {tl te : TE} {tt : TT} {K : PySem.W.Frag} {a : Addr} {xs : List V} {vs : List Nat} {σw : L2.St}
/-- unfoldings -/
theorem r_for (h : wi σ H fun J H1 => ∃ W : Nat → Nat → L2.St → Hp → Prop, (∃ m, W 0 m σ H1) ∧ ∀ i m σ H, W i m σ H →
  (J.stop i H ∧ D.nx σ H) ∨ (J.go i H ∧ ∃ N : L2.St → Hp → Prop, (∀ σ' H', N σ' H' → ∃ m', m' < m ∧ W (i + 1) m' σ' H') ∧ ∀ x H', J.yld i H x H' → g x σ H' fun σ2 H2 => tb { D with nx := N, ct := N, bk := D.nx } σ2 H2)) : tFor wi g tb D σ H := h
theorem r_rng1 {R : It → Hp → Prop} (h : ta σ H fun vs H1 => ∃ j : Int, vs = [.int j] ∧ -(2 ^ 62) ≤ j ∧ j < 2 ^ 62 ∧ R (Itr 0 j.toNat) H1) : iRng1 ta σ H R := h
theorem r_rng2 {R : It → Hp → Prop} (h : ta σ H fun vs H1 => ∃ i j : Int, vs = [.int i, .int j] ∧ (-(2 ^ 62) ≤ i ∧ i < 2 ^ 62 ∧ -(2 ^ 62) ≤ j ∧ j < 2 ^ 62) ∧ R (Itr i (j - i).toNat) H1) : iRng2 ta σ H R := h
theorem r_ilist {R : It → Hp → Prop} (h : tl σ H fun x H1 => ∃ a, x = .ref a ∧ (∃ xs, SqL K H1 a xs) ∧ R (Itl K a) H1) : iList K tl σ H R := h
theorem r_ienum {R : It → Hp → Prop} (h : ta σ H fun vs H1 => ∃ a xs, vs = [.ref a] ∧ SqL K H1 a xs ∧ R (Ite K a) H1) : iEnum K ta σ H R := h
theorem r_lc (h : wi σ H fun J H1 => ∀ D, H1 D = none → ∃ W : Nat → Nat → Hp → Prop, (∃ m, W 0 m (upd H1 D (.lst []))) ∧ ∀ i m H, W i m H →
  (J.stop i H ∧ Q (.ref D) H) ∨ (J.go i H ∧ ∃ Nx : Hp → Prop, (∀ H', Nx H' → ∃ m', m' < m ∧ W (i + 1) m' H') ∧ ∀ x H', J.yld i H x H' → g x (wipe σ vs) H' fun σ2 H2 => wipe σ2 vs = wipe σ vs ∧ tt σ2 H2 fun b H3 =>
    if b = true then te σ2 H3 fun y H4 => ∃ acc, H4 D = some (.lst acc) ∧ acc.length < sizeLine ∧ Nx (upd H4 D (.lst (acc ++ [y]))) else Nx H3)) : tLc wi g tt te vs σ H Q := h
theorem r_yes {QT : Bool → Hp → Prop} (h : QT true H) : tYes σ H QT := h
/-- for k in range(n) -/
theorem f_rng1 {n : Int} (hn0 : -100000 ≤ n) (hn : n ≤ 100000) (Pv : Nat → L2.St → Hp → Prop) (h0 : Pv 0 σ H)
    (hs : ∀ (i : Nat) σ H, (i : Int) < n → Pv i σ H → g (.int i) σ H fun σ2 H2 => tb { D with nx := Pv (i + 1), ct := Pv (i + 1), bk := D.nx } σ2 H2) (hd : ∀ σ H, Pv n.toNat σ H → D.nx σ H) :
    -(2 ^ 62) ≤ n ∧ n < 2 ^ 62 ∧ ∃ W : Nat → Nat → L2.St → Hp → Prop, (∃ m, W 0 m σ H) ∧ ∀ i m σ H, W i m σ H →
      ((Itr 0 n.toNat).stop i H ∧ D.nx σ H) ∨ ((Itr 0 n.toNat).go i H ∧ ∃ N : L2.St → Hp → Prop, (∀ σ' H', N σ' H' → ∃ m', m' < m ∧ W (i + 1) m' σ' H') ∧ ∀ x H', (Itr 0 n.toNat).yld i H x H' → g x σ H' fun σ2 H2 => tb { D with nx := N, ct := N, bk := D.nx } σ2 H2) := by
  refine ⟨by omega, by omega, for_range (lo := 0) (n := n.toNat) Pv h0 (fun i σ H hi p => ?_) hd⟩
  have e : (0 : Int) + (i : Int) = (i : Int) := by omega
  rw [e]
  exact hs i σ H (by omega) p
/-- for k in range(a, b) -/
theorem f_rng2 {lo hi : Int} (h1 : -100000 ≤ lo) (h2 : lo ≤ 100000) (h3 : -100000 ≤ hi) (h4 : hi ≤ 100000) (Pv : Nat → L2.St → Hp → Prop) (h0 : Pv 0 σ H)
    (hs : ∀ (i : Nat) σ H, lo + (i : Int) < hi → Pv i σ H → g (.int (lo + i)) σ H fun σ2 H2 => tb { D with nx := Pv (i + 1), ct := Pv (i + 1), bk := D.nx } σ2 H2) (hd : ∀ σ H, Pv (hi - lo).toNat σ H → D.nx σ H) :
    ∃ i j : Int, [V.int lo, V.int hi] = [V.int i, V.int j] ∧ (-(2 ^ 62) ≤ i ∧ i < 2 ^ 62 ∧ -(2 ^ 62) ≤ j ∧ j < 2 ^ 62) ∧ ∃ W : Nat → Nat → L2.St → Hp → Prop, (∃ m, W 0 m σ H) ∧ ∀ k m σ H, W k m σ H →
      ((Itr i (j - i).toNat).stop k H ∧ D.nx σ H) ∨ ((Itr i (j - i).toNat).go k H ∧ ∃ N : L2.St → Hp → Prop, (∀ σ' H', N σ' H' → ∃ m', m' < m ∧ W (k + 1) m' σ' H') ∧ ∀ x H', (Itr i (j - i).toNat).yld k H x H' → g x σ H' fun σ2 H2 => tb { D with nx := N, ct := N, bk := D.nx } σ2 H2) := by
  refine ⟨lo, hi, rfl, ⟨by omega, by omega, by omega, by omega⟩, for_range (lo := lo) (n := (hi - lo).toNat) Pv h0 (fun i σ H hi p => ?_) hd⟩
  exact hs i σ H (by omega) p
/-- for x in xs -/
theorem f_list (Pv : Nat → L2.St → Hp → Prop) (hx : SqL K H a xs) (h0 : Pv 0 σ H) (hl : ∀ i σ H, i ≤ xs.length → Pv i σ H → SqL K H a xs)
    (hs : ∀ i x σ H, xs[i]? = some x → Pv i σ H → g x σ H fun σ2 H2 => tb { D with nx := Pv (i + 1), ct := Pv (i + 1), bk := D.nx } σ2 H2) (hd : ∀ σ H, Pv xs.length σ H → D.nx σ H) :
    ∃ b, V.ref a = .ref b ∧ (∃ xs, SqL K H b xs) ∧ ∃ W : Nat → Nat → L2.St → Hp → Prop, (∃ m, W 0 m σ H) ∧ ∀ i m σ H, W i m σ H →
      ((Itl K b).stop i H ∧ D.nx σ H) ∨ ((Itl K b).go i H ∧ ∃ N : L2.St → Hp → Prop, (∀ σ' H', N σ' H' → ∃ m', m' < m ∧ W (i + 1) m' σ' H') ∧ ∀ x H', (Itl K b).yld i H x H' → g x σ H' fun σ2 H2 => tb { D with nx := N, ct := N, bk := D.nx } σ2 H2) :=
  ⟨a, rfl, ⟨xs, hx⟩, for_list Pv h0 hl hs hd⟩
/-- for i, x in enumerate(xs) -/
theorem f_enum (Pv : Nat → L2.St → Hp → Prop) (hx : SqL K H a xs) (h0 : Pv 0 σ H) (hl : ∀ i σ H, i ≤ xs.length → Pv i σ H → SqL K H a xs)
    (hs : ∀ i x σ H T H', xs[i]? = some x → Pv i σ H → H T = none → H' = upd H T (.tup [.int (i : Nat), x]) → g (.ref T) σ H' fun σ2 H2 => tb { D with nx := Pv (i + 1), ct := Pv (i + 1), bk := D.nx } σ2 H2) (hd : ∀ σ H, Pv xs.length σ H → D.nx σ H) :
    ∃ b ys, [V.ref a] = [V.ref b] ∧ SqL K H b ys ∧ ∃ W : Nat → Nat → L2.St → Hp → Prop, (∃ m, W 0 m σ H) ∧ ∀ i m σ H, W i m σ H →
      ((Ite K b).stop i H ∧ D.nx σ H) ∨ ((Ite K b).go i H ∧ ∃ N : L2.St → Hp → Prop, (∀ σ' H', N σ' H' → ∃ m', m' < m ∧ W (i + 1) m' σ' H') ∧ ∀ x H', (Ite K b).yld i H x H' → g x σ H' fun σ2 H2 => tb { D with nx := N, ct := N, bk := D.nx } σ2 H2) := by
  refine ⟨a, xs, rfl, hx, fun i m σ H => m = xs.length - i ∧ i ≤ xs.length ∧ Pv i σ H, ⟨xs.length, by simp, Nat.zero_le _, h0⟩, ?_⟩
  rintro i m σ H ⟨rfl, hi, p⟩
  have q := hl i σ H hi p
  by_cases hlt : i < xs.length
  · refine .inr ⟨⟨xs, xs[i], q, by simp [hlt]⟩, Pv (i + 1), fun σ' H' p' => ⟨xs.length - (i + 1), by omega, rfl, hlt, p'⟩, fun x H' y => ?_⟩
    obtain ⟨T, x', rfl, hT, e, y⟩ := y
    exact hs i x' σ H T H' (y xs q) p hT e
  · have e : i = xs.length := by omega
    subst e
    exact .inl ⟨⟨xs, q, Nat.le_refl _⟩, hd σ H p⟩
/-- comprehensions -/
theorem c_rng1 {Qd : Addr → Hp → Prop} {n : Int} (hn0 : -100000 ≤ n) (hn : n ≤ 100000) (hw : wipe σ vs = σw) (Pv : Addr → Nat → Hp → Prop) (h0 : ∀ D H', H D = none → H' = upd H D (.lst []) → Pv D 0 H')
    (hs : ∀ (D : Addr) (i : Nat) H', H D = none → (i : Int) < n → Pv D i H' → g (.int i) σw H' fun σ2 H2 => wipe σ2 vs = σw ∧ tt σ2 H2 fun b H3 =>
      if b = true then te σ2 H3 fun y H4 => ∃ acc, H4 D = some (.lst acc) ∧ acc.length < sizeLine ∧ Pv D (i + 1) (upd H4 D (.lst (acc ++ [y]))) else Pv D (i + 1) H3)
    (hd : ∀ D H', H D = none → Pv D n.toNat H' → Qd D H') :
    -(2 ^ 62) ≤ n ∧ n < 2 ^ 62 ∧ ∀ D, H D = none → ∃ W : Nat → Nat → Hp → Prop, (∃ m, W 0 m (upd H D (.lst []))) ∧ ∀ i m H, W i m H →
      ((Itr 0 n.toNat).stop i H ∧ Qd D H) ∨ ((Itr 0 n.toNat).go i H ∧ ∃ Nx : Hp → Prop, (∀ H', Nx H' → ∃ m', m' < m ∧ W (i + 1) m' H') ∧ ∀ x H', (Itr 0 n.toNat).yld i H x H' → g x (wipe σ vs) H' fun σ2 H2 => wipe σ2 vs = wipe σ vs ∧ tt σ2 H2 fun b H3 =>
        if b = true then te σ2 H3 fun y H4 => ∃ acc, H4 D = some (.lst acc) ∧ acc.length < sizeLine ∧ Nx (upd H4 D (.lst (acc ++ [y]))) else Nx H3) := by
  subst hw
  refine ⟨by omega, by omega, fun D hD => lc_range (lo := 0) (n := n.toNat) (Pv D) (h0 D _ hD rfl) (fun i H' hi p => ?_) fun H' p => hd D H' hD p⟩
  have e : (0 : Int) + (i : Int) = (i : Int) := by omega
  rw [e]
  exact hs D i H' hD (by omega) p
theorem c_list {Qd : Addr → Hp → Prop} (hx : SqL K H a xs) (hw : wipe σ vs = σw) (Pv : Addr → Nat → Hp → Prop) (h0 : ∀ D H', H D = none → H' = upd H D (.lst []) → Pv D 0 H') (hl : ∀ D i H', H D = none → i ≤ xs.length → Pv D i H' → SqL K H' a xs)
    (hs : ∀ (D : Addr) (i : Nat) x H', H D = none → xs[i]? = some x → Pv D i H' → g x σw H' fun σ2 H2 => wipe σ2 vs = σw ∧ tt σ2 H2 fun b H3 =>
      if b = true then te σ2 H3 fun y H4 => ∃ acc, H4 D = some (.lst acc) ∧ acc.length < sizeLine ∧ Pv D (i + 1) (upd H4 D (.lst (acc ++ [y]))) else Pv D (i + 1) H3)
    (hd : ∀ D H', H D = none → Pv D xs.length H' → Qd D H') :
    ∃ b, V.ref a = .ref b ∧ (∃ xs, SqL K H b xs) ∧ ∀ D, H D = none → ∃ W : Nat → Nat → Hp → Prop, (∃ m, W 0 m (upd H D (.lst []))) ∧ ∀ i m H, W i m H →
      ((Itl K b).stop i H ∧ Qd D H) ∨ ((Itl K b).go i H ∧ ∃ Nx : Hp → Prop, (∀ H', Nx H' → ∃ m', m' < m ∧ W (i + 1) m' H') ∧ ∀ x H', (Itl K b).yld i H x H' → g x (wipe σ vs) H' fun σ2 H2 => wipe σ2 vs = wipe σ vs ∧ tt σ2 H2 fun b H3 =>
        if b = true then te σ2 H3 fun y H4 => ∃ acc, H4 D = some (.lst acc) ∧ acc.length < sizeLine ∧ Nx (upd H4 D (.lst (acc ++ [y]))) else Nx H3) := by
  subst hw
  exact ⟨a, rfl, ⟨xs, hx⟩, fun D hD => lc_list (K := K) (a := a) (xs := xs) (Pv D) (h0 D _ hD rfl) (fun i H' hi p => hl D i H' hD hi p) (fun i x H' hi p => hs D i x H' hD hi p) fun H' p => hd D H' hD p⟩
end
section
variable {H0 H : Hp} {l : List (Addr × HO)} {p r : Addr} {o o' : HO}
theorem Led.fresh0 (L : Led H0 [] H ((p, o) :: l)) : H0 p = none := by
  cases e : H0 p with
  | none => rfl
  | some u => exact absurd (L.own _ (List.Mem.head _) u e) (by simp)
end
end Hb

set_option Elab.async false
set_option linter.all false
set_option maxRecDepth 100000
set_option maxHeartbeats 4000000
namespace Hb
open PySem PySem.Spec L2
section
variable {H0 H H1 H' : Hp} {D : Ends} {σ : L2.St} {Q : VK} {td ty tv te : TE} {K : PySem.W.Frag} {a d : Addr} {xs : List V} {kvs : List (Key × V)}
/-- None -/
theorem r_isN {P : Prop} (h : P) : V.non = V.non ∧ P := ⟨rfl, h⟩
end
/-- None or a place -/
def oV : Option Nat → V
  | none => .non
  | some j => .int j
def oI : Option Int → V
  | none => .non
  | some j => .int j
theorem cut_to {l : List V} {b : Int} (h0 : 0 ≤ b) : cutV l none (some b) = l.take b.toNat := by
  unfold cutV
  have e2 : HT.sIx l.length l.length (some b) = min b.toNat l.length := by
    show (if b < 0 then _ else min b.toNat l.length) = _
    rw [if_neg (by omega)]
  rw [e2]
  show (l.drop 0).take (min b.toNat l.length - 0) = _
  rw [List.drop_zero, Nat.sub_zero, List.take_eq_take_iff]
  omega
end Hb

set_option Elab.async false
set_option linter.all false
set_option maxRecDepth 100000
set_option maxHeartbeats 4000000
namespace Hb
open PySem PySem.Spec L2
section
variable {H0 H H1 H' : Hp} {D : Ends} {σ : L2.St} {Q : VK} {td ty tv te : TE} {K : PySem.W.Frag} {a b d : Addr} {xs ys : List V} {v : V}
theorem kt_int_bool {K : PySem.W.Frag} : PySem.W.kitOne K (.type "int") (.type "bool") = some false := by first | rfl | decide +kernel
theorem kt_int_int {K : PySem.W.Frag} : PySem.W.kitOne K (.type "int") (.type "int") = some true := by first | rfl | decide +kernel
theorem kt_int_str {K : PySem.W.Frag} : PySem.W.kitOne K (.type "int") (.type "str") = some false := by first | rfl | decide +kernel
theorem kt_list_str {K : PySem.W.Frag} : PySem.W.kitOne K (.type "list") (.type "str") = some false := by first | rfl | decide +kernel
theorem kt_list_list {K : PySem.W.Frag} : PySem.W.kitOne K (.type "list") (.type "list") = some true := by first | rfl | decide +kernel
theorem kt_tuple_str {K : PySem.W.Frag} : PySem.W.kitOne K (.type "tuple") (.type "str") = some false := by first | rfl | decide +kernel
theorem kt_tuple_list {K : PySem.W.Frag} : PySem.W.kitOne K (.type "tuple") (.type "list") = some false := by first | rfl | decide +kernel
theorem kt_str_str {K : PySem.W.Frag} : PySem.W.kitOne K (.type "str") (.type "str") = some true := by first | rfl | decide +kernel
theorem r_isi {n : String} {t : Value} {c : Bool} (h : TyOf K H v t) (e : PySem.W.kitOne K t (.type n) = some c) (k : Q (.bl c) H) : rIsi K [v, .ty n] H Q := ⟨v, t, n, c, rfl, h, e, k⟩
theorem r_isiI {i : Int} {n : String} {c : Bool} (e : PySem.W.kitOne K (.type "int") (.type n) = some c) (k : Q (.bl c) H) : rIsi K [.int i, .ty n] H Q := r_isi (.int i) e k
theorem r_isiL {n : String} {c : Bool} (h : H a = some (.lst xs)) (e : PySem.W.kitOne K (.type "list") (.type n) = some c) (k : Q (.bl c) H) : rIsi K [.ref a, .ty n] H Q := r_isi (.lst h) e k
theorem r_isiT {n : String} {c : Bool} (h : H a = some (.tup xs)) (e : PySem.W.kitOne K (.type "tuple") (.type n) = some c) (k : Q (.bl c) H) : rIsi K [.ref a, .ty n] H Q := r_isi (.tup h) e k
def vD : V → PyData
  | .bl b => .bool b
  | .int i => .int i
  | _ => .none
def flatOk : V → Bool
  | .non | .bl _ | .int _ => true
  | _ => false
theorem dp_flat : ∀ (xs : List V), xs.all flatOk = true → DpAll K H xs (xs.map vD)
  | [], _ => .nil
  | v :: xs, h => by
    rw [List.all_cons, Bool.and_eq_true] at h
    refine .cons ?_ (dp_flat xs h.2)
    cases v with
    | non => exact .non
    | bl b => exact .bl b
    | int i => exact .int i
    | _ => exact absurd h.1 (by simp [flatOk])
theorem lay_flat : ∀ (xs : List V), PyData.canLayAll0 (xs.map vD) = true ∧ PyData.depthAll (xs.map vD) = 0
  | [] => by simp [PyData.canLayAll0, PyData.depthAll]
  | v :: xs => by
    obtain ⟨h1, h2⟩ := lay_flat xs
    rw [List.map_cons]
    simp only [PyData.canLayAll0, PyData.depthAll, h1, h2]
    cases v <;> simp [vD, PyData.canLay0, PyData.depth]
theorem shaped_flat (xs : List V) : SeqAt.shaped (.list (xs.map vD)) = true := by
  obtain ⟨h1, h2⟩ := lay_flat xs
  simp [SeqAt.shaped, PyData.canLay0, PyData.depth, h1, h2]
theorem flat_ints (ns : List Int) : (ns.map V.int).all flatOk = true := by simp [flatOk]
theorem r_neSame (h1 : SqL K H a xs) (h2 : SqL K H b xs) (hf : xs.all flatOk = true) (k : Q (.bl false) H) : rNeD K (.ref a) (.ref b) H Q := by
  refine ⟨.list (xs.map vD), .list (xs.map vD), .lst h1 (dp_flat xs hf), .lst h2 (dp_flat xs hf), shaped_flat xs, shaped_flat xs, ?_⟩
  rw [SeqAt.eqv_refl _ (SeqAt.canLay_of_shaped (shaped_flat xs))]
  exact k
end
theorem r_iteT {A B : Prop} (h : A) : if true = true then A else B := by rw [if_pos rfl]; exact h
theorem r_iteF {A B : Prop} (h : B) : if false = true then A else B := by rw [if_neg (by simp)]; exact h
theorem r_iteNT {A B : Prop} (h : B) : if (!true) = true then A else B := by rw [if_neg (by simp)]; exact h
theorem r_iteNF {A B : Prop} (h : A) : if (!false) = true then A else B := by rw [if_pos (by simp)]; exact h
theorem r_dNN {A B : Prop} (h : A) : if decide (V.non = V.non) = true then A else B := by rw [if_pos (by simp)]; exact h
theorem r_dIN {i : Int} {A B : Prop} (h : B) : if decide (V.int i = V.non) = true then A else B := by rw [if_neg (by simp)]; exact h
theorem r_dRN {i : Addr} {A B : Prop} (h : B) : if decide (V.ref i = V.non) = true then A else B := by rw [if_neg (by simp)]; exact h
theorem r_dnNN {A B : Prop} (h : B) : if (!decide (V.non = V.non)) = true then A else B := by rw [if_neg (by simp)]; exact h
theorem r_dnIN {i : Int} {A B : Prop} (h : A) : if (!decide (V.int i = V.non)) = true then A else B := by rw [if_pos (by simp)]; exact h
/-- a def that is promised nothing -/
theorem Tx.none {P : Program} {w : World} {K : PySem.W.Frag} {mg : Str → Option Value} {base : Heap} {x : Str} {st : Stmt} {ps : List Str} (T : Tx K mg x st ps) : Df P w K mg base x ps 0 (fun _ _ _ _ => False) := by
  obtain ⟨f, fd, hm, F, hb⟩ := T.ex
  exact ⟨f, fd, hm, F.kp, hb, ⟨fun _ _ _ _ h => h.elim, fun _ _ _ _ _ _ _ _ _ _ _ _ _ h => h.elim⟩⟩
/-- the same data, of just the same kinds -/
inductive Alk (H : Hp) : Nat → V → V → Prop
  | non {n : Nat} : Alk H (n + 1) .non .non
  | int {n : Nat} (i : Int) : Alk H (n + 1) (.int i) (.int i)
  | lst {n : Nat} {a b : Addr} {xs ys : List V} : H a = some (.lst xs) → H b = some (.lst ys) → xs.length = ys.length → xs.length ≤ 1000 → (∀ (i : Nat) x y, xs[i]? = some x → ys[i]? = some y → Alk H n x y) → Alk H (n + 1) (.ref a) (.ref b)
  | tup {n : Nat} {a b : Addr} {xs ys : List V} : H a = some (.tup xs) → H b = some (.tup ys) → xs.length = ys.length → xs.length ≤ 1000 → (∀ (i : Nat) x y, xs[i]? = some x → ys[i]? = some y → Alk H n x y) → Alk H (n + 1) (.ref a) (.ref b)
theorem Alk.same {H H' : Hp} (s : Same H H') {n : Nat} {x y : V} (h : Alk H n x y) : Alk H' n x y := by
  induction h with
  | non => exact .non
  | int i => exact .int i
  | lst h1 h2 h3 h4 _ ih => exact .lst (s _ _ h1) (s _ _ h2) h3 h4 ih
  | tup h1 h2 h3 h4 _ ih => exact .tup (s _ _ h1) (s _ _ h2) h3 h4 ih
def spAlike (n : Nat) : Sp := fun vs H Q _ => ∃ x y, vs = [x, y] ∧ Alk H n x y ∧ Q (.bl true) H
end Hb

set_option Elab.async false
set_option linter.all false
set_option maxRecDepth 100000
set_option maxHeartbeats 4000000
namespace Hb
open PySem PySem.Spec L2
section
variable {X : Cx} {e : Expr} {t : TE} {σ : L2.St} {H : Hp} {Q : VK} {D : Ends} {s : TS} {st : Stmt} {K : PySem.W.Frag} {a : Addr}
/-- a mark at which the walk stops: what holds of the value and the heap behind, whichever way was gone -/
def tJ (t : TE) : TE := t
theorem pe_j (h : PE X e t) : PE X e (tJ t) := h
theorem r_j (R : V → Hp → Prop) (h : ∀ Q' : VK, (∀ v H', R v H' → Q' v H') → t σ H Q') (k : ∀ v H', R v H' → Q v H') : tJ t σ H Q := h Q k
def tJS (s : TS) : TS := s
theorem ps_j (h : PS X st s) : PS X st (tJS s) := h
theorem r_js (R : L2.St → Hp → Prop) (h : ∀ nx : L2.St → Hp → Prop, (∀ σ H, R σ H → nx σ H) → s { D with nx := nx } σ H) (k : ∀ σ H, R σ H → D.nx σ H) : tJS s D σ H := h D.nx k
end
end Hb

set_option Elab.async false
set_option linter.all false
set_option maxRecDepth 100000
set_option maxHeartbeats 4000000
namespace Hb
open PySem PySem.Spec L2
open PyProof.Rows hiding St
/-- an exception flies: ea of the own class at C; ahead of the call H, s; behind it H', s'; l: the frames that it has still to pass -/
structure Fly (P : Program) (w : World) (l : List Env) (H : Hp) (s : Shared) (H' : Hp) (ea C : Addr) (s' : Shared) : Prop where
  os : s'.os = s.os
  bare : AllBare s'.gens
  free : ∀ b o, s.heap.get? b = some o → H b = none → H' b = none
  tups : ∀ b xs, H b = some (.tup xs) → H' b = some (.tup xs)
  frzs : ∀ b o u, H b = some (.frz o u) → H' b = some (.frz o u)
  tbls : ∀ b ps, H b = some (.tbl ps) → ∃ more, H' b = some (.tbl (ps ++ more))
  new : s.heap.get? ea = none
  hid : H' ea = none
  ex : ∃ B a0, Heap.FlyingW B l ea (.ref C) a0 s'.heap ∧ (∀ b o, s.heap.get? b = some o → H b = none → b ∉ frs l → B.get? b = some o) ∧ (∀ b o, s.heap.get? b = some o → b ∉ frs l → ∃ o', B.get? b = some o') ∧
    HOk P w H' B ∧ (∀ b o, s.heap.get? b = some o → b ∈ frs l → ∃ sl, s'.heap.get? b = some { o with slots := sl })
theorem ObjOk.ex {P : Program} {w : World} {H : Hp} {h : Heap} {a : Addr} {o : HO} (x : ObjOk P w H h a o) : ∃ u, h.get? a = some u := by
  cases o with
  | lst xs => obtain ⟨_, _, _, _, e⟩ := x; exact ⟨_, e⟩
  | tup xs => obtain ⟨_, _, _, ⟨o, e, _⟩⟩ := x; exact ⟨_, e⟩
  | dK kvs => obtain ⟨_, _, _, _, o, _, _, e, _⟩ := x; exact ⟨_, e⟩
  | dT kvs => obtain ⟨_, _, _, _, o, _, _, e, _⟩ := x; exact ⟨_, e⟩
  | set S n => obtain ⟨o, _, _, _, e, _⟩ := x; exact ⟨_, e⟩
  | ins C dx fs => obtain ⟨_, _, _, e, _⟩ := x; exact ⟨_, e⟩
  | own y => obtain ⟨_, e⟩ := x; exact ⟨_, e⟩
  | xd fs => obtain ⟨_, ⟨_, _, _, e, _⟩, _⟩ := x; exact ⟨_, e⟩
  | rng lo hi => obtain ⟨_, _, _, e⟩ := x; exact ⟨_, e⟩
  | frz ob u => obtain ⟨e, _⟩ := x; exact ⟨_, e⟩
  | tbl ps => exact ⟨_, (show h.get? a = some _ from x)⟩
  | met f y => exact ⟨_, (show h.get? a = some _ from x)⟩
  | ext φ => obtain ⟨_, ⟨_, e⟩, _⟩ := x; exact ⟨_, e⟩
theorem frs_mem {l : List Env} {b : Addr} (h : b ∈ frs l) : b ∈ l.filterMap (·.frame) := h
section
variable {P : Program} {w : World} {l : List Env} {H H' : Hp} {s s' : Shared} {ea C : Addr}
theorem Fly.un (F : Fly P w l H s H' ea C s') : Un (frs l) [] H H' s.heap s'.heap ∧ HOk P w H' s'.heap := by
  obtain ⟨B, a0, fl, kp, th, hok, sl⟩ := F.ex
  obtain ⟨st, _, _, _⟩ := id fl
  refine ⟨⟨fun b o e n hb _ => st b o (kp b o e n hb), fun b o e n hb _ => sl b o e hb, fun b o e n _ => F.free b o e n, fun b o e _ => ?_, F.tups, F.frzs, F.tbls⟩, hok.kept st⟩
  by_cases hb : b ∈ frs l
  · obtain ⟨q, e'⟩ := sl b o e hb
    exact ⟨_, e'⟩
  · obtain ⟨o', e'⟩ := th b o e hb
    exact ⟨o', st b o' e'⟩
/-- the exception's way on: another heap in which it flies likewise -/
theorem Fly.on {h' : Heap} {B : Heap} {a0 : Value} (F : Fly P w l H s H' ea C s') (kp : ∀ b o, s.heap.get? b = some o → H b = none → b ∉ frs l → B.get? b = some o) (th : ∀ b o, s.heap.get? b = some o → b ∉ frs l → ∃ o', B.get? b = some o')
    (hok : HOk P w H' B) (sl : ∀ b o, s.heap.get? b = some o → b ∈ frs l → ∃ sl, s'.heap.get? b = some { o with slots := sl }) (fr : s'.heap.FunFrames B l) (fl : Heap.FlyingW B l ea (.ref C) a0 h') (up : s'.heap.UpToSlots h') :
    Fly P w l H s H' ea C { s' with heap := h' } := by
  refine ⟨F.os, F.bare, F.free, F.tups, F.frzs, F.tbls, F.new, F.hid, B, a0, fl, kp, th, hok, fun b o e hb => ?_⟩
  obtain ⟨q, e'⟩ := sl b o e hb
  obtain ⟨_, o2, e2, nf⟩ := fr.mem (frs_mem hb)
  rw [e'] at e2
  have e3 := Option.some.inj e2
  obtain ⟨q', e4⟩ := up b _ e' (fun vs z => nf vs (by rw [← e3]; exact z))
  exact ⟨q', e4⟩
end
/-- how an exception lies behind a call -/
def CXr (P : Program) (w : World) : CXT := fun outer H s E e s' => ∃ (ea C : Addr) (H' : Hp), e = .ref ea ∧ Fly P w outer H s H' ea C s' ∧ E (.ref C) none H'
section
variable {P : Program} {w : World} {K : PySem.W.Frag} {mg : Str → Option Value} {base : Heap} {N : List Str} {qual : Str} {scope : Scope} {f : Addr} {cd : Value} {A : Around} {outer : List Env} {s0 : Shared} {H0 : Hp} {E : XK}
/-- it passes through a def that does not catch it -/
theorem pass_r {X : Cx} (eX : X = cxOf (CXr P w) P w K mg base N qual scope f cd A outer s0 H0 E) : Passes (CXr P w) X E := by
  subst eX
  intro pins σ H s e s' I hcx
  obtain ⟨ea, C, H', rfl, F, q⟩ := hcx
  obtain ⟨B, a0, fl, kp, th, hok, sl⟩ := F.ex
  have hL : s0.heap.objs.size ≤ s0.heap.objs.size := Nat.le_refl _
  have frd : (A.deeper (envOfC qual scope s0.heap.objs.size f cd)).frames = some (envOfC qual scope s0.heap.objs.size f cd :: outer) := I.ok.frames
  show wpAny (model P w) (A.deeper (envOfC qual scope s0.heap.objs.size f cd)) (leaving (envOfC qual scope s0.heap.objs.size f cd) (.ref ea)) _ _ s'
  refine wpAny_leaves_onW frd rfl fl fun h' fl' up => ?_
  have nf : ∀ b o, s0.heap.get? b = some o → b ∉ frs outer → b ∉ frs (envOfC qual scope s0.heap.objs.size f cd :: outer) := fun b o e hb z => by
    have z' : b = s0.heap.objs.size ∨ b ∈ frs outer := List.mem_cons.mp z
    rcases z' with z' | z'
    · exact absurd (Heap.lt_size e) (by rw [z']; exact Nat.lt_irrefl _)
    · exact hb z'
  have inl : ∀ b, b ∈ frs outer → b ∈ frs (envOfC qual scope s0.heap.objs.size f cd :: outer) := fun b hb => List.mem_cons_of_mem _ hb
  have Ub : Un (frs outer) [] H0 H s0.heap s.heap := I.base
  refine ⟨ea, C, H', rfl, ⟨F.os.trans I.os, F.bare, fun b o e n => ?_, fun b xs e => F.tups b xs (Ub.tups b xs e), fun b o u e => F.frzs b o u (Ub.frzs b o u e), fun b ps e => ?_, ?_, F.hid, B, a0, fl', fun b o e n hb => ?_, fun b o e hb => ?_, hok, fun b o e hb => ?_⟩, q⟩
  · obtain ⟨o', e'⟩ := Ub.there b o e (by simp)
    exact F.free b o' e' (Ub.free b o e n (by simp))
  · obtain ⟨m1, e1⟩ := Ub.tbls b ps e
    obtain ⟨m2, e2⟩ := F.tbls b _ e1
    exact ⟨m1 ++ m2, by rw [e2, Array.append_assoc]⟩
  · cases z : s0.heap.get? ea with
    | none => rfl
    | some o =>
      obtain ⟨o', e'⟩ := Ub.there ea o z (by simp)
      rw [F.new] at e'; cases e'
  · exact kp b o (Ub.keep b o e n hb (by simp)) (Ub.free b o e n (by simp)) (nf b o e hb)
  · obtain ⟨o', e'⟩ := Ub.there b o e (by simp)
    exact th b o' e' (nf b o e hb)
  · have hn : H0 b = none := I.ok.frf b hb
    obtain ⟨q1, e1⟩ := Ub.slot b o e hn hb (by simp)
    obtain ⟨q2, e2⟩ := sl b _ e1 (inl b hb)
    obtain ⟨_, o3, e3, nfl⟩ := fl.2.2.1.mem (frs_mem (inl b hb))
    rw [e2] at e3
    have e4 := Option.some.inj e3
    obtain ⟨q3, e5⟩ := up b _ e2 (fun vs z => nfl vs (by rw [← e4]; exact z))
    exact ⟨q3, e5⟩
/-- it is made and leaves the def that raised it -/
theorem made_r {X : Cx} (eX : X = cxOf (CXr P w) P w K mg base N qual scope f cd A outer s0 H0 E) {pins : List (Addr × Obj)} {σ : L2.St} {H : Hp} {s : Shared} (I : L2.Inv X pins σ H s) {h' : Heap} {ea C : Addr} {vs : List Value}
    (m : Heap.MadeExcOf s.heap h' ea (.ref C) vs) (q : E (.ref C) none H) : X.xe (.ref ea) { s with heap := h' } := by
  subst eX
  have frd : (A.deeper (envOfC qual scope s0.heap.objs.size f cd)).frames = some (envOfC qual scope s0.heap.objs.size f cd :: outer) := I.ok.frames
  have Ub : Un (frs outer) [] H0 H s0.heap s.heap := I.base
  have hsf : ∀ b ∈ frs (envOfC qual scope s0.heap.objs.size f cd :: outer), H b = none := I.stkFree
  have hfr : s.heap.FunFrames base (envOfC qual scope s0.heap.objs.size f cd :: outer) := I.stack
  let fsA := frs (envOfC qual scope s0.heap.objs.size f cd :: outer)
  have hin : ∀ env ∈ (envOfC qual scope s0.heap.objs.size f cd :: outer), ∀ b, env.frame = some b → b ∈ frs (envOfC qual scope s0.heap.objs.size f cd :: outer) := fun env he b hb => List.mem_filterMap.mpr ⟨env, he, hb⟩
  have kpB : ∀ b o, s.heap.get? b = some o → b ∉ frs (envOfC qual scope s0.heap.objs.size f cd :: outer) → (PySem.W.hideAll s.heap (frs (envOfC qual scope s0.heap.objs.size f cd :: outer))).get? b = some o := fun b o e n => PySem.W.hideAll_get _ e n
  have nf : ∀ b o, s0.heap.get? b = some o → b ∉ frs outer → b ∉ frs (envOfC qual scope s0.heap.objs.size f cd :: outer) := fun b o e hb z => by
    have z' : b = s0.heap.objs.size ∨ b ∈ frs outer := List.mem_cons.mp z
    rcases z' with z' | z'
    · exact absurd (Heap.lt_size e) (by rw [z']; exact Nat.lt_irrefl _)
    · exact hb z'
  show wpAny (model P w) (A.deeper (envOfC qual scope s0.heap.objs.size f cd)) (leaving (envOfC qual scope s0.heap.objs.size f cd) (.ref ea)) _ _ { s with heap := h' }
  refine wpAny_leaves_madeW (base := PySem.W.hideAll s.heap (frs (envOfC qual scope s0.heap.objs.size f cd :: outer))) frd rfl (fun b o e => PySem.W.of_hideAll _ e) (PySem.W.funFrames_hide hfr hin) m fun h2 t fl tup ht up => ?_
  have hea : s.heap.get? ea = none := m.new
  refine ⟨ea, C, H, rfl, ⟨I.os, I.bare, fun b o e n => Ub.free b o e n (by simp), Ub.tups, Ub.frzs, Ub.tbls, ?_, ?_, _, _, fl, fun b o e n hb => kpB b o (Ub.keep b o e n hb (by simp)) (nf b o e hb), fun b o e hb => ?_, ?_, fun b o e hb => ?_⟩, q⟩
  · cases z : s0.heap.get? ea with
    | none => rfl
    | some o =>
      obtain ⟨o', e'⟩ := Ub.there ea o z (by simp)
      rw [hea] at e'; cases e'
  · cases z : H ea with
    | none => rfl
    | some o =>
      obtain ⟨o2, e3⟩ := ObjOk.ex (I.hok ea o z)
      rw [hea] at e3; cases e3
  · obtain ⟨o', e'⟩ := Ub.there b o e (by simp)
    exact ⟨o', kpB b o' e' (nf b o e hb)⟩
  · intro a o e
    refine (I.hok a o e).stay (fun b u hb e2 => kpB b u e2 fun z => ?_) (fun _ z => z) fun _ _ z => z
    have hn := hsf b z
    rcases hb with rfl | hb
    · rw [hn] at e; cases e
    · rw [hn] at hb; cases hb
  · have hn : H0 b = none := I.ok.frf b hb
    obtain ⟨q1, e1⟩ := Ub.slot b o e hn hb (by simp)
    obtain ⟨_, o3, e3, nfl⟩ := hfr.mem (frs_mem (List.mem_cons_of_mem _ hb))
    rw [e1] at e3
    have e4 := Option.some.inj e3
    obtain ⟨q3, e5⟩ := up b _ (m.keeps _ _ e1) (fun vs z => nfl vs (by rw [← e4]; exact z))
    exact ⟨q3, e5⟩
end
end Hb

set_option Elab.async false
set_option linter.all false
set_option maxRecDepth 100000
set_option maxHeartbeats 4000000
namespace Hb
open PySem PySem.Spec L2
open PyProof.Rows hiding St
abbrev vB : List Value := [.type "ValueError", .type "Exception", .type "BaseException", .type "object"]
/-- an own class of error, under ValueError -/
structure XCls (K : PySem.W.Frag) (mg : Str → Option Value) (x : Str) (C : Addr) : Prop where
  bound : mg x = some (.ref C)
  exc : PySem.W.excIn K C vB "ValueError.__new__" = true
theorem XCls.own {K : PySem.W.Frag} {mg : Str → Option Value} {x : Str} {C : Addr} {h : Heap} (c : XCls K mg x C) (X : K.In h) : OwnCls x C vB "ValueError.__new__" mg h := by
  obtain ⟨hb, q⟩ := c
  refine ⟨hb, ?_⟩
  unfold PySem.W.excIn at q
  split at q
  · rename_i dd cd sl ho
    split at q
    · rename_i C' bm k0 k1 k2 k3 n k5 hm hs
      simp only [Bool.and_eq_true, beq_iff_eq, Bool.not_eq_true'] at q
      obtain ⟨⟨⟨⟨⟨rfl, rfl⟩, hdel⟩, ht⟩, hok⟩, hni⟩ := q
      obtain ⟨nm, bs, mro, ns, qn, hd, sn, sub, ab, col, del⟩ := cd
      dsimp only at hm hdel hok hni
      subst hm hdel
      have hsl : sl = #[k0, k1, k2, k3, some (.builtin "ValueError.__new__"), k5] := by
        obtain ⟨l⟩ := sl
        simp only at hs
        rw [hs]
      subst hsl
      exact ⟨bm, ns, nm, qn, bs, hd, sn, sub, ab, col, dd, k0, k1, k2, k3, k5, _, X _ _ ho, .of_isNs (PySem.W.isNs_of_in X hok), PySem.W.nsMap_none_of_in X hok hni, PySem.W.tail_of_in X ht⟩
    · cases q
  · cases q
/-- raise C(e) -/
def tRaise (C : Addr) (E : XK) (t : TA) : TS := fun _ σ H => t σ H fun vs H1 => vs.length ≤ sizeLine ∧ E (.ref C) none H1
section
variable {P : Program} {w : World} {K : PySem.W.Frag} {mg : Str → Option Value} {base : Heap} {N : List Str} {qual : Str} {scope : Scope} {f : Addr} {cd : Value} {A : Around} {outer : List Env} {s0 : Shared} {H0 : Hp} {E : XK}
theorem ps_raise {X : Cx} (eX : X = cxOf (CXr P w) P w K mg base N qual scope f cd A outer s0 H0 E) {x : Str} {C : Addr} {e : Expr} {t : TA} {np cpos pos : Pos} (c : XCls K mg x C) (hg : Gl X x) (ha : PA X [e] t)
    (hdb : (x == ("__debug__" : Str)) = false := by decide) (he : starEach [e] X.env = [(false, eval e X.env)] := by rfl) : PS X (.Raise (some (.Call (.Name x np) [e] [] cpos)) none pos) (tRaise C E t) := by
  intro pins s σ H D I h
  have kin : K.In X.base := by have := I.mod.kin; rw [eX] at this ⊢; exact this
  obtain ⟨tl, Nn, nm, q, bs, hdct, sn, sub, ab, col, dd, k0, k1, k2, k3, k5, mN, hC, hN, hni, T⟩ := (c.own kin).obj
  have hm : X.mg x = some (.ref C) := by rw [eX]; exact c.bound
  have hcalm : X.calm = true := by rw [eX]; rfl
  have hP : X.prog = P := by rw [eX]; rfl
  have hw : X.w = w := by rw [eX]; rfl
  refine wpAny_Raise_call_subT (C := C) (nm := nm) (q := q) (N := Nn) (bs := bs) (bm := tl) (hdct := hdct) (sn := sn) (sub := sub) (ab := ab) (col := col) (dd := dd) (k0 := k0) (k1 := k1) (k2 := k2) (k3 := k3) (k5 := k5)
    PySem.F.excBase_ValueError (mN := mN) (T.hasType PySem.F.excBase_ValueError.hasBase) (I.ok.hd hcalm) (by rw [he]; rfl) hni (ld_glob I hg hm ⟨rfl, ?_⟩ hdb)
  have hq := ha cpos pins s σ H _ I h
  rw [he] at hq ⊢
  exact Calls.evalArgs_plain (thn hq fun us s2 ⟨vs, H2, I2, r, z, q2⟩ => ⟨rfl, by rw [← r.length]; exact z, I2.bk _ _ hC, hN.keeps I2.bk, T.keeps I2.bk, fun h' ea m => made_r eX I2 m q2⟩)
end
/-- a def that may raise -/
structure DfR (P : Program) (w : World) (K : PySem.W.Frag) (mg : Str → Option Value) (base : Heap) (x : Str) (ps : List Str) (k : Nat) (sp : Sp) : Prop where
  ex : ∃ (f : Addr) (fd : FuncData), mg x = some (.ref f) ∧ PySem.W.keepIn K (.ref f) = true ∧ Binds K fd ps [] ∧ FnOk P w K mg base (CXr P w) k f fd ps sp
theorem DfR.mono {P : Program} {w : World} {K : PySem.W.Frag} {mg : Str → Option Value} {base : Heap} {x : Str} {ps : List Str} {sp : Sp} {j k : Nat} (G : DfR P w K mg base x ps j sp) (h : j ≤ k) : DfR P w K mg base x ps k sp := by
  obtain ⟨f, fd, hm, hk, hb, F⟩ := G.ex
  exact ⟨f, fd, hm, hk, hb, F.mono h⟩
theorem Tx.okR {P : Program} {w : World} {K : PySem.W.Frag} {mg : Str → Option Value} {base : Heap} {x : Str} {st : Stmt} {N ps : List Str} {k : Nat} {sp : Sp} (T : Tx K mg x st ps) (S : FnScope N ps (defScope st)) (len : ∀ vs H Q E, sp vs H Q E → vs.length = ps.length)
    (hbody : ∀ (f : Addr) (cdv : Value) (A : Around) (outer : List Env) (s : Shared) (H : Hp) (vs : List V) (Q : VK) (E : XK), Room k (A.deeper (envOfC x (defScope st) s.heap.objs.size f cdv)) → sp vs H Q E →
      ∃ t, PSs (cxOf (CXr P w) P w K mg base N x (defScope st) f cdv A outer s H E) (defBody st) t ∧ t { nx := fun _ H' => Q .non H', rt := Q } (start N vs) H) : DfR P w K mg base x ps (k + 1) sp := by
  obtain ⟨f, fd, hm, F, hb⟩ := T.ex
  obtain ⟨oc, od, kV, doc, pm, an, cdv, ct, osl, rfl, lk, hcd⟩ := F.ex
  refine ⟨f, _, hm, F.kp, hb, fn_of lk hcd S len fun A outer s H vs Q E hr hsp => hbody f cdv A outer s H vs Q E hr hsp⟩
section
variable {P : Program} {w : World} {K : PySem.W.Frag} {mg : Str → Option Value} {base : Heap} {N : List Str} {qual : Str} {scope : Scope} {f : Addr} {cd : Value} {A : Around} {outer : List Env} {s0 : Shared} {H0 : Hp} {E : XK}
/-- a call that may raise, in a def that lets it pass -/
theorem pe_cdR {X : Cx} (eX : X = cxOf (CXr P w) P w K mg base N qual scope f cd A outer s0 H0 E) {x : Str} {ps : List Str} {k : Nat} {sp : Sp} {p pos : Pos} {e : Expr} {es : List Expr} {t : TA} (G : DfR X.prog X.w X.K X.mg X.base x ps k sp) (hr : Room k X.A) (hg : Gl X x) (ha : PA X (e :: es) t)
    (hdb : (x == ("__debug__" : Str)) = false := by decide) (he : starEach (e :: es) X.env = (false, eval e X.env) :: starEach es X.env := by rfl) (hpl : (backTo pos (starEach es X.env)).any (·.1) = false := by rfl) :
    PE X (.Call (.Name x p) (e :: es) [] pos) (tCall sp [] E t) := by
  obtain ⟨f', fd, hm, hk, hb, F⟩ := G.ex
  have hx : Passes (CXr X.prog X.w) X E := by
    have h1 : X.prog = P := by rw [eX]; rfl
    have h2 : X.w = w := by rw [eX]; rfl
    rw [h1, h2]
    exact pass_r eX
  exact pe_call F hr hg hm hk hb .nil hx ha hdb he hpl
end
theorem Df.r {P : Program} {w : World} {K : PySem.W.Frag} {mg : Str → Option Value} {base : Heap} {x : Str} {ps : List Str} {k : Nat} {sp : Sp} (G : Df P w K mg base x ps k sp) : DfR P w K mg base x ps k sp := by
  obtain ⟨f, fd, hm, hk, hb, F⟩ := G.ex
  refine ⟨f, fd, hm, hk, hb, F.len, fun A outer s H args us vs Q E hr e0 hb2 r hs => codeAny_mono (F.run A outer s H args us vs Q E hr e0 hb2 r hs) fun rr s' h => ?_⟩
  cases rr with
  | ok fl => cases fl <;> exact h
  | error e => exact h.elim
end Hb

set_option Elab.async false
set_option linter.all false
set_option maxRecDepth 100000
set_option maxHeartbeats 4000000
namespace Hb
open PySem PySem.Spec L2
open PyProof.Rows hiding St
/-- a caught exception, known by its class -/
def excO (ea C : Addr) : HO := .ext fun h => ∃ o, h.get? ea = some o ∧ o.cls = .ref C ∧ ∃ vs, o.data = .fields vs
section
variable {X : Cx} {pins : List (Addr × Obj)} {σ : L2.St} {H : Hp} {s : Shared} {a : Addr} {o : HO}
/-- an object that is there begins to be tracked -/
theorem inv_track (I : L2.Inv X pins σ H s) (hn : H a = none) (h0 : X.s_0.heap.get? a = none) (hL : a ≠ X.env.locals) (hc : ∀ x c, X.env.cells.lookup x = some c → c ≠ a) (hp : ∀ p ∈ X.pn ++ pins, p.1 ≠ a)
    (new : ObjOk X.prog X.w (upd H a o) s.heap a o) : L2.Inv X pins σ (upd H a o) s := by
  have ne : ∀ b u, H b = some u → b ≠ a := fun b u e => ne_of_none e hn
  refine ⟨I.ok, I.os, I.bare, ⟨I.base.keep, I.base.slot, fun b u e n hx => ?_, I.base.there, fun b xs e => ?_, fun b ob u e => ?_, fun b ps e => ?_⟩, I.loc, I.cell, ?_, fun x c e => ?_, fun p hpp => ?_, fun b u e => ?_, I.len⟩
  · rw [upd_ne (fun z => by rw [z, h0] at e; cases e)]; exact I.base.free b u e n hx
  · have e' := I.base.tups b xs e
    rw [upd_ne (ne b _ e')]; exact e'
  · have e' := I.base.frzs b ob u e
    rw [upd_ne (ne b _ e')]; exact e'
  · obtain ⟨m, e'⟩ := I.base.tbls b ps e
    exact ⟨m, by rw [upd_ne (ne b _ e')]; exact e'⟩
  · rw [upd_ne (Ne.symm hL)]; exact I.free
  · rw [upd_ne (hc x c e)]; exact I.freeC x c e
  · obtain ⟨e1, e2, e3⟩ := I.pin p hpp
    exact ⟨e1, by rw [upd_ne (hp p hpp)]; exact e2, e3⟩
  · by_cases hb : b = a
    · subst hb
      rw [upd_same] at e
      cases e
      exact new
    · rw [upd_ne hb] at e
      exact (I.hok b u e).stay (fun c v _ q => q) (fun c q => by rw [upd_ne (ne c _ q)]; exact q) fun c xs q => by rw [upd_ne (ne c _ q)]; exact q
/-- the context within an except suite -/
abbrev mk2 (X : Cx) (e : Value) : Cx := { X with A := X.A.mark (some e), calm := false }
theorem inv_mark (I : L2.Inv X pins σ H s) (e : Value) : L2.Inv (mk2 X e) pins σ H s :=
  ⟨⟨I.ok.mod, I.ok.kind, I.ok.glob, I.ok.blt, I.ok.above, I.ok.inj, I.ok.has, I.ok.cab, fun z => (by cases z), I.ok.frames, I.ok.stk, I.ok.exf, I.ok.bs, I.ok.bsz, I.ok.noex, I.ok.exfs, I.ok.funs, I.ok.frf⟩, I.os, I.bare, I.base, I.loc, I.cell, I.free, I.freeC, I.pin, I.hok, I.len⟩
theorem inv_unmark {e : Value} (I : L2.Inv (mk2 X e) pins σ H s) (hd : X.calm = true → X.A.handled = none) : L2.Inv X pins σ H s :=
  ⟨⟨I.ok.mod, I.ok.kind, I.ok.glob, I.ok.blt, I.ok.above, I.ok.inj, I.ok.has, I.ok.cab, hd, I.ok.frames, I.ok.stk, I.ok.exf, I.ok.bs, I.ok.bsz, I.ok.noex, I.ok.exfs, I.ok.funs, I.ok.frf⟩, I.os, I.bare, I.base, I.loc, I.cell, I.free, I.freeC, I.pin, I.hok, I.len⟩
/-- the name behind an except's suite goes -/
theorem name_goes {M : Model} {A : Around} {E : Value → Shared → Prop} {n : Str} {pos : Pos} {i : Nat} {Q : Unit → Shared → Prop} (I : L2.Inv X pins σ H s) (hN : X.N.Nodup) (hi : X.N[i]? = some n) (hl : X.env.scope.names.lookup n = some .local)
    (h : ∀ s', L2.Inv X pins (σ.set i none) H s' → Q () s') : wpAny M A (do bindName X.env n .none; unbindBehindTheSuite X.env n pos) Q E s := by
  have hcls : (X.env.scope.kind == .class || (X.env.scope.kind == .module && X.env.locals != X.env.globals)) = false := by rw [I.ok.kind]; rfl
  have hk : X.env.kindOf n = some .local := hl
  refine wpAny_bind (wpAny_bindName (store_ok (v := V.non) I hN hi (.inl hl) rfl (fun s1 I1 => ?_) (.inr hl)))
  obtain ⟨m, hn, hlv⟩ := id I1.loc
  obtain ⟨oL, _, _, hoL, _⟩ := id hn
  unfold unbindBehindTheSuite
  refine wpAny_onRaise ?_
  unfold unbindName
  refine wpAny_bind (wpAny_point (wpAny_bind ?_))
  unfold deleteName
  simp only [hk, hcls]
  rw [if_neg (by decide)]
  have hm : (m n).isSome = true := by
    obtain ⟨u, r, l⟩ := hlv i n V.non hi (by rw [List.getElem?_set_self (by rw [I.len]; exact (List.getElem?_eq_some_iff.mp hi).1)]) (.inl hl)
    rcases l with ⟨_, e⟩ | ⟨k, _⟩
    · rw [e]; rfl
    · rcases k with k | k
      · rw [hk] at k; cases k
      · rw [hk] at k; cases k
  refine wpAny_bind (wpAny_nsDel_keeps hn fun h' v hn' hs => ?_)
  rw [hm]
  simp only [if_true, Option.isSome_some, Bool.not_true, Bool.false_eq_true, if_false]
  refine wpAny_pure (wpAny_point (h _ ?_))
  have cne := I1.cne
  refine ⟨I1.ok, I1.os, I1.bare, ⟨fun b o e nn hb hx => ?_, fun b o e nn hb hx => ?_, I1.base.free, fun b o e hx => ?_, I1.base.tups, I1.base.frzs, I1.base.tbls⟩, ⟨_, hn', fun j y v' e1 e2 e3 => ?_⟩, fun y c e => ?_, I1.free, I1.freeC, fun p hp => ?_, fun b ob e => ?_, by simpa using I.len⟩
  · exact (hs.2 b (Nat.ne_of_lt (Nat.lt_of_lt_of_le (Heap.lt_size e) I1.ok.above))).trans (I1.base.keep b o e nn hb hx)
  · obtain ⟨sl, q⟩ := I1.base.slot b o e nn hb hx
    exact ⟨sl, (hs.2 b (Nat.ne_of_lt (Nat.lt_of_lt_of_le (Heap.lt_size e) I1.ok.above))).trans q⟩
  · obtain ⟨o', q⟩ := I1.base.there b o e hx
    exact ⟨o', (hs.2 b (Nat.ne_of_lt (Nat.lt_of_lt_of_le (Heap.lt_size e) I1.ok.above))).trans q⟩
  · by_cases hj : j = i
    · subst hj
      rw [List.getElem?_set_self (by rw [I.len]; exact (List.getElem?_eq_some_iff.mp hi).1)] at e2
      cases e2
    · rw [List.getElem?_set_ne (Ne.symm hj)] at e2
      obtain ⟨u', r', q⟩ := hlv j y v' e1 (by rw [List.getElem?_set_ne (Ne.symm hj)]; exact e2) e3
      refine ⟨u', r', ?_⟩
      rcases q with ⟨k, e⟩ | ⟨k, c, e, z⟩
      · refine .inl ⟨k, ?_⟩
        have : y ≠ n := fun e => hj (nodup_ix hN e1 (e ▸ hi))
        simp [this, e]
      · exact .inr ⟨k, c, e, z.sameBut hs (cne y c e)⟩
  · obtain ⟨w', z⟩ := I1.cell y c e
    exact ⟨w', z.sameBut hs (cne y c e)⟩
  · obtain ⟨e, nn, ne, nf, d⟩ := I1.pin p hp
    exact ⟨(hs.2 p.1 ne).trans e, nn, ne, nf, d⟩
  · refine (I1.hok b ob e).stay (fun c w' hc q => (hs.2 c ?_).trans q) (fun _ q => q) fun _ _ q => q
    rintro rfl
    have hfree := I1.free
    rcases hc with rfl | hc
    · rw [hfree] at e; cases e
    · rw [hfree] at hc; cases hc
end
end Hb

set_option Elab.async false
set_option linter.all false
set_option maxRecDepth 100000
set_option maxHeartbeats 4000000
namespace Hb
open PySem PySem.Spec L2
open PyProof.Rows hiding St
/-- the class at C is under the class at D, by the written part -/
def subB (K : PySem.W.Frag) (C D : Addr) : Bool := match K.lookup C with
  | some ⟨_, _, .cls cd, _⟩ => cd.mro.contains (.ref D)
  | _ => false
section
variable {M : Model} {A : Around} {E : Value → Shared → Prop}
variable {nm q nm' q' : Str} {C N D N' : Addr} {bs bm bs' bm' : List Value} {hdct hdct' : Bool} {sn sn' : List Str} {sub sub' : List Value} {ab ab' : Bool} {col col' : Option Bool} {dd dd' : Option Addr} {k0 k1 k2 k3 k5 j0 j1 j2 j3 j5 : Option Value} {newId newId' : String}
theorem excMatches_own {h : Heap} {g : Array GenState} {d : Drawn} {t : Nat} {os : OsState} {e : Addr} {oe : Obj} {Q : Bool → Shared → Prop}
    (hC : h.get? C = some (excClassObj nm q C N bs bm hdct sn sub ab col dd k0 k1 k2 k3 k5 newId)) (hD : h.get? D = some (excClassObj nm' q' D N' bs' bm' hdct' sn' sub' ab' col' dd' j0 j1 j2 j3 j5 newId')) (he : h.get? e = some oe) (hcls : oe.cls = .ref C)
    (hbase : bm'.contains (.type "BaseException") = true) (hcC : (Value.ref C :: bm).contains (.ref D) = true)
    (hq : Q true ⟨h, g, d, t, os⟩) : wpAny M A (excMatches (.ref e) (.ref D)) Q E ⟨h, g, d, t, os⟩ := by
  have hcB : (Value.ref D :: bm').contains (.type "BaseException") = true := by rw [List.contains_cons, hbase, Bool.or_true]
  have f := tc_notTuple
  unfold excMatches
  repeat (first | (with_reducible refine wpAny_loadPart_at he ?_; rw [hcls]) | with_reducible refine wpAny_loadPart_at hD ?_ | with_reducible refine wpAny_loadPart_at hC ?_ | (with_reducible refine wpAny_isSubtype_exc hD ?_; first | rw [hcB]) | (with_reducible refine wpAny_isSubtype_exc hC ?_; first | rw [hcC]) | wp_step)
  exact hq
end
/-- an exception that comes out of a try's body: the frame's values and pins as they were at the try -/
def XP (X : Cx) (pins : List (Addr × Obj)) (σ : L2.St) (R : Addr → Hp → Prop) (e : Value) (s' : Shared) : Prop :=
  ∃ H1 s1 ea C H', L2.Inv X pins σ H1 s1 ∧ e = .ref ea ∧ Fly X.prog X.w X.stack H1 s1 H' ea C s' ∧ R C H'
abbrev TX := Ends → (Addr → Hp → Prop) → L2.St → Hp → Prop
def PX (X : Cx) (st : List Stmt) (t : TX) : Prop :=
  ∀ (pins : List (Addr × Obj)) (s : Shared) (σ : L2.St) (H : Hp) (D : Ends) (R : Addr → Hp → Prop), L2.Inv X pins σ H s → t D R σ H → wpAny (model X.prog X.w) X.A (execs st X.env) (SP X pins D) (XP X pins σ R) s
section
variable {X : Cx} {x : Str} {ps : List Str} {k : Nat} {sp : Sp} {p pos cpos : Pos} {e : Expr} {es : List Expr} {t : TA}
def tXCall (sp : Sp) (t : TA) : TX := fun D R σ H => t σ H fun vs H1 => sp (vs ++ []) H1 (fun _ H2 => D.nx σ H2) (fun c _ H2 => ∃ C, c = .ref C ∧ R C H2)
def tXIf (c : TT) (a b : TX) : TX := fun D R σ H => c σ H fun v H1 => if v = true then a D R σ H1 else b D R σ H1
/-- try: .. except HC as n: y = n -/
def tTry (K : PySem.W.Frag) (D : Addr) (iy ie : Nat) (tx : TX) : TS := fun En σ H => tx En (fun C H' => (∃ (x : Str) (mg : Str → Option Value), XCls K mg x C) ∧ subB K C D = true ∧ ∀ ea, H' ea = none → En.nx (((σ.set ie (some (.ref ea))).set iy (some (.ref ea))).set ie none) (upd H' ea (excO ea C))) σ H
end
end Hb

set_option Elab.async false
set_option linter.all false
set_option maxRecDepth 100000
set_option maxHeartbeats 4000000
namespace PySem.W
open PySem PySem.Spec PySem.Calls PyProof.Rows Builtin Builtin.ObjectAttr Builtin.Getset_descriptor
section
variable {prog : Program} {w : World} {A : Around} {E : Value → Shared → Prop} {K : Frag} {x C : Addr}
theorem xc_find {M : Model} {h : Heap} (X : K.In h) (ha : findIn K (.ref C) "__class__" = some (some (.builtin "object.__class__")))
    (hn : specialIn K (.builtin "object.__class__") "__get__" = some (some (.builtin "getset_descriptor.__get__"))) (htk : takesIn K (.builtin "object.__class__") = some true) :
    Looks M h (find (.ref x) (.ref C) "__class__") (.bind (.builtin "getset_descriptor.__get__") (.builtin "object.__class__")) := by
  have L1 := looks_findIn (M := M) X ha
  have L2 : Looks M h (getOf (some (.builtin "object.__class__"))) (some (.builtin "getset_descriptor.__get__")) := looks_specialIn X hn
  have L3 := looks_takesIn (M := M) X htk
  exact L1.andThen (L2.andThen ((show Looks M h (dataDescriptor? (some (.builtin "object.__class__")) (some (.builtin "getset_descriptor.__get__"))) (some (.builtin "getset_descriptor.__get__", .builtin "object.__class__")) from L3.andThen .now).andThen (Looks.tag .now)))
theorem xc_get {R : Result → Shared → Prop} {s : Shared} {tp : Value} (X : K.In s.heap) (L0 : Looks (model prog w) s.heap (typeOf (.ref x)) (.ref C)) (hm : mroIn K C (.type "object") = some true)
    (h : R (.ok (.ret (.ref C))) s) : codeAny (model prog w) A (.call (.builtin "getset_descriptor.__get__") ⟨[.builtin "object.__class__", .ref x, tp], []⟩) R s := by
  obtain ⟨hh, g, dr, t, os⟩ := s
  have L1 := looks_mroIn (M := model prog w) X hm
  refine codeAny_call_builtin KF.slot_gs.plain KF.entry_gs (KF.slot_gs.check _ _ _ _ _ _ _ _ KF.type_class (KF.args_gs _ _ _) ?_)
  unfold Builtin.«getset_descriptor.__get__» descrGet
  rw [dga_obj]
  refine wpAny_bind (wpAny_pure ?_)
  unfold descrGetter descrCheckInstance descrNameAndClass isInstance
  simp only [KF.owner_class]
  repeat lk
  refine ⟨Code.quiet_builtin _ (by decide +kernel), codeAny_builtin KF.entry_class ?_⟩
  unfold Builtin.«object.__class__» shownTypeOf
  repeat lk
  exact h
theorem xc_entry {tk : Tok} {Q : Fin → Shared → Prop} {s : Shared} {o : Obj} (X : K.In s.heap) (hx : s.heap.get? x = some o) (hc : o.cls = .ref C) (Lf : Looks (model prog w) s.heap (find (.ref x) (.ref C) "__class__") (.bind (.builtin "getset_descriptor.__get__") (.builtin "object.__class__"))) (hm : mroIn K C (.type "object") = some true)
    (hq : Q (.done (.ret (.ref C))) s) : wpAny (model prog w) A (Builtin.«object.__getattribute__» ⟨[.ref x, .str "__class__" tk], []⟩) Q E s := by
  obtain ⟨hh, g, dr, t, os⟩ := s
  have L0 : Looks (model prog w) hh (typeOf (.ref x)) (.ref C) := hc ▸ (Looks.ld hx).andThen .now
  unfold Builtin.«object.__getattribute__»
  repeat (any_goals (first | assumption | (with_reducible refine wpAny_loadPart_at hx ?_; rw [hc]) | with_reducible refine wpAny_bind (Lf.at ?_) | wp_step))
  exact xc_get X L0 hm (wpAny_pure hq)
theorem xc_check {nameV : Value} {Q : Unit → Shared → Prop} {s : Shared} {o : Obj} (X : K.In s.heap) (hx : s.heap.get? x = some o) (hc : o.cls = .ref C) (hb : mroIn K C (.type "BaseException") = some true) (hq : Q () s) :
    wpAny (model prog w) A (checkBuiltinCall "BaseException.__getattribute__" ⟨[.ref x, nameV], []⟩) Q E s := by
  obtain ⟨hh, g, dr, t, os⟩ := s
  have hk : builtinKind "BaseException.__getattribute__" = some .slot := by decide +kernel
  have hsplit : splitId "BaseException.__getattribute__" = some ("BaseException", "__getattribute__") := by decide +kernel
  have L1 := looks_mroIn (M := model prog w) X hb
  have ha := F.args_bexc_ga (.ref x) nameV
  simp only [checkBuiltinCall, hk, hsplit]
  refine wpAny_bind ?_
  unfold isInstance
  repeat (first | (with_reducible refine wpAny_loadPart_at hx ?_; rw [hc]) | with_reducible refine L1.at ?_ | wp_step)
  exact hq
theorem xc_call {tk : Tok} {R : Result → Shared → Prop} {s : Shared} {o : Obj} (X : K.In s.heap) (hx : s.heap.get? x = some o) (hc : o.cls = .ref C) (Lf : Looks (model prog w) s.heap (find (.ref x) (.ref C) "__class__") (.bind (.builtin "getset_descriptor.__get__") (.builtin "object.__class__"))) (hm : mroIn K C (.type "object") = some true)
    (hb : mroIn K C (.type "BaseException") = some true) (hq : R (.ok (.ret (.ref C))) s) : codeAny (model prog w) A (.call (.builtin "BaseException.__getattribute__") ⟨[.ref x, .str "__class__" tk], []⟩) R s :=
  codeAny_call_builtin F.excAttr_ValueError.ga.plain F.entry_bexc_ga (xc_check X hx hc hb (xc_entry X hx hc Lf hm hq))
theorem xc_by {tk : Tok} {fill expr : Bool} {Q : Value → Shared → Prop} {s : Shared} {o : Obj} (X : K.In s.heap) (hx : s.heap.get? x = some o) (hc : o.cls = .ref C) (Lf : Looks (model prog w) s.heap (find (.ref x) (.ref C) "__class__") (.bind (.builtin "getset_descriptor.__get__") (.builtin "object.__class__"))) (hm : mroIn K C (.type "object") = some true)
    (hb : mroIn K C (.type "BaseException") = some true) (hga : findIn K (.ref C) "__getattribute__" = some (some (.builtin "BaseException.__getattribute__"))) (hgn : findIn K (.ref C) "__getattr__" = some none) (hq : Q (.ref C) s) :
    wpAny (model prog w) A (getAttrBy (.ref x) (.str "__class__" tk) fill expr) Q E s := by
  obtain ⟨hh, g, dr, t, os⟩ := s
  have f3 := F.excAttr_ValueError.ga.bind (.ref x)
  have L1 := looks_findIn (M := model prog w) X hga
  have L2 := looks_findIn (M := model prog w) X hgn
  have hx0 : (expr && onTheHeap (Value.builtin "BaseException.__getattribute__")) = false := by cases expr <;> rfl
  have hx2 : (Value.builtin "BaseException.__getattribute__" == Value.builtin "object.__getattribute__") = false := by decide +kernel
  have hx1 : (onTheHeap (Value.ref C) && Value.builtin "BaseException.__getattribute__" == Value.builtin "object.__getattribute__") = false := by rw [hx2]; rfl
  repeat (any_goals (first | assumption | (with_reducible refine wpAny_loadPart_at hx ?_; rw [hc]) | with_reducible refine L1.at ?_ | with_reducible refine L2.at ?_ | wp_step))
  refine xc_call X hx hc Lf hm hb ?_
  repeat (any_goals (first | assumption | wp_step))
theorem xc_attr {Q : Option Value → Shared → Prop} {s : Shared} {o : Obj} (X : K.In s.heap) (hx : s.heap.get? x = some o) (hc : o.cls = .ref C) (Lf : Looks (model prog w) s.heap (find (.ref x) (.ref C) "__class__") (.bind (.builtin "getset_descriptor.__get__") (.builtin "object.__class__"))) (hm : mroIn K C (.type "object") = some true)
    (hb : mroIn K C (.type "BaseException") = some true) (hga : findIn K (.ref C) "__getattribute__" = some (some (.builtin "BaseException.__getattribute__"))) (hgn : findIn K (.ref C) "__getattr__" = some none) (hq : Q (some (.ref C)) { s with toks := s.toks + 1 }) :
    wpAny (model prog w) A (getAttr? (.ref x) "__class__") Q E s := by
  obtain ⟨hh, g, dr, t, os⟩ := s
  unfold getAttr? getAttrBy?
  refine wpAny_bind (wpAny_mkText (wpAny_bind (wpAny_attempt (xc_by X hx hc Lf hm hb hga hgn ?_))))
  exact wpAny_pure hq
/-- what the written part must say of an own class of error, for isinstance -/
structure XIs (K : Frag) (C : Addr) : Prop where
  cls : (clsIn K C).isSome = true
  ga : findIn K (.ref C) "__getattribute__" = some (some (.builtin "BaseException.__getattribute__"))
  gn : findIn K (.ref C) "__getattr__" = some none
  ca : findIn K (.ref C) "__class__" = some (some (.builtin "object.__class__"))
  ob : mroIn K C (.type "object") = some true
  be : mroIn K C (.type "BaseException") = some true
  sg : specialIn K (.builtin "object.__class__") "__get__" = some (some (.builtin "getset_descriptor.__get__"))
  tk : takesIn K (.builtin "object.__class__") = some true
theorem kitx_exc {x C : Addr} (I : XIs K C) : KitX K (.ref x) (.ref C) (fun h => ∃ o, h.get? x = some o ∧ o.cls = .ref C) where
  ty := fun M h _ ⟨o, hx, hc⟩ => hc ▸ (Looks.ld hx).andThen .now
  it := fun _ _ X _ => by
    have hcD := I.cls
    unfold clsIn at hcD
    split at hcD
    · rename_i c' d' cd' sl' ho
      intro A' Q' E' s' k q
      unfold isType loadHead
      exact wpAny_bind (wpAny_loadPart (k _ _ (X _ _ ho)) (wpAny_pure q))
    · cases hcD
  ne := fun h tp dd its n sl X htp => by
    have hcD := I.cls
    refine Bool.eq_false_iff.mpr fun q => ?_
    have e : C = tp := Value.ref.inj (beq_iff_eq.mp q)
    subst e
    unfold clsIn at hcD
    split at hcD
    · rename_i c' d' cd' sl' ho
      have z := (X _ _ ho).symm.trans htp
      cases z
    · cases hcD
  ca := fun X ⟨o, hx, hc⟩ k => xc_attr X hx hc (xc_find X I.ca I.sg I.tk) I.ob I.be I.ga I.gn k
end
end PySem.W

set_option Elab.async false
set_option linter.all false
set_option maxRecDepth 100000
set_option maxHeartbeats 4000000
namespace Hb
open PySem PySem.Spec L2
open PyProof.Rows hiding St
/-- the class that a value names -/
def clsV : V → Option Value
  | .ref D => some (.ref D)
  | .ty n => some (.type n)
  | _ => none
section
variable {X : Cx}
def rIsiX (K : PySem.W.Frag) : List V → Hp → VK → Prop := fun xs H Q => ∃ ea C cV c b, xs = [.ref ea, cV] ∧ clsV cV = some c ∧ H ea = some (excO ea C) ∧ PySem.W.XIs K C ∧ PySem.W.kitOne K (.ref C) c = some b ∧ Q (.bl b) H
theorem call_isiX : CallR X (.builtin "isinstance") (rIsiX X.K) := by
  intro pins s σ H xs us Q I r h
  obtain ⟨ea, C, cV, c, b, rfl, hc, he, xi, e, q⟩ := h
  cases r with
  | cons rx rr =>
    cases rr with
    | cons rn r0 =>
      cases r0
      cases rx
      have ec : ∀ {u : Value}, RelV cV u → u = c := fun {u} z => by
        cases cV with
        | ref D => cases hc; exact z
        | ty n => cases hc; exact z
        | _ => cases hc
      have := ec rn
      subst this
      obtain ⟨⟨o, h1, h2, _⟩, _, _⟩ := (I.hok ea _ he)
      exact PySem.W.kia_one (PySem.W.kitx_exc xi) I.kIn ⟨o, h1, h2⟩ e (fun z => nomatch z) fun tk => ⟨.bl b, H, I.tok _, rfl, q⟩
def rIsiT (K : PySem.W.Frag) : List V → Hp → VK → Prop := fun xs H Q => ∃ (ea C tp : Addr) (ds : List Addr) (b : Bool), xs = [.ref ea, .ref tp] ∧ H tp = some (.tup (ds.map V.ref)) ∧ H ea = some (excO ea C) ∧ PySem.W.XIs K C ∧ PySem.W.kitAny K (.ref C) (ds.map Value.ref) = some b ∧ Q (.bl b) H
end
section
variable {H : Hp} {Q : VK} {K : PySem.W.Frag} {ea C D tp : Addr} {n : String} {b : Bool} {ds : List Addr}
theorem r_isiX (he : H ea = some (excO ea C)) (xi : PySem.W.XIs K C) (e : PySem.W.kitOne K (.ref C) (.ref D) = some b) (k : Q (.bl b) H) : rIsiX K [.ref ea, .ref D] H Q := ⟨ea, C, _, _, b, rfl, rfl, he, xi, e, k⟩
theorem r_isiXt (he : H ea = some (excO ea C)) (xi : PySem.W.XIs K C) (e : PySem.W.kitOne K (.ref C) (.type n) = some b) (k : Q (.bl b) H) : rIsiX K [.ref ea, .ty n] H Q := ⟨ea, C, _, _, b, rfl, rfl, he, xi, e, k⟩
end
end Hb

set_option Elab.async false
set_option linter.all false
set_option maxRecDepth 100000
set_option maxHeartbeats 4000000
namespace Hb
open PySem PySem.Spec L2
open PyProof.Rows hiding St
section
variable {X : Cx} {a b c d : Expr} {ta tb tc td : TE} {pos : Pos}
end
section
variable {σ : L2.St} {H : Hp} {Q : VK} {D : Ends} {R : Addr → Hp → Prop} {t : TA} {C : Addr} {E : XK} {sp : Sp} {K : PySem.W.Frag} {iy ie : Nat} {tx ty : TX} {tt : TT} {a : Addr}
theorem r_raise (h : t σ H fun vs H1 => vs.length ≤ sizeLine ∧ E (.ref C) none H1) : tRaise C E t D σ H := h
theorem r_xcall (h : t σ H fun vs H1 => sp (vs ++ []) H1 (fun _ H2 => D.nx σ H2) (fun c _ H2 => ∃ C, c = .ref C ∧ R C H2)) : tXCall sp t D R σ H := h
def rSumQ (K : PySem.W.Frag) : List V → Hp → VK → Prop := rSum K
theorem r_index {ys : List V} {y z : V} {j : Nat} (h : SqL K H a ys) (h1 : flatV y = true) (h2 : ys.all flatV = true) (h3 : ys[j]? = some z) (h4 : eqV z y = true) (h5 : ∀ m z', m < j → ys[m]? = some z' → eqV z' y = false) (k : Q (.int j) H) : rIndex K (.ref a) [y] H Q :=
  ⟨a, ys, y, j, z, rfl, rfl, h, h1, h2, h3, h4, h5, k⟩
end
/-- the classes that the word of a refusal asks for; C is the j-th of the four -/
structure WordC (K : PySem.W.Frag) (cF cL cN cT cY c1 c2 c3 c4 : Addr) (C : Addr) (j : Nat) : Prop where
  xi : PySem.W.XIs K C
  any : PySem.W.kitAny K (.ref C) ([cF, cL, cN, cT, cY].map Value.ref) = some false
  ve : PySem.W.kitOne K (.ref C) (.type "ValueError") = some true
  k1 : PySem.W.kitOne K (.ref C) (.ref c1) = some (decide (j = 1))
  k2 : PySem.W.kitOne K (.ref C) (.ref c2) = some (decide (j = 2))
  k3 : PySem.W.kitOne K (.ref C) (.ref c3) = some (decide (j = 3))
  k4 : PySem.W.kitOne K (.ref C) (.ref c4) = some (decide (j = 4))
  j1 : 1 ≤ j
  j4 : j ≤ 4
end Hb

set_option Elab.async false
set_option linter.all false
set_option maxRecDepth 100000
set_option maxHeartbeats 4000000
namespace Hb
open PySem PySem.Spec PyProof.Rows L2

section
variable {X : Cx}
/-- xs.insert(i, v), i not below 0 -/
def rInsert : V → List V → Hp → VK → Prop := fun x vs H Q => ∃ (l : Addr) (xs : List V) (i : Int) (y : V),
  x = .ref l ∧ vs = [.int i, y] ∧ H l = some (.lst xs) ∧ (0 ≤ i ∧ i < 2 ^ 62) ∧ xs.length < sizeLine ∧ Q .non (upd H l (.lst (xs.take i.toNat ++ y :: xs.drop i.toNat)))
theorem fits_small {i : Int} (h0 : 0 ≤ i) (h1 : i < 2 ^ 62) : ¬ (!Builtin.List.listFitsIndex i) = true := by
  unfold Builtin.List.listFitsIndex
  simp only [Bool.not_eq_true', Bool.not_eq_false, Bool.and_eq_true, decide_eq_true_eq] <;> omega
theorem mt_insert : MtM X "list.insert" rInsert := by
  intro pins s σ H x vs v us Q I rx rv h
  obtain ⟨l, xs, i, y, rfl, rfl, hH, ⟨h0, h1⟩, hz, q⟩ := h
  cases rx
  cases rv with
  | cons r1 rr =>
    cases rr with
    | @cons _ u _ _ r2 r3 =>
      cases r3
      obtain ⟨t, rfl⟩ := r1
      obtain ⟨z, its, n, r, hl, e⟩ := I.lstM hH
      refine call_meets F.slot_list_insert ⟨_, e, rfl⟩ F.entry_list_insert (F.args_list_insert_3 _ _ _)
        (AutoSeq1.list_insert_list_int_val_1 l its.toArray n i t u (fits_small h0 h1) (by rw [List.size_toArray]; omega)) ⟨e, ?_⟩
      refine ⟨.non, _, I.lset (its' := its.take i.toNat ++ u :: its.drop i.toNat) hH e ?_ ((r.take i.toNat).append (.cons r2 (r.drop i.toNat))) ?_, rfl, q⟩
      · dsimp only
        rw [if_neg (by omega)]
        apply Array.toList_inj.mp
        simp only [Array.toList_append, Array.toList_push, Array.toList_extract, List.size_toArray]
        by_cases hi : i.toNat ≤ its.length
        · rw [Nat.min_eq_left hi]; simp [List.extract_eq_drop_take]
          exact List.take_of_length_le (by rw [List.length_drop]; exact Nat.le_refl _)
        · have hi' : its.length ≤ i.toNat := by omega
          rw [Nat.min_eq_right hi', List.take_of_length_le hi', List.drop_eq_nil_of_le hi']
          simp [List.extract_eq_drop_take]
      · simp only [List.length_append, List.length_cons, List.length_take, List.length_drop]
        omega

/-- xs[::-1] -/
def tRev (K : PySem.W.Frag) (te ts : TE) : TE := fun σ H Q => te σ H fun x H1 => ts σ H1 fun y H2 => y = .int (-1) ∧ ∃ a xs, x = .ref a ∧ SqL K H2 a xs ∧ ∀ p, H2 p = none → Q (.ref p) (upd H2 p (.lst xs.reverse))
theorem pick_rev (its : List Value) : slicePick its.toArray none none (some (-1)) = its.reverse.toArray := by
  have h := PySem.W.krv_pick its.toArray
  simpa using h
theorem vals_rev : ∀ {xs : List V} {us : List Value}, Vals xs us → Vals xs.reverse us.reverse
  | _, _, .nil => .nil
  | _, _, .cons r t => by
    rw [List.reverse_cons, List.reverse_cons]
    exact (vals_rev t).append (.cons r .nil)
theorem pe_rev {e u1 : Expr} {te ts : TE} {p2 pos : Pos} (he : PE X e te) (hs : PE X u1 ts) : PE X (.Subscript e (.Slice none none (some u1) p2) pos) (tRev X.K te ts) := by
  intro pins s σ H Q I h
  refine Subscript_ (thn (he pins s σ H _ I h) fun v s1 ⟨x, H1, I1, r1, q1⟩ => ?_)
  refine wpAny_Slice ?_
  rw [evalPart_none]
  refine wpAny_pure (wpAny_pure ?_)
  rw [evalPart_some]
  refine thn (hs pins s1 σ H1 _ I1 q1) fun w s3 ⟨y, H3, I3, r3, q3⟩ => ?_
  obtain ⟨rfl, a, xs, rfl, hx, q⟩ := q3
  obtain ⟨t, rfl⟩ := r3
  cases r1
  have I4 : Inv X pins σ H3 { s3 with heap := s3.heap.push { cls := .type "slice", data := .fields #[.none, .none, .int (-1) t] } } := I3.kept (t' := s3.toks) fun b ob k => Heap.get?_push_of_some _ k
  obtain ⟨its, r, ht, hz⟩ := I4.list hx
  have hlen := r.length
  refine tail_any (ops := [.ref a, .ref s3.heap.objs.size]) ht.isList.typeIs slot_list_getitem.lookup ?_ (by with_unfolding_all rfl)
  refine wpAny_getItem_list_slice ht.isList (Heap.IsSliceOf.new ..) .none .none (IsPart.int _ _) (by decide) ?_ (by rw [List.size_toArray]; omega)
  rw [pick_rev]
  refine ⟨.ref _, _, I4.laid (t' := s3.toks) (o := .lst xs.reverse) (fun b ob k => Heap.get?_push_of_some _ k) (Nat.le_refl _) ?_, rfl, q _ (I4.hok.fresh (Nat.le_refl _))⟩
  exact ⟨by rw [List.length_reverse]; exact hz, _, 0, vals_rev r, Heap.get?_push_size _ rfl⟩

/-- list(range(e)) -/
def tLRng (ta : TA) : TE := fun σ H Q => ta σ H fun vs H1 => ∃ n : Nat, vs = [.int n] ∧ n ≤ 100000 ∧ ∀ p, H1 p = none → Q (.ref p) (upd H1 p (.lst ((List.range n).map fun (k : Nat) => V.int k)))
theorem vals_items : ∀ (n : Nat) (acc : List Value), acc.length = n → (∀ (i : Nat) (v : Value), acc[i]? = some v → ∃ t, v = Value.int (0 + (i : Int) * 1) t) → Vals ((List.range n).map fun (k : Nat) => V.int k) acc := by
  intro n
  induction n with
  | zero => intro acc h _; cases acc with
    | nil => exact .nil
    | cons a b => simp at h
  | succ n ih =>
    intro acc h hv
    have hlen : acc.length = n + 1 := h
    have e : acc = acc.take n ++ [acc[n]] := by
      rw [← List.take_succ_eq_append_getElem (by omega), List.take_of_length_le (by omega)]
    rw [e, List.range_succ, List.map_append]
    refine (ih (acc.take n) (by rw [List.length_take]; omega) fun i v hi => ?_).append (.cons ?_ .nil)
    · rw [List.getElem?_take] at hi
      split at hi
      · exact hv i v hi
      · cases hi
    · obtain ⟨t, q⟩ := hv n acc[n] (List.getElem?_eq_getElem (by omega))
      exact ⟨t, by rw [q]; congr 1; omega⟩
theorem pe_lrng {e : Expr} {ta : TA} {p1 p2 pos pos2 : Pos} (hc : X.calm = true) (hgl : Gl X "list") (hml : X.mg "list" = none) (hgr : Gl X "range") (hmr : X.mg "range" = none) (ha : PA X [e] ta)
    (hs1 : starEach [e] X.env = [(false, eval e X.env)] := by rfl)
    (hs2 : starEach [Expr.Call (.Name "range" p2) [e] [] pos2] X.env = [(false, eval (.Call (.Name "range" p2) [e] [] pos2) X.env)] := by rfl) :
    PE X (.Call (.Name "list" p1) [.Call (.Name "range" p2) [e] [] pos2] [] pos) (tLRng ta) := by
  intro pins s σ H Q I h
  refine wpAny_Call_Name_kw (ld_blt I hgl hml boot_list ?_)
  refine PyProof.Rows.callWith_type1 ?_ hs2 rfl
  rw [hs2]
  show wpAny _ _ (spliced ((false, eval (.Call (.Name "range" p2) [e] [] pos2) X.env) :: backTo pos [])) _ _ s
  refine Calls.spliced_cons ?_
  refine Call_ (ld_blt I hgr hmr boot_range (PyProof.Rows.callWith_type1 (thn (ha pos2 pins s σ H _ I h) fun us s1 ⟨vs, H1, I1, r1, q1⟩ => ?_) hs1 rfl))
  obtain ⟨n, rfl, hn, q⟩ := q1
  obtain ⟨u, rfl, t, rfl⟩ := r1.one
  refine call_range_1 ?_
  refine Calls.spliced_nil ?_
  have I2 : Inv X pins σ H1 { s1 with heap := s1.heap.push { cls := .type "range", data := .fields #[.int 0 s1.toks, .int n t, .int 1 (s1.toks + 1)] }, toks := s1.toks + 1 + 1 } := I1.kept fun b o k => Heap.get?_push_of_some _ k
  refine call_list_range (n := n) (I2.ok.hd hc) (IsRange.new ..) (small_one (by omega) (by omega) (by omega) (by omega)) ?_ (by omega) fun h' tk acc c kp e it => ?_
  · rw [rangeSize_one]; split <;> omega
  · refine ⟨.ref _, _, I2.laid (t' := tk) (o := .lst ((List.range n).map fun (k : Nat) => V.int k)) kp (Nat.le_refl _) ?_, rfl, q _ (I2.hok.fresh (Nat.le_refl _))⟩
    refine ⟨?_, acc.toList, c, vals_items n acc.toList (by rw [Array.length_toList]; exact it.1) fun i v k => it.2 i v (by rw [← Array.getElem?_toList]; exact k), e⟩
    rw [List.length_map, List.length_range, sizeLine_eq]; omega
end
end Hb

set_option Elab.async false
set_option linter.all false
set_option maxRecDepth 100000
set_option maxHeartbeats 4000000
namespace Hb
open PySem PySem.Spec L2
section
variable {H0 H H1 H' : Hp} {D : Ends} {σ : L2.St} {Q : VK} {te ts : TE} {ta : TA} {K : PySem.W.Frag} {a : Addr} {xs : List V}
theorem r_ex2 {i j : Int} {R : Int → Int → Prop} (h : R i j) : ∃ a b, [V.int i, V.int j] = [V.int a, V.int b] ∧ R a b := ⟨i, j, rfl, h⟩
theorem r_insert {i : Int} {y : V} (h1 : H a = some (.lst xs)) (h2 : 0 ≤ i ∧ i < 2 ^ 62) (h3 : xs.length < sizeLine) (h : ∀ H', H' = upd H a (.lst (xs.take i.toNat ++ y :: xs.drop i.toNat)) → Q .non H') : rInsert (.ref a) [.int i, y] H Q :=
  ⟨a, xs, i, y, rfl, rfl, h1, h2, h3, h _ rfl⟩
theorem upd_all {o : HO} {R : V → Hp → Prop} {H1 : Hp} : (∀ p, H1 p = none → R (.ref p) (upd H1 p o)) = ∀ p H', H1 p = none → H' = upd H1 p o → R (.ref p) H' :=
  propext ⟨fun h p H' n e => by rw [e]; exact h p n, fun h p n => h p _ n rfl⟩
theorem r_revT (h : te σ H fun x H1 => ts σ H1 fun y H2 => y = .int (-1) ∧ ∃ a xs, x = .ref a ∧ SqL K H2 a xs ∧ ∀ p H', H2 p = none → H' = upd H2 p (.lst xs.reverse) → Q (.ref p) H') : tRev K te ts σ H Q := by
  unfold tRev
  simp only [upd_all]
  exact h
theorem r_rev {R : Addr → Hp → Prop} (h1 : SqL K H a xs) (h : ∀ q H', H q = none → H' = upd H q (.lst xs.reverse) → R q H') : V.int (-1) = V.int (-1) ∧ ∃ b ys, V.ref a = .ref b ∧ SqL K H b ys ∧ ∀ p H', H p = none → H' = upd H p (.lst ys.reverse) → R p H' :=
  ⟨rfl, a, xs, rfl, h1, h⟩
theorem r_lrngT (h : ta σ H fun vs H1 => ∃ n : Nat, vs = [.int n] ∧ n ≤ 100000 ∧ ∀ p H', H1 p = none → H' = upd H1 p (.lst ((List.range n).map fun (k : Nat) => V.int k)) → Q (.ref p) H') : tLRng ta σ H Q := by
  unfold tLRng
  simp only [upd_all]
  exact h
theorem r_lrng {i : Int} (h0 : 0 ≤ i) (h1 : i ≤ 100000) {R : Addr → Hp → Prop} (h : ∀ q H', H q = none → H' = upd H q (.lst ((List.range i.toNat).map fun (k : Nat) => V.int k)) → R q H') :
    ∃ m : Nat, [V.int i] = [.int m] ∧ m ≤ 100000 ∧ ∀ p H', H p = none → H' = upd H p (.lst ((List.range m).map fun (k : Nat) => V.int k)) → R p H' :=
  ⟨i.toNat, by rw [Int.toNat_of_nonneg h0], by omega, h⟩
theorem flat1 {v : V} (k : Nat) : (List.replicate k [v]).flatten = List.replicate k v := by
  induction k with
  | zero => rfl
  | succ k ih => rw [List.replicate_succ, List.flatten_cons, ih]; rfl
theorem r_rep1 {k : Int} {v : V} (h1 : H a = some (.lst [v])) (h2 : 0 ≤ k) (h3 : k ≤ 100000) (h : ∀ q H', H q = none → H' = upd H q (.lst (List.replicate k.toNat v)) → Q (.ref q) H') : rRep (.ref a) (.int k) H Q :=
  ⟨a, k, [v], rfl, rfl, h1, by omega, by omega, small_le (by simp; omega), fun q hq => by rw [flat1]; exact h q _ hq rfl⟩
theorem r_while {c : TT} {tb : TS} (h : ∃ W : Nat → L2.St → Hp → Prop, (∃ m, W m σ H) ∧ ∀ m σ H, W m σ H →
    c σ H fun b H1 => if b = true then ∃ N : L2.St → Hp → Prop, (∀ σ' H', N σ' H' → ∃ m', m' < m ∧ W m' σ' H') ∧ tb { D with nx := N, ct := N, bk := D.nx } σ H1 else D.nx σ H1) : tWhile c tb D σ H := h
theorem r_turn {tb : TS} {W : Nat → L2.St → Hp → Prop} {m : Nat} (h : tb { D with nx := fun σ' H' => ∃ m', m' < m ∧ W m' σ' H', ct := fun σ' H' => ∃ m', m' < m ∧ W m' σ' H', bk := D.nx } σ H1) :
    ∃ N : L2.St → Hp → Prop, (∀ σ' H', N σ' H' → ∃ m', m' < m ∧ W m' σ' H') ∧ tb { D with nx := N, ct := N, bk := D.nx } σ H1 := ⟨_, fun _ _ h => h, h⟩
theorem f_rngX {g : V → L2.St → Hp → (L2.St → Hp → Prop) → Prop} {tb : TS} {lo hi : Int} (h1 : -100000 ≤ lo) (h2 : lo ≤ 100000) (h3 : -100000 ≤ hi) (h4 : hi ≤ 100000) (Pv : Nat → L2.St → Hp → Prop) (h0 : Pv 0 σ H)
    (hs : ∀ (i : Nat) σ H, lo + (i : Int) < hi → Pv i σ H → g (.int (lo + i)) σ H fun σ2 H2 => tb { D with nx := Pv (i + 1), ct := Pv (i + 1), bk := D.nx } σ2 H2) (hd : ∀ σ H, Pv (hi - lo).toNat σ H → D.nx σ H) :
    (-(2 ^ 62) ≤ lo ∧ lo < 2 ^ 62 ∧ -(2 ^ 62) ≤ hi ∧ hi < 2 ^ 62) ∧ ∃ W : Nat → Nat → L2.St → Hp → Prop, (∃ m, W 0 m σ H) ∧ ∀ k m σ H, W k m σ H →
      ((Itr lo (hi - lo).toNat).stop k H ∧ D.nx σ H) ∨ ((Itr lo (hi - lo).toNat).go k H ∧ ∃ N : L2.St → Hp → Prop, (∀ σ' H', N σ' H' → ∃ m', m' < m ∧ W (k + 1) m' σ' H') ∧ ∀ x H', (Itr lo (hi - lo).toNat).yld k H x H' → g x σ H' fun σ2 H2 => tb { D with nx := N, ct := N, bk := D.nx } σ2 H2) := by
  obtain ⟨i, j, e, r⟩ := f_rng2 h1 h2 h3 h4 Pv h0 hs hd
  cases e
  exact r
end
end Hb

set_option Elab.async false
set_option linter.all false
set_option maxRecDepth 100000
namespace Hb
/-! ### the walk with its list of what waits: pure -/
/-- the children of a place, rising -/
def kidsN (ps : List (Option Nat)) (p : Nat) : List Nat := (List.range ps.length).filter fun i => decide (ps[i]? = some (some p))
theorem mem_kids {ps : List (Option Nat)} {p x : Nat} : x ∈ kidsN ps p ↔ ps[x]? = some (some p) := by
  unfold kidsN
  rw [List.mem_filter, List.mem_range, decide_eq_true_eq]
  exact ⟨fun h => h.2, fun h => ⟨(List.getElem?_eq_some_iff.mp h).1, h⟩⟩
theorem kids_nodup {ps : List (Option Nat)} {p : Nat} : (kidsN ps p).Nodup := List.nodup_range.filter _
/-- amid the walk: o is told, S waits (its first one is next) -/
structure WI (ps : List (Option Nat)) (r : Nat) (o S : List Nat) : Prop where
  nd : (o ++ S).Nodup
  lt : ∀ x ∈ o ++ S, x < ps.length
  par : ∀ x ∈ o ++ S, x ≠ r → ∃ p ∈ o, ps[x]? = some (some p)
  kid : ∀ p ∈ o, ∀ x ∈ kidsN ps p, x ∈ o ++ S
  root : r ∈ o ++ S
theorem WI.start {ps : List (Option Nat)} {r : Nat} (h : r < ps.length) : WI ps r [] [r] :=
  ⟨by simp, fun x hx => by simp at hx; omega, fun x hx n => by simp at hx; exact absurd hx n, fun p hp => by simp at hp, by simp⟩
theorem WI.step {ps : List (Option Nat)} {r p : Nat} {o S : List Nat} (hr : ps[r]? = some none) (h : WI ps r o (p :: S)) : WI ps r (o ++ [p]) (kidsN ps p ++ S) := by
  have e : o ++ [p] ++ (kidsN ps p ++ S) = o ++ (p :: (kidsN ps p ++ S)) := by simp
  have hpo : p ∉ o := fun m => by
    have := (List.nodup_append.mp h.nd).2.2 p m p (by simp)
    exact this rfl
  have new : ∀ x ∈ kidsN ps p, x ∉ o ++ p :: S := fun x hx hm => by
    have hx' := mem_kids.mp hx
    have hn : x ≠ r := fun z => by subst z; rw [hr] at hx'; cases hx'
    obtain ⟨q, hq, eq⟩ := h.par x hm hn
    rw [hx'] at eq
    have : p = q := by injection eq with e1; injection e1
    exact hpo (this ▸ hq)
  have perm : (o ++ (p :: (kidsN ps p ++ S))).Perm (kidsN ps p ++ (o ++ p :: S)) := by
    have h1 : (p :: (kidsN ps p ++ S)).Perm (kidsN ps p ++ p :: S) := List.perm_middle.symm
    refine (h1.append_left o).trans ?_
    rw [← List.append_assoc, ← List.append_assoc]
    exact List.perm_append_comm.append_right (p :: S)
  have mem : ∀ x, x ∈ o ++ [p] ++ (kidsN ps p ++ S) ↔ x ∈ kidsN ps p ∨ x ∈ o ++ p :: S := fun x => by
    rw [e, perm.mem_iff, List.mem_append]
  refine ⟨?_, fun x hx => ?_, fun x hx n => ?_, fun q hq x hx => ?_, (mem r).mpr (.inr h.root)⟩
  · rw [e, perm.nodup_iff]
    refine List.nodup_append.mpr ⟨kids_nodup, h.nd, fun a ha b hb z => new a ha (z ▸ hb)⟩
  · rcases (mem x).mp hx with hx | hx
    · exact (List.getElem?_eq_some_iff.mp (mem_kids.mp hx)).1
    · exact h.lt x hx
  · rcases (mem x).mp hx with hx | hx
    · exact ⟨p, by simp, mem_kids.mp hx⟩
    · obtain ⟨q, hq, eq⟩ := h.par x hx n
      exact ⟨q, by simp [hq], eq⟩
  · rcases List.mem_append.mp hq with hq | hq
    · exact (mem x).mpr (.inr (h.kid q hq x hx))
    · have : q = p := by simpa using hq
      subst this
      exact (mem x).mpr (.inl hx)
theorem nodup_le {l : List Nat} {n : Nat} (nd : l.Nodup) (h : ∀ x ∈ l, x < n) : l.length ≤ n := by
  have := List.Nodup.length_le_of_subset nd (l₂ := List.range n) (fun x hx => List.mem_range.mpr (h x hx))
  simpa using this
theorem WI.le {ps : List (Option Nat)} {r : Nat} {o S : List Nat} (h : WI ps r o S) : o.length + S.length ≤ ps.length := by
  have := nodup_le h.nd h.lt
  rwa [List.length_append] at this
/-- where all places stand in an order in which each has its parent ahead of it, the walk has them all -/
theorem WI.all {ps : List (Option Nat)} {r : Nat} {o ks : List Nat} (h : WI ps r o []) (hp : ks.Perm (List.range ps.length)) (h0 : ks[0]? = some r)
    (up : ∀ (k x : Nat), 0 < k → ks[k]? = some x → ∃ (j y : Nat), j < k ∧ ks[j]? = some y ∧ ps[x]? = some (some y)) : o.Perm (List.range ps.length) := by
  have ho : ∀ {x}, x ∈ o ++ [] ↔ x ∈ o := by simp
  have all : ∀ (k x : Nat), ks[k]? = some x → x ∈ o := by
    intro k
    induction k using Nat.strongRecOn with
    | ind k ih =>
      intro x e
      by_cases hk : k = 0
      · subst hk
        rw [h0] at e
        cases e
        exact ho.mp h.root
      · obtain ⟨j, y, hj, ey, ex⟩ := up k x (by omega) e
        exact ho.mp (h.kid y (ih j hj y ey) x (mem_kids.mpr ex))
  have nd : o.Nodup := by have := h.nd; rwa [List.append_nil] at this
  refine (List.perm_ext_iff_of_nodup nd List.nodup_range).mpr fun x => ⟨fun hx => List.mem_range.mpr (h.lt x (ho.mpr hx)), fun hx => ?_⟩
  obtain ⟨k, hk, e⟩ := List.mem_iff_getElem.mp (hp.mem_iff.mpr hx)
  exact all k x (by rw [← e]; exact List.getElem?_eq_getElem hk)
end Hb

set_option Elab.async false
set_option linter.all false
set_option maxRecDepth 100000
set_option maxHeartbeats 4000000
namespace Hb
open PySem PySem.Spec L2
section
variable {wi : TI} {g : TG} {tb : TS} {D : Ends} {σ : L2.St} {H : Hp} {Q : VK} {ta : TA} {tl te : TE} {tt : TT} {K : PySem.W.Frag} {a : Addr} {xs : List V} {vs : List Nat} {σw : L2.St}
/-- [e for i, x in enumerate(xs) if c] -/
theorem c_enum {Qd : Addr → Hp → Prop} (hx : SqL K H a xs) (hw : wipe σ vs = σw) (Pv : Addr → Nat → Hp → Prop) (h0 : ∀ D H', H D = none → H' = upd H D (.lst []) → Pv D 0 H') (hl : ∀ D i H', H D = none → i ≤ xs.length → Pv D i H' → SqL K H' a xs)
    (hs : ∀ (D : Addr) (i : Nat) x H' T H2, H D = none → xs[i]? = some x → Pv D i H' → H' T = none → H2 = upd H' T (.tup [.int (i : Nat), x]) → g (.ref T) σw H2 fun σ2 H3 => wipe σ2 vs = σw ∧ tt σ2 H3 fun b H4 =>
      if b = true then te σ2 H4 fun y H5 => ∃ acc, H5 D = some (.lst acc) ∧ acc.length < sizeLine ∧ Pv D (i + 1) (upd H5 D (.lst (acc ++ [y]))) else Pv D (i + 1) H4)
    (hd : ∀ D H', H D = none → Pv D xs.length H' → Qd D H') :
    ∃ b ys, [V.ref a] = [V.ref b] ∧ SqL K H b ys ∧ ∀ D, H D = none → ∃ W : Nat → Nat → Hp → Prop, (∃ m, W 0 m (upd H D (.lst []))) ∧ ∀ i m H, W i m H →
      ((Ite K b).stop i H ∧ Qd D H) ∨ ((Ite K b).go i H ∧ ∃ Nx : Hp → Prop, (∀ H', Nx H' → ∃ m', m' < m ∧ W (i + 1) m' H') ∧ ∀ x H', (Ite K b).yld i H x H' → g x (wipe σ vs) H' fun σ2 H2 => wipe σ2 vs = wipe σ vs ∧ tt σ2 H2 fun b H3 =>
        if b = true then te σ2 H3 fun y H4 => ∃ acc, H4 D = some (.lst acc) ∧ acc.length < sizeLine ∧ Nx (upd H4 D (.lst (acc ++ [y]))) else Nx H3) := by
  subst hw
  refine ⟨a, xs, rfl, hx, fun D hD => ⟨fun i m H' => m = xs.length - i ∧ i ≤ xs.length ∧ Pv D i H', ⟨xs.length, by simp, Nat.zero_le _, h0 D _ hD rfl⟩, ?_⟩⟩
  rintro i m H1 ⟨rfl, hi, p⟩
  have q := hl D i H1 hD hi p
  by_cases hlt : i < xs.length
  · refine .inr ⟨⟨xs, xs[i], q, by simp [hlt]⟩, Pv D (i + 1), fun H' p' => ⟨xs.length - (i + 1), by omega, rfl, hlt, p'⟩, fun x H' y => ?_⟩
    obtain ⟨T, x', rfl, hT, e, y⟩ := y
    exact hs D i x' H1 T H' hD (y xs q) p hT e
  · have e : i = xs.length := by omega
    subst e
    exact .inl ⟨⟨xs, q, Nat.le_refl _⟩, hd D H1 hD p⟩
end
end Hb

set_option Elab.async false
set_option linter.all false
set_option maxRecDepth 100000
set_option maxHeartbeats 4000000
namespace Hb
open PySem PySem.Spec PyProof.Rows L2
section
variable {X : Cx}
/-- xs[i] as it is read for xs[i] += e, i not below 0 -/
def rGetL (K : PySem.W.Frag) : V → V → Hp → VK → Prop := fun x y H Q => ∃ p xs, ∃ (i : Nat), ∃ v, x = .ref p ∧ y = .int i ∧ SqL K H p xs ∧ xs[i]? = some v ∧ Q v H
end
section
variable {H0 H H1 H' : Hp} {D : Ends} {σ : L2.St} {Q : VK} {te : TE} {K : PySem.W.Frag} {a b : Addr} {xs zs : List V} {S : List Addr} {l l' : List (Addr × HO)}
theorem r_pop {y : V} (h1 : H a = some (.lst (xs ++ [y]))) (h : ∀ H', H' = upd H a (.lst xs) → Q y H') : rPop (.ref a) [] H Q :=
  ⟨a, xs ++ [y], y, rfl, rfl, h1, by simp, by rw [List.dropLast_concat]; exact h _ rfl⟩
theorem r_extend (h1 : H a = some (.lst xs)) (h2 : H b = some (.lst zs)) (hl : xs.length + zs.length ≤ sizeLine) (h : ∀ H', H' = upd H a (.lst (xs ++ zs)) → Q .non H') : rExtend (.ref a) [.ref b] H Q :=
  ⟨a, b, xs, zs, rfl, rfl, h1, h2, hl, h _ rfl⟩
theorem r_truL {R : Bool → Prop} (h : SqL K H a xs) (k : R (!xs.isEmpty)) : ∃ k, TruV K (.ref a) H k ∧ R k := ⟨_, .inl ⟨xs, h, rfl⟩, k⟩
theorem r_yesB {b : Bool} {A B : Prop} (e : b = true) (h : A) : if b = true then A else B := by rw [if_pos e]; exact h
theorem r_noB {b : Bool} {A B : Prop} (e : b = false) (h : B) : if b = true then A else B := by rw [if_neg (by rw [e]; decide)]; exact h
theorem r_selN {j : Nat} {v : V} (h : SqL K H a xs) (e : xs[j]? = some v) (k : Q v H) : rIxL K (.ref a) (.int (j : Nat)) H Q :=
  r_sel h (by omega) (by have := (List.getElem?_eq_some_iff.mp e).1; omega) fun w ew _ => by
    rw [Int.toNat_natCast, e] at ew
    cases ew
    exact k
/-- the ledger in another order; a row of lists in it -/
theorem Led.perm (L : Led H0 S H l) (p : l.Perm l') : Led H0 S H l' :=
  ⟨(p.map _).nodup_iff.mp L.nd, fun q hq => L.has q (p.mem_iff.mpr hq), L.keep, fun q hq => L.own q (p.mem_iff.mpr hq)⟩
def rowsL (as : List Addr) (cs : List (List V)) : List (Addr × HO) := as.zip (cs.map HO.lst)
theorem rowsL_mem {as : List Addr} {cs : List (List V)} {j : Nat} {a : Addr} {c : List V} (h1 : as[j]? = some a) (h2 : cs[j]? = some c) : (a, HO.lst c) ∈ rowsL as cs := by
  refine List.mem_of_getElem? (i := j) ?_
  unfold rowsL
  rw [List.getElem?_zip_eq_some]
  exact ⟨h1, by rw [List.getElem?_map, h2]; rfl⟩
theorem rowsL_up : ∀ {as : List Addr} {cs : List (List V)} {j : Nat} {a : Addr} {c c' : List V}, as[j]? = some a → cs[j]? = some c → Up a (.lst c) (.lst c') (rowsL as cs) (rowsL as (cs.set j c'))
  | [], _, _, _, _, _, h, _ => by simp at h
  | _ :: _, [], _, _, _, _, _, h => by simp at h
  | x :: as, y :: cs, 0, a, c, c', h1, h2 => by
    have e1 : x = a := by simpa using h1
    have e2 : y = c := by simpa using h2
    subst e1 e2
    exact .head
  | x :: as, y :: cs, j + 1, a, c, c', h1, h2 => .tail (rowsL_up (by simpa using h1) (by simpa using h2))
theorem rowsL_snoc {as : List Addr} {cs : List (List V)} {a : Addr} {c : List V} (h : as.length = cs.length) : rowsL (as ++ [a]) (cs ++ [c]) = rowsL as cs ++ [(a, .lst c)] := by
  unfold rowsL
  rw [List.map_append, List.zip_append (by rw [List.length_map]; exact h)]
  rfl
theorem Led.putRow1 {q q1 : Addr × HO} {as : List Addr} {cs : List (List V)} {j : Nat} {c c' : List V} (L : Led H0 S H (q :: q1 :: rowsL as cs)) (h1 : as[j]? = some a) (h2 : cs[j]? = some c) (e : H' = upd H a (.lst c')) : Led H0 S H' (q :: q1 :: rowsL as (cs.set j c')) :=
  L.put (.tail (.tail (rowsL_up h1 h2))) e
theorem Led.freshM {q : Addr × HO} (L : Led H0 [] H l) (m : q ∈ l) : H0 q.1 = none := by
  cases e : H0 q.1 with
  | none => rfl
  | some u => exact absurd (L.own _ m u e) (by simp)
end
section
variable {wi : TI} {g : TG} {tb : TS} {D : Ends} {σ : L2.St} {H : Hp} {Q : VK} {ta : TA} {tl te : TE} {tt : TT} {K : PySem.W.Frag} {a : Addr} {xs : List V}
end
end Hb

set_option Elab.async false
set_option linter.all false
set_option maxRecDepth 100000
set_option maxHeartbeats 4000000
namespace Hb
open PySem PySem.Spec L2
open PyProof.Rows hiding St
section
variable {X : Cx} {x : Str} {ps : List Str} {k : Nat} {sp : Sp} {p pos cpos : Pos} {e : Expr} {es : List Expr} {t : TA}
/-- try: .. except HC as n: one statement -/
def tTryG (K : PySem.W.Frag) (D : Addr) (ie : Nat) (tx : TX) (th : TS) : TS := fun En σ H => tx En (fun C H' => (∃ (x : Str) (mg : Str → Option Value), XCls K mg x C) ∧ subB K C D = true ∧ ∀ ea, H' ea = none → th { nx := fun σ2 H2 => En.nx (σ2.set ie none) H2, rt := fun _ _ => False } (σ.set ie (some (.ref ea))) (upd H' ea (excO ea C))) σ H
theorem ps_tryG {tx : TX} {th : TS} {body : List Stmt} {sth : Stmt} {hx n : Str} {hp hpos : Pos} {DC : Addr} {ie : Nat} (hcalm : X.calm = true) (hst : X.stack = X.env :: X.outer) (hfrm : X.env.frame = some X.env.locals) (cD : XCls X.K X.mg hx DC) (hg : Gl X hx) (hN : X.N.Nodup) (he : X.N[ie]? = some n) (hel : X.env.scope.names.lookup n = some .local)
    (hx0 : ∀ e s, X.xe e s → False) (hex : X.ex = []) (hb : PX X body tx) (hh : ∀ ea : Addr, PS (mk2 X (.ref ea)) sth th) (hdb : (hx == ("__debug__" : Str)) = false := by decide) (hdn : (n == ("__debug__" : Str)) = false := by decide) (hcd : (n == ("__classdict__" : Str)) = false := by decide)
    :
    PS X (.Try body [.ExceptHandler (some (.Name hx hp)) (some n) [sth] hpos] [] [] pos) (tTryG X.K DC ie tx th) := by
  intro pins s σ H D I h
  refine wpAny_Try_except (wpAny_mono (hb pins s σ H D _ I h) (fun fl s1 q => ?_) fun e s1 q => ?_)
  · cases fl with
    | next => exact wpAny_execs_nil q
    | brk => exact q
    | cont => exact q
    | ret v => exact q
  · obtain ⟨H1, s2, ea, C, H', I1, rfl, F, ⟨xC, mgC, cC⟩, hsub, nx⟩ := q
    obtain ⟨B, a0, fl, kp, th, hok, sl⟩ := F.ex
    have hfr : X.A.frames = some (X.env :: X.outer) := by rw [← hst]; exact I.ok.frames
    rw [hst] at fl
    refine wpAny_looks_onW hfr hfrm fl fun h4 held up4 => ?_
    refine wpAny_landsW held fun h5 fl5 up5 => ?_
    have F5 := F.on kp th hok sl (by rw [hst]; exact fl.2.2.1) (by rw [hst]; exact fl5) (up4.trans up5)
    obtain ⟨un5, hok5⟩ := F5.un
    have I5 := I1.call' (s' := { s1 with heap := h5 }) (ch := []) F5.os un5 hok5 F5.bare (fun b hb => nomatch hb)
    obtain ⟨ob, hob, hobc⟩ := fl5.there
    have kin5 := I5.kIn
    obtain ⟨bmC, nC, nmC, qC, bsC, hdC, snC, suC, abC, coC, ddC, c0, c1, c2, c3, c5, mC, hCo, _, _, TC⟩ := (cC.own kin5).obj
    obtain ⟨bmD, nD, nmD, qD, bsD, hdD, snD, suD, abD, coD, ddD, d0, d1, d2, d3, d5, mD, hDo, _, _, TD⟩ := (cD.own kin5).obj
    have hmro : (Value.ref C :: bmC).contains (.ref DC) = true := by
      unfold subB at hsub
      split at hsub
      · rename_i ho
        have := kin5 _ _ ho
        rw [hCo] at this
        cases this
        exact hsub
      · cases hsub
    have gm := ld_glob (X := mk2 X (.ref ea)) (E := notedBy (model X.prog X.w) (X.A.mark (some (.ref ea))) X.env fun x s₁ => cameBackBy (model X.prog X.w) X.A X.env X.xe x s₁) (pos := hp) (inv_mark I5 (.ref ea)) hg cD.bound (Q := fun c s6 => c = .ref DC ∧ s6 = { s1 with heap := h5 }) ⟨rfl, rfl⟩ hdb
    refine wpAny_handleBy_cons (codeAny_handlers_test (wpAny_mono gm (fun c s6 z => ?_) fun _ _ z => z)) (by intro q; cases q)
    obtain ⟨rfl, rfl⟩ := z
    refine excMatches_own hCo hDo hob hobc (TD.hasType (by decide +kernel)) hmro ?_
    refine codeAny_handlers_suite_as ?_
    refine lands_againW fl5 fun h6 fl6 up6 => ?_
    have F6 := F.on kp th hok sl (by rw [hst]; exact fl.2.2.1) (by rw [hst]; exact fl6) ((up4.trans up5).trans up6)
    obtain ⟨un6, hok6⟩ := F6.un
    have I6 := I1.call' (s' := { s1 with heap := h6 }) (ch := []) F6.os un6 hok6 F6.bare (fun b hb => nomatch hb)
    obtain ⟨oe, vs, hoe, hoc, hod, _⟩ := fl6.first
    have hnew := F.new
    have h0 : X.s_0.heap.get? ea = none := by
      cases z : X.s_0.heap.get? ea with
      | none => rfl
      | some o =>
        obtain ⟨o', e'⟩ := I1.base.there ea o z (by rw [hex]; simp)
        rw [hnew] at e'; cases e'
    have I7 : L2.Inv X pins σ (upd H' ea (excO ea C)) { s1 with heap := h6 } := by
      refine inv_track I6 F.hid h0 (fun z => ?_) (fun y' c e' z => ?_) (fun p hpp z => ?_) ⟨⟨oe, hoe, hoc, vs, hod⟩, ⟨oe, hoe⟩, fun a b ⟨o, e1, e2⟩ k => ⟨o, k o e1, e2⟩⟩
      · obtain ⟨m, ⟨oL, _, _, hoL, _⟩, _⟩ := I1.loc
        rw [← z, hnew] at hoL; cases hoL
      · obtain ⟨v, o, ho, _⟩ := I1.cell y' c e'
        rw [z, hnew] at ho; cases ho
      · obtain ⟨e1, _⟩ := I1.pin p hpp
        rw [z, hnew] at e1; cases e1
    refine store_ok (v := V.ref ea) I7 hN he (.inl hel) rfl (fun s8 I8 => ?_) (.inr hel)
    refine wpAny_execs_cons (wpAny_mono (hh ea pins s8 _ _ { nx := fun σ2 H2 => D.nx (σ2.set ie none) H2, rt := fun _ _ => False } (inv_mark I8 (.ref ea)) (nx ea F.hid)) (fun fl9 s9 q9 => ?_) fun _ _ z => (hx0 _ _ z).elim)
    cases fl9 with
    | next =>
      obtain ⟨σ9, H9, I9, q9⟩ := q9
      refine wpAny_execs_nil ?_
      exact name_goes (inv_unmark I9 (fun z => I.ok.hd z)) hN he hel fun s10 I10 => ⟨_, _, I10, q9⟩
    | ret v =>
      obtain ⟨_, _, _, _, _, z⟩ := q9
      exact z.elim
    | brk =>
      obtain ⟨_, _, _, z⟩ := q9
      exact z.elim
    | cont =>
      obtain ⟨_, _, _, z⟩ := q9
      exact z.elim
theorem r_tryG {tx : TX} {th : TS} {K : PySem.W.Frag} {DC : Addr} {ie : Nat} {En : Ends} {σ : L2.St} {H : Hp} (h : tx En (fun C H' => (∃ (x : Str) (mg : Str → Option Value), XCls K mg x C) ∧ subB K C DC = true ∧ ∀ ea, H' ea = none → th { nx := fun σ2 H2 => En.nx (σ2.set ie none) H2, rt := fun _ _ => False } (σ.set ie (some (.ref ea))) (upd H' ea (excO ea C))) σ H) : tTryG K DC ie tx th En σ H := h
end
end Hb

set_option Elab.async false
set_option linter.all false
set_option maxRecDepth 100000
set_option maxHeartbeats 4000000
namespace Hb
open PySem PySem.Spec L2
open PyProof.Rows hiding St
/-- the context of a def that is called within an except suite: an exception may be at hand -/
abbrev unc (X : Cx) : Cx := { X with calm := false }
/-- a def that may be called within an except suite, too -/
structure DfN (P : Program) (w : World) (K : PySem.W.Frag) (mg : Str → Option Value) (base : Heap) (x : Str) (ps : List Str) (sp : Sp) : Prop where
  ex : ∃ (f : Addr) (fd : FuncData), mg x = some (.ref f) ∧ PySem.W.keepIn K (.ref f) = true ∧ Binds K fd ps [] ∧ (∀ vs H Q E, sp vs H Q E → vs.length = ps.length) ∧
    ∀ (A : Around) (outer : List Env) (s : Shared) (H : Hp) (args : Args) (us : List Value) (vs : List V) (Q : VK) (E : XK), A.depth < recursionLimit → Env0 P w K mg base A outer s H → BindsTo s fd args (ps.zip us) → Vals vs us → sp vs H Q E →
      codeAny (model P w) A (.call (.ref f) args) (CR CX0 outer P w H s Q E) s
theorem Tx.okN {P : Program} {w : World} {K : PySem.W.Frag} {mg : Str → Option Value} {base : Heap} {x : Str} {st : Stmt} {N ps : List Str} {sp : Sp} (T : Tx K mg x st ps) (S : FnScope N ps (defScope st)) (len : ∀ vs H Q E, sp vs H Q E → vs.length = ps.length)
    (hbody : ∀ (f : Addr) (cdv : Value) (A : Around) (outer : List Env) (s : Shared) (H : Hp) (vs : List V) (Q : VK) (E : XK), sp vs H Q E →
      ∃ t, PSs (unc (cxOf CX0 P w K mg base N x (defScope st) f cdv A outer s H E).nox) (defBody st) t ∧ t { nx := fun _ H' => Q .non H', rt := Q } (start N vs) H) : DfN P w K mg base x ps sp := by
  obtain ⟨f, fd, hm, F, hb⟩ := T.ex
  obtain ⟨oc, od, kV, doc, pm, an, cdv, ct, osl, rfl, lk, hcd⟩ := F.ex
  refine ⟨f, _, hm, F.kp, hb, len, fun A outer s H args us vs Q E hdp e0 hbt r hsp => ?_⟩
  have hl := len _ _ _ _ hsp
  have KX : K.In s.heap := e0.mod.kin.keeps fun b o e => (e0.bs b o e).1
  have lim : s.heap.NoLimit := e0.mod.nolimit.keeps fun b o e => (e0.bs b o e).1
  have hkind : ∀ y ∈ ps.zip us, (defScope st).names.lookup y.1 = some .local ∨ ((defScope st).names.lookup y.1 = some .cell ∧ ((cellsFrom (s.heap.objs.size + 1) (defScope st).names []).lookup y.1).isSome = true) := fun ⟨n, v⟩ hy => by
    rcases S.par n (List.of_mem_zip hy).1 with q | q
    · exact .inl q
    · exact .inr ⟨q, PySem.W.cellsFrom_some _ _ _ (.inl q)⟩
  refine codeAny_call_function hdp (KX _ _ lk) rfl S.co S.gen rfl (PySem.W.codeRec_of KX hcd) (hbt _ _ _ _ ?_)
  refine wpAny_newFunctionEnv_cells S.kind hkind fun env he s1 x' => ?_
  subst he
  refine ⟨lim.keeps x'.toInCall.keep, codeAny_func ?_⟩
  obtain ⟨t, ht, hq⟩ := hbody f cdv A outer s H vs Q E hsp
  have e1 : Env0 P w K mg base ({ A with handled := Option.none } : Around) outer s H := ⟨e0.frames, e0.mod, e0.bs, e0.bsz, e0.funs, e0.frf, e0.hok, e0.bare⟩
  have I0 : L2.Inv (cxOf CX0 P w K mg base N x (defScope st) f cdv ({ A with handled := Option.none } : Around) outer s H E) [] (start N vs) H s1 := inv_start S rfl e1 hl r x'
  have I : L2.Inv (unc (cxOf CX0 P w K mg base N x (defScope st) f cdv A outer s H E).nox) [] (start N vs) H s1 :=
    ⟨⟨I0.ok.mod, I0.ok.kind, I0.ok.glob, I0.ok.blt, I0.ok.above, I0.ok.inj, I0.ok.has, I0.ok.cab, fun z => (by cases z), I0.ok.frames, I0.ok.stk, I0.ok.exf, I0.ok.bs, I0.ok.bsz, I0.ok.noex, I0.ok.exfs, I0.ok.funs, I0.ok.frf⟩, I0.os, I0.bare, I0.base, I0.loc, I0.cell, I0.free, I0.freeC, I0.pin, I0.hok, I0.len⟩
  refine wpAny_mono (ht [] s1 (start N vs) H _ I hq) (fun fl s' hs => ?_) fun e s' hs => hs.elim
  have fin : ∀ {σ' : L2.St} {H' : Hp} {v : V} {u : Value}, L2.Inv (unc (cxOf CX0 P w K mg base N x (defScope st) f cdv A outer s H E).nox) [] σ' H' s' → RelV v u → Q v H' → CE outer P w H s Q u s' :=
    fun {σ' H' v u} J rv q => ⟨v, H', J.os, J.bare, J.base, J.hok, rv, q⟩
  cases fl with
  | ret u =>
    obtain ⟨v, σ', H', J, rv, q⟩ := hs
    exact fin J rv q
  | next =>
    obtain ⟨σ', H', J, q⟩ := hs
    exact fin (v := V.non) (u := Value.none) J rfl q
  | brk =>
    obtain ⟨_, _, _, q⟩ := hs
    exact False.elim q
  | cont =>
    obtain ⟨_, _, _, q⟩ := hs
    exact False.elim q
section
variable {X : Cx} {x : Str} {ps : List Str} {sp : Sp} {p pos : Pos} {e : Expr} {es : List Expr} {t : TA}
theorem pe_cdN (G : DfN X.prog X.w X.K X.mg X.base x ps sp) (hdp : X.A.depth < recursionLimit) (hg : Gl X x) (ha : PA X (e :: es) t) (hdb : (x == ("__debug__" : Str)) = false := by decide) (he : starEach (e :: es) X.env = (false, eval e X.env) :: starEach es X.env := by rfl) (hpl : (backTo pos (starEach es X.env)).any (·.1) = false := by rfl) :
    PE X (.Call (.Name x p) (e :: es) [] pos) (tCall sp [] E0 t) := by
  intro pins s σ H Q I h
  obtain ⟨f, fd, hm, hk, hb, len, run⟩ := G.ex
  refine wpAny_Call_Name_kw (ld_glob I hg hm ?_ hdb)
  refine PySem.W.callWith_K (h₀ := X.base) I.ok.mod.kin hk (thn (ha pos pins s σ H _ I h) fun us s1 ⟨vs, H1, I1, r, q⟩ => ⟨I1.kIn, ?_⟩) he hpl
  have r2 : Vals (vs ++ []) (us ++ []) := r.append .nil
  have hl : (us ++ []).length = ps.length := by rw [← r2.length]; exact len _ _ _ _ q
  refine wpAny_call (codeAny_mono (run X.A X.stack s1 H1 ⟨us, []⟩ (us ++ []) (vs ++ []) Q E0 hdp I1.env0 (hb s1 us I1.kIn hl) r2 q) fun r s' hq => ?_)
  cases r with
  | error e => exact hq.elim
  | ok fl =>
    cases fl with
    | ret u => exact I1.after hq
    | next => exact False.elim hq
    | brk => exact False.elim hq
    | cont => exact False.elim hq
end
end Hb

set_option Elab.async false
set_option linter.all false
set_option maxRecDepth 100000
set_option maxHeartbeats 4000000
namespace Hb
open PySem
/-! ### a set's table: its places rise, none is spent, its maker is led or not -/
structure TOk (b : Bool) (t : SetTable) : Prop where
  rise : t.place.toList.Pairwise (· < ·)
  led : t.led = b
theorem rise_lt {xs : Array Nat} (h : xs.toList.Pairwise (· < ·)) {i k : Nat} (hik : i < k) (hk : k < xs.size) : xs.getD i 0 < xs.getD k 0 := by
  have := List.pairwise_iff_getElem.mp h i k (by simpa using (by omega : i < xs.size)) (by simpa using hk) hik
  rw [Array.getElem_toList, Array.getElem_toList] at this
  simpa [Array.getD, hk, (by omega : i < xs.size)] using this
theorem getD_any {xs : Array Nat} {i d : Nat} (h : i < xs.size) : xs.getD i d = xs.getD i 0 := by simp [Array.getD, h]
/-- where a place stands or would stand -/
def LB (xs : Array Nat) (j r : Nat) : Prop := r ≤ xs.size ∧ (∀ i, i < r → xs.getD i 0 < j) ∧ ∀ i, r ≤ i → i < xs.size → j ≤ xs.getD i 0
theorem below_go {xs : Array Nat} {j : Nat} (hr : xs.toList.Pairwise (· < ·)) : ∀ (fuel lo hi : Nat), lo ≤ hi → hi ≤ xs.size → hi - lo ≤ fuel → (∀ i, i < lo → xs.getD i 0 < j) → (∀ i, hi ≤ i → i < xs.size → j ≤ xs.getD i 0) → LB xs j (SetTable.below.go xs j fuel lo hi)
  | 0, lo, hi, h1, h2, h3, h4, h5 => by
    have : lo = hi := by omega
    subst this
    exact ⟨h2, h4, h5⟩
  | fuel + 1, lo, hi, h1, h2, h3, h4, h5 => by
    unfold SetTable.below.go
    by_cases h : lo < hi
    · rw [if_pos h]
      have hm : (lo + hi) / 2 < xs.size := by omega
      show LB xs j (if xs.getD ((lo + hi) / 2) j < j then _ else _)
      rw [getD_any hm]
      by_cases hc : xs.getD ((lo + hi) / 2) 0 < j
      · rw [if_pos hc]
        refine below_go hr fuel _ _ (by omega) h2 (by omega) (fun i hi' => ?_) h5
        by_cases e : i = (lo + hi) / 2
        · rw [e]; exact hc
        · have := rise_lt hr (show i < (lo + hi) / 2 by omega) hm
          omega
      · rw [if_neg hc]
        refine below_go hr fuel _ _ (by omega) (by omega) (by omega) h4 fun i hi' hs => ?_
        by_cases e : i = (lo + hi) / 2
        · rw [e]; omega
        · have := rise_lt hr (show (lo + hi) / 2 < i by omega) hs
          omega
    · rw [if_neg h]
      have : lo = hi := by omega
      subst this
      exact ⟨h2, h4, h5⟩
theorem below_lb {xs : Array Nat} {j : Nat} (hr : xs.toList.Pairwise (· < ·)) : LB xs j (SetTable.below xs j) :=
  below_go hr _ _ _ (Nat.zero_le _) (Nat.le_refl _) (by omega) (fun i h => absurd h (by omega)) fun i h1 h2 => absurd h1 (by omega)
theorem insert_list {α : Type} (xs : Array α) (p : Nat) (x : α) : (SetTable.insertAt xs p x).toList = xs.toList.take p ++ x :: xs.toList.drop p := by
  unfold SetTable.insertAt
  simp [List.extract_eq_drop_take]
  exact List.take_of_length_le (by simp)
theorem insert_rise {xs : Array Nat} {j : Nat} (hr : xs.toList.Pairwise (· < ·)) (hn : xs[SetTable.below xs j]? ≠ some j) : (SetTable.insertAt xs (SetTable.below xs j) j).toList.Pairwise (· < ·) := by
  obtain ⟨h1, h2, h3⟩ := below_lb (j := j) hr
  rw [insert_list]
  generalize hp : SetTable.below xs j = p at *
  have tk : ∀ y ∈ xs.toList.take p, y < j := fun y hy => by
    obtain ⟨i, hi, e⟩ := List.mem_iff_getElem.mp hy
    rw [List.length_take] at hi
    rw [List.getElem_take] at e
    have hs : i < xs.size := by have := xs.length_toList; omega
    have := h2 i (by omega)
    rw [← e, Array.getElem_toList]
    simpa [Array.getD, hs] using this
  have dr : ∀ y ∈ xs.toList.drop p, j < y := fun y hy => by
    obtain ⟨i, hi, e⟩ := List.mem_iff_getElem.mp hy
    rw [List.length_drop] at hi
    rw [List.getElem_drop] at e
    have hs : p + i < xs.size := by have := xs.length_toList; omega
    have h4 := h3 (p + i) (by omega) hs
    have e2 : xs.getD (p + i) 0 = y := by rw [← e, Array.getElem_toList]; simp [Array.getD, hs]
    rw [e2] at h4
    by_cases hj : j = y
    · exfalso
      by_cases hi0 : i = 0
      · subst hi0
        apply hn
        rw [Nat.add_zero] at hs e2
        rw [Array.getElem?_eq_getElem hs]
        have : xs.getD p 0 = xs[p] := by simp [Array.getD, hs]
        rw [← this, e2, hj]
      · have h5 := rise_lt hr (show p < p + i by omega) hs
        have h6 := h3 p (Nat.le_refl _) (by omega)
        rw [e2] at h5
        omega
    · omega
  refine List.pairwise_append.mpr ⟨hr.sublist (List.take_sublist _ _), List.pairwise_cons.mpr ⟨dr, hr.sublist (List.drop_sublist _ _)⟩, fun a ha b hb => ?_⟩
  rcases List.mem_cons.mp hb with rfl | hb
  · exact tk a ha
  · exact Nat.lt_trans (tk a ha) (dr b hb)
/-- a slot that nobody lives in -/
abbrev NoL (t : SetTable) (j : Nat) : Prop := t.place[SetTable.below t.place j]? ≠ some j
theorem TOk.fresh (b : Bool) : TOk b (.fresh 0 0 b) := ⟨by simp [SetTable.fresh], rfl⟩
theorem TOk.put {b : Bool} {t : SetTable} (h : TOk b t) {j : Nat} (hs : NoL t j) : TOk b (t.put j).1 := ⟨insert_rise h.rise hs, h.led⟩
end Hb

set_option Elab.async false
set_option linter.all false
set_option maxRecDepth 100000
set_option maxHeartbeats 4000000
namespace Hb
open PySem PySem.Spec
/-- a set of whole numbers with its table -/
def SetX (P : Program) (w : World) (b : Bool) (h : Heap) (a : Addr) (S : Int → Bool) (n : Nat) : Prop :=
  ∃ (u : Obj) (el : Array (Int × Value)) (e0 : Nat) (tb : SetTable), h.get? a = some u ∧ u.ExactSet ∧ u.data = .set el e0 tb ∧ ElemsOf (intKind P w) el.toList ∧
    (∀ i, S i = true ↔ ∃ c ∈ el.toList, (intKind P w).is i c.2 = true) ∧ el.size < scanBound ∧ tb.fits el.size = true ∧ el.size = n ∧ TOk b tb
theorem SetX.setOf {P : Program} {w : World} {b : Bool} {h : Heap} {a : Addr} {S : Int → Bool} {n : Nat} (x : SetX P w b h a S n) : h.SetOf (intKind P w) a S n := by
  obtain ⟨u, el, e0, tb, x1, x2, x3, x4, x5, x6, x7, x8, _⟩ := x
  exact ⟨u, el, e0, tb, x1, x2, x3, x4, x5, x6, x7, x8⟩
section
variable {P : Program} {w : World} {A : Around} {E : Value → Shared → Prop} {s : Shared} {b : Bool} {a : Addr} {S : Int → Bool} {n : Nat}
end
end Hb

set_option Elab.async false
set_option linter.all false
set_option maxRecDepth 100000
set_option maxHeartbeats 4000000
namespace Hb
open PySem PySem.Spec PyProof.Rows
/-- sets are not gone through by a text's order -/
abbrev ledB (w : World) : Bool := !w.params.followText "set-order"
abbrev setO (b : Bool) : Obj := { cls := .type "set", dict := none, data := .set #[] 0 (.fresh 0 0 b) }
section
variable {P : Program} {w : World} {A : Around} {R : Result → Shared → Prop} {I : Addr} {fp wr : List Addr} {G : Array GenState → Array GenState → Prop} {n : Nat} {Pv : Nat → Value → Prop} {St : Nat → Shared → Prop} {b : Bool}
end
section
variable {P : Program} {w : World} {A : Around} {E : Value → Shared → Prop} {s : Shared}
end
end Hb

set_option Elab.async false
set_option linter.all false
set_option maxRecDepth 100000
set_option maxHeartbeats 4000000
namespace Hb
open PySem PySem.Spec PyProof.Rows
section
variable {P : Program} {w : World} {A : Around} {E : Value → Shared → Prop} {s : Shared}
theorem SetX.fresh {b : Bool} {h : Heap} {a : Addr} (e : h.get? a = some (setO b)) : SetX P w b h a (fun _ => false) 0 :=
  ⟨_, #[], 0, _, e, ⟨rfl, rfl, rfl⟩, rfl, fun c hc => by simp at hc, fun i => by simp, by decide, by rfl, rfl, TOk.fresh b⟩
end
end Hb

set_option Elab.async false
set_option linter.all false
set_option maxRecDepth 100000
set_option maxHeartbeats 4000000
namespace Hb
open PySem PySem.Spec PyProof.Rows PySem.Calls
theorem slot_set_it : Slot "set" "__iter__" "set.__iter__" :=
  .of (owner := "set") (n := "__iter__") (by rw [typeLookup_type, builtinLookup_eq_fast]; kernel_rfl) (by decide +kernel) (by decide +kernel) (by decide +kernel) (by first | exact .inr (by decide +kernel) | exact .inl (by decide +kernel)) (by rw [isSubtype_type]; kernel_rfl)
theorem entry_set_it : entryFor table "set.__iter__" = some Builtin.«frozenset.__iter__» := entryFor_alias (id' := "frozenset.__iter__") (by kernel_rfl) rfl (by decide +kernel) (by kernel_rfl)
theorem args_set_it (v : Value) : argsOk "set.__iter__" ⟨[v], []⟩ := by unfold argsOk; kernel_rfl
theorem slot_si_next : Slot "set_iterator" "__next__" "set_iterator.__next__" :=
  .of (owner := "set_iterator") (n := "__next__") (by rw [typeLookup_type, builtinLookup_eq_fast]; kernel_rfl) (by decide +kernel) (by decide +kernel) (by decide +kernel) (by first | exact .inr (by decide +kernel) | exact .inl (by decide +kernel)) (by rw [isSubtype_type]; kernel_rfl)
theorem entry_si_next : entryFor table "set_iterator.__next__" = some Builtin.«set_iterator.__next__» := entryFor_of_tree (by kernel_rfl)
theorem args_si_next (v : Value) : argsOk "set_iterator.__next__" ⟨[v], []⟩ := by unfold argsOk; kernel_rfl
theorem slot_si_iter : Slot "set_iterator" "__iter__" "set_iterator.__iter__" :=
  .of (owner := "set_iterator") (n := "__iter__") (by rw [typeLookup_type, builtinLookup_eq_fast]; kernel_rfl) (by decide +kernel) (by decide +kernel) (by decide +kernel) (by first | exact .inr (by decide +kernel) | exact .inl (by decide +kernel)) (by rw [isSubtype_type]; kernel_rfl)
theorem len_set : typeLookup (.type "set") "__len__" = pure (some (.builtin "set.__len__")) := by rw [typeLookup_type, builtinLookup_eq_fast]; kernel_rfl
theorem erase_perm {α : Type} : ∀ (xs : List α) (i : Nat) (hi : i < xs.length), (xs[i] :: xs.eraseIdx i).Perm xs
  | x :: xs, 0, _ => .refl _
  | x :: xs, i + 1, hi => (List.Perm.swap x (xs[i]'(by simpa using hi)) _).trans ((erase_perm xs i (by simpa using hi)).cons x)
section
variable {P : Program} {w : World} {A : Around} {E : Value → Shared → Prop} {s : Shared}
theorem choose_x {src : Source} {n : Nat} {Q : Nat → Shared → Prop} (hn : n ≠ 0) (h : ∀ i d, i < n → Q i { s with drawn := d }) : wpAny (model P w) A (choose src n) Q E s := fun Γ p hΓ => by
  unfold choose
  rw [Sem.wp_choose]
  exact ⟨hn, h _ _ (Nat.mod_lt _ (Nat.pos_of_ne_zero hn))⟩
theorem draw_x {α : Type} : ∀ (n : Nat) (xs : List α) (s : Shared) {Q : List α → Shared → Prop}, xs.length = n → (∀ ys d, ys.Perm xs → Q ys { s with drawn := d }) → wpAny (model P w) A (drawOrder n xs) Q E s
  | 0, xs, s, Q, hl, h => by
    have : xs = [] := List.length_eq_zero_iff.mp hl
    subst this
    exact wpAny_pure (h [] s.drawn .nil)
  | n + 1, [], s, Q, hl, h => by simp at hl
  | n + 1, x :: xs, s, Q, hl, h => by
    show wpAny _ _ (choose .order (x :: xs).length >>= _) _ _ s
    refine wpAny_bind (choose_x (by simp) fun i d hi => ?_)
    rw [List.getElem?_eq_getElem hi]
    dsimp only
    refine wpAny_bind (draw_x n ((x :: xs).eraseIdx i) _ (by rw [List.length_eraseIdx_of_lt hi]; omega) fun ys d2 hp => ?_)
    exact wpAny_pure (h _ d2 ((List.Perm.cons _ hp).trans (erase_perm _ i hi)))
end
/-- a set's iterator at its i-th -/
def SIt (h : Heap) (I a : Addr) (first : Value) (i n ep : Nat) : Prop := ∃ o, h.get? I = some o ∧ o.cls = .type "set_iterator" ∧ o.data = .fields #[first, .int i 0, .ref a, .int n 0, .int ep 0]
theorem SIt.ty {s : Shared} {I a : Addr} {first : Value} {i n ep : Nat} (x : SIt s.heap I a first i n ep) : s.TypeIs (.ref I) "set_iterator" := by
  obtain ⟨o, h1, h2, _⟩ := x
  exact ⟨o, h1, h2⟩
theorem LB.uniq {xs : Array Nat} {j r r' : Nat} (h : LB xs j r) (h' : LB xs j r') : r = r' := by
  obtain ⟨a1, a2, a3⟩ := h
  obtain ⟨b1, b2, b3⟩ := h'
  by_cases c : r < r'
  · have := b2 r c
    have := a3 r (Nat.le_refl _) (by omega)
    omega
  · by_cases c2 : r' < r
    · have := a2 r' c2
      have := b3 r' (Nat.le_refl _) (by omega)
      omega
    · omega
/-- the slot from which the i-th is sought -/
def slotOf (tb : SetTable) (i : Nat) : Nat := if i = 0 then 0 else tb.place.getD (i - 1) 0 + 1
theorem below_slot {b : Bool} {tb : SetTable} (k : TOk b tb) {i : Nat} (hi : i ≤ tb.place.size) : SetTable.below tb.place (slotOf tb i) = i := by
  refine (below_lb k.rise).uniq ⟨hi, fun m hm => ?_, fun m h1 h2 => ?_⟩
  · unfold slotOf
    rw [if_neg (by omega)]
    by_cases e : m = i - 1
    · rw [e]; omega
    · have := rise_lt k.rise (show m < i - 1 by omega) (by omega)
      omega
  · unfold slotOf
    by_cases e : i = 0
    · rw [if_pos e]; omega
    · rw [if_neg e]
      have := rise_lt k.rise (show i - 1 < m by omega) h2
      omega
end Hb

set_option Elab.async false
set_option linter.all false
set_option maxRecDepth 100000
set_option maxHeartbeats 4000000
namespace Hb
open PySem PySem.Spec PyProof.Rows PySem.Calls
/-- the set as it lies while it is gone through -/
def SAt (h : Heap) (a : Addr) (el : Array (Int × Value)) (ep : Nat) (tb : SetTable) : Prop := ∃ u, h.get? a = some u ∧ u.ExactSet ∧ u.data = .set el ep tb
section
variable {P : Program} {w : World} {A : Around} {E : Value → Shared → Prop} {s : Shared} {I a : Addr} {el : Array (Int × Value)} {ep i : Nat} {tb : SetTable} {b : Bool}
/-- the place from which it goes on is put -/
theorem fields_x {first f2 : Value} {n : Nat} {Q : Fin → Shared → Prop} {x : Value} (it : SIt s.heap I a first i n ep) (fin : ∀ h', SIt h' I a f2 (i + 1) n ep → Heap.SameBut I s.heap h' → Q (.done (.ret x)) { s with heap := h' }) :
    wpAny (model P w) A (setField (.ref I) 0 f2 >>= fun _ => setField (.ref I) 1 (rawInt ((i : Int) + 1)) >>= fun _ => ret x) Q E s := by
  obtain ⟨o, h1, h2, h3⟩ := it
  refine wpAny_bind (wpAny_setField h1 h3 (by simp) ?_)
  have g1 := Heap.get?_update_self (Obj.mapFields (·.setIfInBounds 0 f2)) h1 (Obj.isFreed_of_fields (Obj.data_mapFields h3 _))
  have d1 := Obj.data_mapFields h3 (·.setIfInBounds 0 f2)
  refine wpAny_bind (wpAny_setField g1 d1 (by simp) ?_)
  have g2 := Heap.get?_update_self (Obj.mapFields (·.setIfInBounds 1 (rawInt ((i : Int) + 1)))) g1 (Obj.isFreed_of_fields (Obj.data_mapFields d1 _))
  have d2 := Obj.data_mapFields d1 (·.setIfInBounds 1 (rawInt ((i : Int) + 1)))
  refine wpAny_pure (fin _ ⟨_, g2, ?_, ?_⟩ ((Heap.SameBut.update ..).trans (Heap.SameBut.update ..)))
  · rw [Obj.cls_mapFields, Obj.cls_mapFields]; exact h2
  · rw [d2]; simp [rawInt]
/-- what the table tells of the next one -/
theorem setNext_B {Q : Option (Value × Nat) → Shared → Prop} (ft : w.params.followText "set-order" = false) (sa : SAt s.heap a el ep tb) (fs : tb.fits el.size = true) (tk : TOk true tb) (nd : (!tb.plain && decide (el.size > 1)) = false) (hi : i ≤ el.size)
    (fin : Q (el[i]?.map fun c => (c.2, slotOf tb (i + 1))) s) : wpAny (model P w) A (setNext a (slotOf tb i) i ep) Q E s := by
  obtain ⟨u, u1, u2, u3⟩ := sa
  have hps : tb.place.size = el.size := by
    simp only [SetTable.fits, Bool.and_eq_true, beq_iff_eq] at fs
    exact fs.1
  unfold setNext
  refine wpAny_bind (wpAny_setState_of u1 u3 fs ?_)
  dsimp only
  refine wpAny_bind ?_
  unfold setsByText
  refine wpAny_bind (wpAny_askSetting (wpAny_pure ?_))
  refine wpAny_ite_split (fun hc => absurd (show w.params.followText "set-order" = true from hc) (by rw [ft]; decide)) (fun _ => ?_)
  refine wpAny_ite_split (fun hc => absurd (show (!tb.plain && decide (el.size > 1)) = true from hc) (by rw [nd]; decide)) (fun _ => ?_)
  refine wpAny_bind ?_
  show wpAny _ _ (if (!tb.led && !el.isEmpty) = true then unsupported _ else pure ()) _ _ _
  rw [if_neg (by rw [tk.led]; simp)]
  refine wpAny_pure (wpAny_pure ?_)
  rw [below_slot tk (by omega)]
  by_cases h : i < el.size
  · rw [Array.getElem?_eq_getElem h, Array.getElem?_eq_getElem (show i < tb.place.size by omega)]
    rw [Array.getElem?_eq_getElem h] at fin
    have e : slotOf tb (i + 1) = tb.place[i]'(by omega) + 1 := by
      unfold slotOf
      rw [if_neg (by omega), Nat.add_sub_cancel]
      simp [Array.getD, (show i < tb.place.size by omega)]
    rw [Option.map_some, e] at fin
    exact fin
  · rw [Array.getElem?_eq_none (by omega)] at fin ⊢
    exact fin
theorem go_perm {α : Type} (nx : Nat → Nat) : ∀ (fuel k : Nat) (left : List α) (out : Array α), left.length = fuel → (pickOrder.go nx fuel k left out).toList.Perm (out.toList ++ left)
  | 0, k, left, out, h => by
    have : left = [] := List.length_eq_zero_iff.mp h
    subst this
    simp [pickOrder.go]
  | fuel + 1, k, left, out, h => by
    have hl : nx k % left.length < left.length := Nat.mod_lt _ (by omega)
    unfold pickOrder.go
    rw [List.getElem?_eq_getElem hl]
    dsimp only
    refine (go_perm nx fuel (k + 1) _ _ (by rw [List.length_eraseIdx_of_lt hl]; omega)).trans ?_
    rw [Array.toList_push, List.append_assoc]
    exact (erase_perm left _ hl).append_left _
theorem pick_perm {α : Type} (nx : Nat → Nat) (xs : Array α) : (pickOrder nx xs).toList.Perm xs.toList := by
  have := go_perm nx xs.size 0 xs.toList #[] (by simp)
  simpa [pickOrder] using this
theorem setNext_T {Q : Option (Value × Nat) → Shared → Prop} {sl : Nat} (ft : w.params.followText "set-order" = true) (sa : SAt s.heap a el ep tb) (fs : tb.fits el.size = true)
    (fin : Q ((pickOrder (w.params.setOrder a ep) el)[i]?.map fun c => (c.2, sl)) s) : wpAny (model P w) A (setNext a sl i ep) Q E s := by
  obtain ⟨u, u1, u2, u3⟩ := sa
  unfold setNext
  refine wpAny_bind (wpAny_setState_of u1 u3 fs ?_)
  dsimp only
  refine wpAny_bind ?_
  unfold setsByText
  refine wpAny_bind (wpAny_askSetting (wpAny_pure ?_))
  refine wpAny_ite_split (fun _ => ?_) (fun hc => absurd (show w.params.followText "set-order" = true from ft) hc)
  rw [if_neg (by simp)]
  refine wpAny_bind ?_
  unfold setWalk
  refine wpAny_bind (wpAny_setState_of u1 u3 fs ?_)
  dsimp only
  refine wpAny_bind ?_
  unfold setsByText
  refine wpAny_bind (wpAny_askSetting (wpAny_pure ?_))
  refine wpAny_ite_split (fun _ => ?_) (fun hc => absurd (show w.params.followText "set-order" = true from ft) hc)
  refine wpAny_bind (wpAny_askSetting (wpAny_pure (wpAny_pure ?_)))
  exact fin
/-- the next one by a number -/
theorem pynext_int {Q : Option Value → Shared → Prop} {sl : Nat} {r : Option (Value × Nat)} (hh : A.handled = none) (it : SIt s.heap I a (.int (sl : Nat) 0) i el.size ep) (sa : SAt s.heap a el ep tb) (fs : tb.fits el.size = true)
    (sn : ∀ (A' : Around) (E' : Value → Shared → Prop) (Q' : Option (Value × Nat) → Shared → Prop), Q' r s → wpAny (model P w) A' (setNext a sl i ep) Q' E' s)
    (f1 : ∀ x nx h', r = some (x, nx) → SIt h' I a (.int (nx : Nat) 0) (i + 1) el.size ep → Heap.SameBut I s.heap h' → Q (some x) { s with heap := h' })
    (f0 : ∀ h', r = none → Heap.ExtBut I s.heap h' → Q none { s with heap := h' }) : wpAny (model P w) A (pyNext (.ref I)) Q E s := by
  obtain ⟨o, h1, h2, h3⟩ := id it
  obtain ⟨u, u1, u2, u3⟩ := id sa
  unfold pyNext
  refine wpAny_bind (wpAny_attempt (wpAny_callSpecial?_slot (name := Str.ofString "__next__") it.ty slot_si_next (wpAny_call_entry slot_si_next it.ty entry_si_next ?_ (args_si_next _))))
  unfold Builtin.«set_iterator.__next__»
  refine wpAny_bind (wpAny_pure (wpAny_bind (wpAny_fieldsOf h1 h3 ?_)))
  dsimp only
  refine wpAny_bind (wpAny_setEntries_of u1 u3 fs ?_)
  rw [if_neg (by simp)]
  refine wpAny_bind ?_
  have e1 : ((sl : Nat) : Int).toNat = sl := by omega
  have e2 : ((i : Nat) : Int).toNat = i := by omega
  have e3 : ((ep : Nat) : Int).toNat = ep := by omega
  rw [e1, e2, e3]
  refine sn _ _ _ ?_
  cases r with
  | some p =>
    obtain ⟨x, nx⟩ := p
    dsimp only
    exact fields_x (f2 := rawInt (nx : Nat)) it fun h' it' sb => ⟨x, rfl, wpAny_pure (f1 x nx h' rfl it' sb)⟩
  | none =>
    dsimp only
    refine wpAny_bind (wpAny_setField h1 h3 (by simp) (wpAny_bind ?_)); simp only [newExc, newTuple]
    refine wpAny_bind (wpAny_newObj_type (wpAny_bind (m := firstArgMember _ _) (wpAny_of_eq (a := Value.none) (by first | (simp only [firstArgMember]; rfl) | rfl) ?_)) (by size_fits))
    refine wpAny_newObj_type (show wpAny _ _ _ _ _ _ from ?_) (by size_fits); simp only [raiseNew]
    refine wpAny_bind (wpAny_handled (show wpAny _ _ _ _ _ _ from ?_)); rw [show A.in1.handled = none from hh]; refine wpAny_bind (wpAny_pure (wpAny_throw ?_))
    refine wpAny_bind (wpAny_isInstance (T := "StopIteration") (b := true) ⟨_, Heap.get?_push_size _ rfl, rfl⟩ isSubtype_stop (show wpAny _ _ _ _ _ _ from ?_))
    exact wpAny_pure (f0 _ rfl (((Heap.SameBut.update ..).extBut.push _).push _))
end
end Hb

set_option Elab.async false
set_option linter.all false
set_option maxRecDepth 100000
set_option maxHeartbeats 4000000
namespace Hb
open PySem PySem.Spec PyProof.Rows PySem.Calls
theorem SIt.keep {h h' : Heap} {I a : Addr} {f : Value} {i n ep : Nat} (x : SIt h I a f i n ep) (k : ∀ o, h.get? I = some o → h'.get? I = some o) : SIt h' I a f i n ep := by
  obtain ⟨o, h1, r⟩ := x
  exact ⟨o, k o h1, r⟩
theorem SAt.keep {h h' : Heap} {a : Addr} {el : Array (Int × Value)} {ep : Nat} {tb : SetTable} (x : SAt h a el ep tb) (k : ∀ o, h.get? a = some o → h'.get? a = some o) : SAt h' a el ep tb := by
  obtain ⟨o, h1, r⟩ := x
  exact ⟨o, k o h1, r⟩
theorem entry_si_iter : ∃ bi, entryFor table "set_iterator.__iter__" = some bi ∧ ∀ v, bi ⟨[v], []⟩ = Builtin.«dict_keyiterator.__iter__» ⟨[v], []⟩ := ⟨_, entryFor_alias (id' := "dict_keyiterator.__iter__") (by kernel_rfl) rfl (by decide +kernel) (by kernel_rfl), fun _ => rfl⟩
theorem args_si_iter (v : Value) : argsOk "set_iterator.__iter__" ⟨[v], []⟩ := by unfold argsOk; kernel_rfl
section
variable {P : Program} {w : World} {A : Around} {E : Value → Shared → Prop} {s : Shared} {I a : Addr} {el : Array (Int × Value)} {ep i : Nat} {tb : SetTable} {b : Bool}
theorem self_x {f : Value} {n : Nat} {Q : Value → Shared → Prop} (it : SIt s.heap I a f i n ep) (fin : Q (.ref I) s) : wpAny (model P w) A (pyIter (.ref I)) Q E s := by
  obtain ⟨bi, e1, e2⟩ := entry_si_iter
  refine wpAny_pyIter_slot it.ty slot_si_iter (wpAny_call_entry slot_si_iter it.ty e1 ?_ (args_si_iter _))
  rw [e2]
  unfold Builtin.«dict_keyiterator.__iter__»
  exact wpAny_bind (wpAny_pure (wpAny_pure ⟨.ref I, rfl, "set_iterator", _, it.ty, slot_si_next.lookup, fin⟩))
/-- an order that was drawn, as a tuple -/
def TAt (h : Heap) (tp : Addr) (os : List Nat) : Prop := ∃ o k, h.get? tp = some o ∧ o.data = .seq (os.map fun (j : Nat) => rawInt (j : Nat)).toArray k
theorem TAt.keep {h h' : Heap} {tp : Addr} {os : List Nat} (x : TAt h tp os) (k : ∀ o, h.get? tp = some o → h'.get? tp = some o) : TAt h' tp os := by
  obtain ⟨o, n, h1, r⟩ := x
  exact ⟨o, n, k o h1, r⟩
theorem pynext_D {Q : Option Value → Shared → Prop} {tp : Addr} {os : List Nat} (hh : A.handled = none) (it : SIt s.heap I a (.ref tp) i el.size ep) (sa : SAt s.heap a el ep tb) (ta : TAt s.heap tp os) (fs : tb.fits el.size = true) (hos : ∀ j ∈ os, j < el.size)
    (f1 : ∀ j c h', os[i]? = some j → el[j]? = some c → SIt h' I a (.ref tp) (i + 1) el.size ep → Heap.SameBut I s.heap h' → Q (some c.2) { s with heap := h' })
    (f0 : ∀ h', os[i]? = none → Heap.ExtBut I s.heap h' → Q none { s with heap := h' }) : wpAny (model P w) A (pyNext (.ref I)) Q E s := by
  obtain ⟨o, h1, h2, h3⟩ := id it
  obtain ⟨u, u1, u2, u3⟩ := id sa
  obtain ⟨v, kk, v1, v2⟩ := id ta
  unfold pyNext
  refine wpAny_bind (wpAny_attempt (wpAny_callSpecial?_slot (name := Str.ofString "__next__") it.ty slot_si_next (wpAny_call_entry slot_si_next it.ty entry_si_next ?_ (args_si_next _))))
  unfold Builtin.«set_iterator.__next__»
  refine wpAny_bind (wpAny_pure (wpAny_bind (wpAny_fieldsOf h1 h3 ?_)))
  dsimp only
  refine wpAny_bind (wpAny_setEntries_of u1 u3 fs ?_)
  rw [if_neg (by simp)]
  refine wpAny_bind (wpAny_seqItems v1 v2 ?_)
  dsimp only
  have e2 : ((i : Nat) : Int).toNat = i := by omega
  have e3 : ((ep : Nat) : Int).toNat = ep := by omega
  rw [e2, List.getElem?_toArray, List.getElem?_map]
  cases ej : os[i]? with
  | some j =>
    have hj := hos j (List.mem_of_getElem? ej)
    obtain ⟨c, ec⟩ : ∃ c, el[j]? = some c := ⟨_, Array.getElem?_eq_getElem hj⟩
    show wpAny _ _ (setNextDrawn a ((j : Nat) : Int).toNat ((ep : Nat) : Int).toNat >>= _) _ _ _
    rw [e3, show ((j : Nat) : Int).toNat = j by omega]
    refine wpAny_bind ?_
    unfold setNextDrawn
    refine wpAny_bind (wpAny_setState_of u1 u3 fs ?_)
    dsimp only
    rw [if_neg (by simp), ec]
    refine wpAny_pure ?_
    refine wpAny_bind (wpAny_setField h1 h3 (by simp) ?_)
    refine wpAny_pure ⟨c.2, rfl, wpAny_pure (f1 j c _ ej ec ⟨_, Heap.get?_update_self _ h1 (Obj.isFreed_of_fields (Obj.data_mapFields h3 _)), (Obj.cls_mapFields ..).trans h2, ?_⟩ (Heap.SameBut.update ..))⟩
    rw [Obj.data_mapFields h3]
    simp [rawInt]
  | none =>
    rw [Option.map_none]
    dsimp only
    refine wpAny_bind (wpAny_setField h1 h3 (by simp) ?_)
    have g1 := Heap.get?_update_self (Obj.mapFields (·.setIfInBounds 0 (rawInt 0))) h1 (Obj.isFreed_of_fields (Obj.data_mapFields h3 _))
    have d1 := Obj.data_mapFields h3 (·.setIfInBounds 0 (rawInt 0))
    refine wpAny_bind (wpAny_setField g1 d1 (by simp) (wpAny_bind ?_)); simp only [newExc, newTuple]
    refine wpAny_bind (wpAny_newObj_type (wpAny_bind (m := firstArgMember _ _) (wpAny_of_eq (a := Value.none) (by first | (simp only [firstArgMember]; rfl) | rfl) ?_)) (by size_fits))
    refine wpAny_newObj_type (show wpAny _ _ _ _ _ _ from ?_) (by size_fits); simp only [raiseNew]
    refine wpAny_bind (wpAny_handled (show wpAny _ _ _ _ _ _ from ?_)); rw [show A.in1.handled = none from hh]; refine wpAny_bind (wpAny_pure (wpAny_throw ?_))
    refine wpAny_bind (wpAny_isInstance (T := "StopIteration") (b := true) ⟨_, Heap.get?_push_size _ rfl, rfl⟩ isSubtype_stop (show wpAny _ _ _ _ _ _ from ?_))
    exact wpAny_pure (f0 _ ej ((((Heap.SameBut.update ..).trans (Heap.SameBut.update ..)).extBut.push _).push _))
end
section
variable {P : Program} {w : World} {A : Around}
theorem walks_B {I a : Addr} {el : Array (Int × Value)} {ep : Nat} {tb : SetTable} (hh : A.handled = none) (ne : a ≠ I) (ft : w.params.followText "set-order" = false) (fs : tb.fits el.size = true) (tk : TOk true tb) (nd : (!tb.plain && decide (el.size > 1)) = false) :
    Walks P w A I [I, a] [I] el.size (fun i v => ∃ c, el[i]? = some c ∧ v = c.2) (fun i h => i ≤ el.size ∧ SIt h I a (.int (slotOf tb i : Nat) 0) i el.size ep ∧ SAt h a el ep tb) where
  sub := fun c hc => by simp at hc; simp [hc]
  frame := fun _ _ _ st k => ⟨st.1, st.2.1.keep fun o e => k I (by simp) o e, st.2.2.keep fun o e => k a (by simp) o e⟩
  item := fun i s Q E hi st fin => by
    refine pynext_int hh st.2.1 st.2.2 fs (fun A' E' Q' q => setNext_B ft st.2.2 fs tk nd st.1 q) (fun x nx h' e it sb => ?_) (fun h' e _ => ?_)
    · rw [Array.getElem?_eq_getElem hi] at e
      simp only [Option.map_some, Option.some.injEq, Prod.mk.injEq] at e
      obtain ⟨rfl, rfl⟩ := e
      exact fin _ h' s.toks ⟨_, Array.getElem?_eq_getElem hi, rfl⟩ ⟨hi, it, st.2.2.keep fun o e => sb.extBut a o ne e⟩ fun c o hc e => sb.extBut c o (fun z => hc (by simp [z])) e
    · rw [Array.getElem?_eq_getElem hi] at e
      cases e
  done := fun s Q E st fin => by
    refine pynext_int hh st.2.1 st.2.2 fs (fun A' E' Q' q => setNext_B ft st.2.2 fs tk nd st.1 q) (fun x nx h' e it sb => ?_) (fun h' e xb => ?_)
    · rw [Array.getElem?_eq_none (Nat.le_refl _)] at e
      cases e
    · exact fin h' s.toks fun c o hc e => xb c o (fun z => hc (by simp [z])) e
  self := fun _ _ _ _ st fin => self_x st.2.1 fin
theorem walks_T {I a : Addr} {el : Array (Int × Value)} {ep : Nat} {tb : SetTable} (hh : A.handled = none) (ne : a ≠ I) (ft : w.params.followText "set-order" = true) (fs : tb.fits el.size = true) :
    Walks P w A I [I, a] [I] el.size (fun i v => ∃ c, (pickOrder (w.params.setOrder a ep) el)[i]? = some c ∧ v = c.2) (fun i h => i ≤ el.size ∧ SIt h I a (.int (0 : Nat) 0) i el.size ep ∧ SAt h a el ep tb) where
  sub := fun c hc => by simp at hc; simp [hc]
  frame := fun _ _ _ st k => ⟨st.1, st.2.1.keep fun o e => k I (by simp) o e, st.2.2.keep fun o e => k a (by simp) o e⟩
  item := fun i s Q E hi st fin => by
    have hz : (pickOrder (w.params.setOrder a ep) el).size = el.size := by rw [← Array.length_toList, (pick_perm _ _).length_eq, Array.length_toList]
    refine pynext_int hh st.2.1 st.2.2 fs (fun A' E' Q' q => setNext_T ft st.2.2 fs q) (fun x nx h' e it sb => ?_) (fun h' e _ => ?_)
    · rw [Array.getElem?_eq_getElem (by omega)] at e
      simp only [Option.map_some, Option.some.injEq, Prod.mk.injEq] at e
      obtain ⟨rfl, rfl⟩ := e
      exact fin _ h' s.toks ⟨_, Array.getElem?_eq_getElem (by omega), rfl⟩ ⟨hi, it, st.2.2.keep fun o e => sb.extBut a o ne e⟩ fun c o hc e => sb.extBut c o (fun z => hc (by simp [z])) e
    · rw [Array.getElem?_eq_getElem (by omega)] at e
      cases e
  done := fun s Q E st fin => by
    have hz : (pickOrder (w.params.setOrder a ep) el).size = el.size := by rw [← Array.length_toList, (pick_perm _ _).length_eq, Array.length_toList]
    refine pynext_int hh st.2.1 st.2.2 fs (fun A' E' Q' q => setNext_T ft st.2.2 fs q) (fun x nx h' e it sb => ?_) (fun h' e xb => ?_)
    · rw [Array.getElem?_eq_none (by omega)] at e
      cases e
    · exact fin h' s.toks fun c o hc e => xb c o (fun z => hc (by simp [z])) e
  self := fun _ _ _ _ st fin => self_x st.2.1 fin
theorem walks_D {I a tp : Addr} {el : Array (Int × Value)} {ep : Nat} {tb : SetTable} {os : List Nat} (hh : A.handled = none) (ne : a ≠ I) (ne2 : tp ≠ I) (fs : tb.fits el.size = true) (hos : os.Perm (List.range el.size)) :
    Walks P w A I [I, a, tp] [I] el.size (fun i v => ∃ j c, os[i]? = some j ∧ el[j]? = some c ∧ v = c.2) (fun i h => SIt h I a (.ref tp) i el.size ep ∧ SAt h a el ep tb ∧ TAt h tp os) where
  sub := fun c hc => by simp at hc; simp [hc]
  frame := fun _ _ _ st k => ⟨st.1.keep fun o e => k I (by simp) o e, st.2.1.keep fun o e => k a (by simp) o e, st.2.2.keep fun o e => k tp (by simp) o e⟩
  item := fun i s Q E hi st fin => by
    have hl : os.length = el.size := by rw [hos.length_eq, List.length_range]
    refine pynext_D hh st.1 st.2.1 st.2.2 fs (fun j hj => List.mem_range.mp (hos.mem_iff.mp hj)) (fun j c h' e1 e2 it sb => ?_) (fun h' e _ => ?_)
    · exact fin _ h' s.toks ⟨j, c, e1, e2, rfl⟩ ⟨it, st.2.1.keep fun o e => sb.extBut a o ne e, st.2.2.keep fun o e => sb.extBut tp o ne2 e⟩ fun c o hc e => sb.extBut c o (fun z => hc (by simp [z])) e
    · rw [List.getElem?_eq_none_iff] at e
      omega
  done := fun s Q E st fin => by
    have hl : os.length = el.size := by rw [hos.length_eq, List.length_range]
    refine pynext_D hh st.1 st.2.1 st.2.2 fs (fun j hj => List.mem_range.mp (hos.mem_iff.mp hj)) (fun j c h' e1 e2 it sb => ?_) (fun h' e xb => ?_)
    · have := (List.getElem?_eq_some_iff.mp e1).1
      omega
    · exact fin h' s.toks fun c o hc e => xb c o (fun z => hc (by simp [z])) e
  self := fun _ _ _ _ st fin => self_x st.1 fin
end
end Hb

set_option Elab.async false
set_option linter.all false
set_option maxRecDepth 100000
set_option maxHeartbeats 4000000
namespace Hb
open PySem PySem.Spec PyProof.Rows PySem.Calls
theorem walks_imp {P : Program} {w : World} {A : Around} {I : Addr} {fp wr : List Addr} {n : Nat} {P1 P2 : Nat → Value → Prop} {St : Nat → Heap → Prop} (W : Walks P w A I fp wr n P1 St) (h : ∀ i v, P1 i v → P2 i v) : Walks P w A I fp wr n P2 St :=
  ⟨W.sub, W.frame, fun i s Q E hi st fin => W.item i s Q E hi st fun v h' tk p => fin v h' tk (h i v p), W.done, W.self⟩
section
variable {P : Program} {w : World} {A : Around} {E : Value → Shared → Prop} {s : Shared} {a : Addr} {el : Array (Int × Value)} {ep : Nat} {tb : SetTable}
/-- iter(set): in whatever order, all of it -/
theorem iter_x {Q : Value → Shared → Prop} (sa : SAt s.heap a el ep tb) (fs : tb.fits el.size = true) (tk : TOk (ledB w) tb) (hz : el.size < scanBound)
    (fin : ∀ (I : Addr) (s' : Shared) (fp : List Addr) (St : Nat → Heap → Prop) (cs : List (Int × Value)), s' = { s with heap := s'.heap, drawn := s'.drawn } → (∀ c o, s.heap.get? c = some o → s'.heap.get? c = some o) → s.heap.objs.size ≤ I → (∀ c ∈ fp, c = a ∨ s.heap.objs.size ≤ c) →
      (∀ A' : Around, A'.handled = none → Walks P w A' I fp [I] el.size (fun i v => ∃ c, cs[i]? = some c ∧ v = c.2) St) → St 0 s'.heap → cs.Perm el.toList → Q (.ref I) s') : wpAny (model P w) A (pyIter (.ref a)) Q E s := by
  obtain ⟨u, u1, u2, u3⟩ := id sa
  have ty : s.TypeIs (.ref a) "set" := ⟨u, u1, u2.1⟩
  have alt := Heap.lt_size u1
  refine wpAny_pyIter_slot ty slot_set_it (wpAny_call_entry slot_set_it ty entry_set_it ?_ (args_set_it _))
  unfold Builtin.«frozenset.__iter__»
  refine wpAny_bind (wpAny_pure ?_)
  refine wpAny_bind ?_
  unfold Builtin.Frozenset.sizeOf
  refine wpAny_bind (wpAny_setEntries_of u1 u3 fs (wpAny_pure ?_))
  refine wpAny_bind (show wpAny _ _ (setDrawn a) _ _ _ from ?_)
  unfold setDrawn
  refine wpAny_bind (wpAny_setState_of u1 u3 fs ?_)
  dsimp only
  refine wpAny_bind ?_
  unfold setsByText
  refine wpAny_bind (wpAny_askSetting (wpAny_pure (wpAny_pure ?_)))
  have mk : ∀ (s1 : Shared) (first : Value), s1.heap.get? a = some u → (∀ I h', I = s1.heap.objs.size → h' = s1.heap.push { cls := .type "set_iterator", data := .fields #[first, .int 0 0, .ref a, .int (el.size : Nat) 0, .int (ep : Nat) 0] } → Q (.ref I) { s1 with heap := h' }) →
      wpAny (model P w) A.in1 (setEpoch a >>= fun e => newFields "set_iterator" [first, rawInt 0, .ref a, rawInt (el.size : Nat), rawInt (e : Nat)] >>= fun r => ret r) (fun fin s' => ∃ v, fin = Fin.done (Flow.ret v) ∧ ∃ T' r, s'.TypeIs v T' ∧ typeLookup (Value.type T') (Str.ofString "__next__") = pure (some r) ∧ Q v s') E s1 := fun s1 first e1 q => by
    refine wpAny_bind (wpAny_setEpoch_of e1 u3 fs (wpAny_bind ?_))
    refine wpAny_newObj_type (show wpAny _ _ _ _ _ _ from wpAny_pure ⟨_, rfl, "set_iterator", _, ⟨_, Heap.get?_push_size _ rfl, rfl⟩, slot_si_next.lookup, ?_⟩)
    exact q _ _ rfl rfl
  have itat : ∀ (h : Heap) (first : Value), SIt (h.push { cls := .type "set_iterator", data := .fields #[first, .int 0 0, .ref a, .int (el.size : Nat) 0, .int (ep : Nat) 0] }) h.objs.size a first 0 el.size ep := fun h first => ⟨_, Heap.get?_push_size _ rfl, rfl, rfl⟩
  have keepA : ∀ {h : Heap} {o : Obj}, h.get? a = some u → SAt (h.push o) a el ep tb := fun e => ⟨u, Heap.get?_push_of_some _ e, u2, u3⟩
  cases hf : w.params.followText "set-order" with
  | true =>
    rw [if_neg (by show ¬ ((!w.params.followText "set-order" && _) = true); rw [hf]; simp)]
    refine wpAny_bind (wpAny_pure (mk s (rawInt 0) u1 fun I h' eI eh => ?_))
    subst eI eh
    refine fin _ _ _ _ (pickOrder (w.params.setOrder a ep) el).toList rfl (fun c o e => Heap.get?_push_of_some _ e) (Nat.le_refl _) (fun c hc => ?_) (fun A' hA => walks_imp (walks_T hA (Nat.ne_of_lt alt) hf fs) fun i v ⟨c, e, q⟩ => ⟨c, by rw [Array.getElem?_toList]; exact e, q⟩) ⟨Nat.zero_le _, itat _ _, keepA u1⟩ (pick_perm _ _)
    simp only [List.mem_cons, List.not_mem_nil, or_false] at hc
    rcases hc with rfl | rfl
    · exact .inr (Nat.le_refl _)
    · exact .inl rfl
  | false =>
    cases hd : (!tb.plain && decide (el.size > 1)) with
    | false =>
      rw [if_neg (by show ¬ ((!w.params.followText "set-order" && (!tb.plain && decide (el.size > 1))) = true); rw [hd]; simp)]
      refine wpAny_bind (wpAny_pure (mk s (rawInt 0) u1 fun I h' eI eh => ?_))
      subst eI eh
      have tk1 : TOk true tb := by rw [show ledB w = true by unfold ledB; rw [hf]; rfl] at tk; exact tk
      refine fin _ _ _ _ el.toList rfl (fun c o e => Heap.get?_push_of_some _ e) (Nat.le_refl _) (fun c hc => ?_) (fun A' hA => walks_imp (walks_B hA (Nat.ne_of_lt alt) hf fs tk1 hd) fun i v ⟨c, e, q⟩ => ⟨c, by rw [Array.getElem?_toList]; exact e, q⟩) ⟨Nat.zero_le _, itat _ _, keepA u1⟩ (.refl _)
      simp only [List.mem_cons, List.not_mem_nil, or_false] at hc
      rcases hc with rfl | rfl
      · exact .inr (Nat.le_refl _)
      · exact .inl rfl
    | true =>
      rw [if_pos (by show (!w.params.followText "set-order" && (!tb.plain && decide (el.size > 1))) = true; rw [hd, hf]; rfl)]
      refine wpAny_bind (draw_x el.size (List.range el.size) s (by simp) fun os d hos => ?_)
      have hol : os.length = el.size := by rw [hos.length_eq, List.length_range]
      refine wpAny_bind (wpAny_newTuple ?_ (by rw [List.length_map, hol]; exact fits_of_scanBound hz))
      refine mk _ (.ref s.heap.objs.size) (Heap.get?_push_of_some _ u1) fun I h' eI eh => ?_
      subst eI eh
      have mp : (os.map fun j => el.getD j (0, .none)).Perm el.toList := by
        have e : (List.range el.size).map (fun j => el.getD j (0, .none)) = el.toList := by
          refine List.ext_getElem (by simp) fun k h1 h2 => ?_
          have hk : k < el.size := by simpa using h1
          simp [Array.getD, hk]
        rw [← e]
        exact hos.map _
      refine fin _ _ _ _ (os.map fun j => el.getD j (0, .none)) rfl (fun c o e => Heap.get?_push_of_some _ (Heap.get?_push_of_some _ e)) (by rw [Heap.size_push]; exact Nat.le_succ _) (fun c hc => ?_) (fun A' hA => walks_imp (walks_D (tp := s.heap.objs.size) (os := os) hA ?_ ?_ fs hos) fun i v ⟨j, c, e1, e2, q⟩ => ⟨c, ?_, q⟩) ⟨itat _ _, keepA (Heap.get?_push_of_some _ u1), ⟨_, _, Heap.get?_push_of_some _ (Heap.get?_push_size _ rfl), rfl⟩⟩ mp
      · simp only [List.mem_cons, List.not_mem_nil, or_false] at hc
        rcases hc with rfl | rfl | rfl
        · exact .inr (by rw [Heap.size_push]; exact Nat.le_succ _)
        · exact .inl rfl
        · exact .inr (Nat.le_refl _)
      · rw [Heap.size_push]; exact Nat.ne_of_lt (Nat.lt_succ_of_lt alt)
      · rw [Heap.size_push]; exact Nat.ne_of_lt (Nat.lt_succ_self _)
      · rw [List.getElem?_map, e1]
        have hj := (Array.getElem?_eq_some_iff.mp e2).1
        rw [Array.getElem?_eq_getElem hj] at e2
        simp [Array.getD, hj, Option.some.inj e2]
end
end Hb

set_option Elab.async false
set_option linter.all false
set_option maxRecDepth 100000
set_option maxHeartbeats 4000000
namespace Hb
open PySem PySem.Spec PyProof.Rows PySem.Calls
section
variable {P : Program} {w : World} {A : Around} {E : Value → Shared → Prop} {s : Shared} {a : Addr} {el : Array (Int × Value)} {ep : Nat} {tb : SetTable}
theorem hint_set {Q : Bool → Shared → Prop} (ty : s.TypeIs (.ref a) "set") (fin : Q false s) : wpAny (model P w) A (Builtin.List.listLengthHint (.ref a)) Q E s := by
  unfold Builtin.List.listLengthHint
  refine wpAny_bind (wpAny_specialOf ty len_set ?_)
  generalize ei : ("set.__len__" : String) = id1
  wp_delta
  rw [show splitId id1 = some ("set", "__len__") from by subst ei; decide +kernel]; subst ei
  refine wpAny_bind (wpAny_isInstance (T := "set") (b := true) ty (by rw [isSubtype_type]; kernel_rfl) (wpAny_ite_split (fun z => absurd z (by decide)) fun _ => ?_))
  refine wpAny_ite_split (fun _ => wpAny_bind (wpAny_typeOf ty (wpAny_pure fin))) (fun z => absurd (by decide +kernel) z)
theorem items_eq {cs : List (Int × Value)} {acc : Array Value} {n : Nat} (hn : cs.length = n) (h : ItemsOf (fun i v => ∃ c, cs[i]? = some c ∧ v = c.2) acc n) : acc.toList = cs.map (·.2) := by
  have hz : acc.toList.length = n := by rw [Array.length_toList]; exact h.1
  refine List.ext_getElem? fun j => ?_
  rw [List.getElem?_map]
  by_cases hj : j < n
  · obtain ⟨c, e, q⟩ := h.2 j acc.toList[j] (by rw [← Array.getElem?_toList]; exact List.getElem?_eq_getElem (by omega))
    rw [e, List.getElem?_eq_getElem (by omega), q]
    rfl
  · rw [List.getElem?_eq_none (by omega), List.getElem?_eq_none (by omega)]
    rfl
theorem extend_x {R : Result → Shared → Prop} (hh : A.handled = none) (sa : SAt s.heap a el ep tb) (fs : tb.fits el.size = true) (tk : TOk (ledB w) tb) (hz : el.size < scanBound) (S : Addr) (nS : S ≠ a) (res : Value) (c0 : Nat) (hS : s.heap.get? S = some { cls := .type "list", data := .seq #[] c0 })
    (fin : ∀ (s' : Shared) (acc : Array Value) (c : Nat) (cs : List (Int × Value)), s' = { s with heap := s'.heap, drawn := s'.drawn, toks := s'.toks } → (∀ b o, b ≠ S → s.heap.get? b = some o → s'.heap.get? b = some o) →
      s'.heap.get? S = some { cls := .type "list", dict := none, data := .seq acc c, slots := #[] } → cs.Perm el.toList → acc.toList = cs.map (·.2) → R (.ok (.ret res)) s') :
    wpAny (model P w) A.in1 (Builtin.List.listExtendWith (.ref S) (.ref a) res)
      (fun f s' => match f with | .done g => R (.ok g) s' | .again c' => c'.quiet = true ∧ codeAny (model P w) A c' R s') (fun e s' => R (.error e) s') s := by
  obtain ⟨u, u1, u2, u3⟩ := id sa
  have ty : s.TypeIs (.ref a) "set" := ⟨u, u1, u2.1⟩
  have n1 : Builtin.List.listSameRef (.ref S) (.ref a) = false := by simp [Builtin.List.listSameRef, nS]
  have n2 : (Value.type "set" == Value.type "list") = false := by decide
  have n3 : (Value.type "set" == Value.type "tuple") = false := by decide
  have ltS := Heap.lt_size hS
  unfold Builtin.List.listExtendWith
  refine wpAny_bind (wpAny_typeOf (T := "set") ty ?_)
  rw [n1, n2, n3]; simp only [Bool.or_false, Bool.false_eq_true, if_false]
  refine wpAny_bind (iter_x sa fs tk hz fun I s1 fp St cs es kp leI hfp W st pm => ?_)
  have hcs : cs.length = el.size := by rw [pm.length_eq, Array.length_toList]
  have nfp : S ∉ fp := fun z => by
    rcases hfp S z with e | e
    · exact nS e
    · exact Nat.lt_irrefl _ (Nat.lt_of_lt_of_le ltS e)
  have nI : S ≠ I := Nat.ne_of_lt (Nat.lt_of_lt_of_le ltS leI)
  have key : ∀ (h : Heap) (c1 : Nat), St 0 h → (∀ b o, b ≠ S → s.heap.get? b = some o → h.get? b = some o) → h.get? S = some { cls := .type "list", data := .seq #[] c1 } →
      codeAny (model P w) A (.builtin "list.extend.loop" ⟨[.ref S, .ref I, res], []⟩) R { s1 with heap := h } := fun h c1 st1 k1 e1 => by
    refine codeAny_extend_loopS ((W A.in1 hh).toS) (fits_of_scanBound hz) S nfp res el.size 0 _ #[] c1 rfl (Nat.zero_le _) st1 e1 (ItemsOf.nil _) fun s2 acc c2 mv e2 it => ?_
    have em := Moved.eq_with mv
    refine fin s2 acc c2 cs (by rw [em, es]) (fun b o hb e => mv.heap b o (fun z => ?_) (k1 b o hb e)) e2 pm (items_eq hcs it)
    rcases List.mem_cons.mp z with z | z
    · exact hb z
    · have := List.mem_singleton.mp z
      subst this
      exact Nat.lt_irrefl _ (Nat.lt_of_lt_of_le (Heap.lt_size e) leI)
  have hS1 := kp S _ hS
  refine wpAny_bind (wpAny_holding (hint_set ⟨u, kp a u u1, u2.1⟩ ?_))
  refine wpAny_ite_split (fun _ => wpAny_bind (wpAny_rule (wpAny_bind ?_))) (fun _ => wpAny_pure ⟨plainId_quiet PySem.F.plain_extend_loop _, key s1.heap c0 st (fun b o _ e => kp b o e) hS1⟩)
  show wpAny _ _ (updateSeq S (·.push .none) >>= fun _ => updateSeq S (·.pop)) _ _ _
  have hS2 := Heap.get?_update_self (Obj.mapSeq (·.push Value.none)) hS1 rfl
  have hS3 := Heap.get?_update_self (Obj.mapSeq (·.pop)) hS2 rfl
  refine wpAny_bind (wpAny_updateSeq hS1 rfl (wpAny_updateSeq (hz := by seq_fits) hS2 rfl (wpAny_pure ⟨plainId_quiet PySem.F.plain_extend_loop _, key _ _ ?_ (fun b o hb e => ?_) hS3⟩)))
  · refine (W A.in1 hh).frame 0 _ _ st fun b hb o e => ?_
    have nb : b ≠ S := fun z => nfp (z ▸ hb)
    rw [Heap.get?_update_other _ _ (Ne.symm nb), Heap.get?_update_other _ _ (Ne.symm nb)]
    exact e
  · rw [Heap.get?_update_other _ _ (Ne.symm hb), Heap.get?_update_other _ _ (Ne.symm hb)]
    exact kp b o e
end
end Hb

set_option Elab.async false
set_option linter.all false
set_option maxRecDepth 100000
set_option maxHeartbeats 4000000
namespace Hb
open PySem PySem.Spec PyProof.Rows PySem.Calls PySem.W
section
variable {P : Program} {w : World} {A : Around} {E : Value → Shared → Prop} {s : Shared} {a : Addr} {el : Array (Int × Value)} {ep : Nat} {tb : SetTable}
theorem elems_ints {l : List (Int × Value)} (h : ElemsOf (intKind P w) l) : ∃ ks : List Int, IntsAre (l.map (·.2)) ks ∧ ∀ i, (∃ c ∈ l, (intKind P w).is i c.2 = true) ↔ i ∈ ks := by
  induction l with
  | nil => exact ⟨[], .nil, fun i => by simp⟩
  | cons c l ih =>
    obtain ⟨ks, h1, h2⟩ := ih h.tail
    obtain ⟨⟨k, hk, _⟩, _⟩ := h.head
    obtain ⟨t, et⟩ : ∃ t, c.2 = .int k t := by
      have : (intKind P w).is k c.2 = true := hk
      cases e : c.2 with
      | int m t =>
        rw [e] at this
        have : k = m := by
          have := this
          simp [PySem.intKind, Value.isInt] at this
          omega
        exact ⟨t, by rw [this]⟩
      | _ => rw [e] at this; simp [PySem.intKind, Value.isInt] at this
    refine ⟨k :: ks, by rw [List.map_cons, et]; exact .cons _ _ h1, fun i => ?_⟩
    constructor
    · rintro ⟨d, hd, q⟩
      rcases List.mem_cons.mp hd with rfl | hd
      · have := (intKind P w).inj _ i k q hk
        rw [this]; simp
      · exact List.mem_cons_of_mem _ ((h2 i).mp ⟨d, hd, q⟩)
    · intro hi
      rcases List.mem_cons.mp hi with rfl | hi
      · exact ⟨c, by simp, hk⟩
      · obtain ⟨d, hd, q⟩ := (h2 i).mpr hi
        exact ⟨d, List.mem_cons_of_mem _ hd, q⟩
theorem cover_perm : ∀ {F ks : List Int}, F.Nodup → (∀ x ∈ F, x ∈ ks) → ks.length = F.length → ks.Perm F
  | [], ks, _, _, h => by
    have : ks = [] := List.length_eq_zero_iff.mp h
    rw [this]
  | x :: F, ks, nd, sub, h => by
    obtain ⟨n1, n2⟩ := List.nodup_cons.mp nd
    have hx := sub x (by simp)
    have pe := List.perm_cons_erase hx
    have le := pe.length_eq
    rw [List.length_cons] at le h
    refine pe.trans (.cons x (cover_perm n2 (fun y hy => ?_) (by omega)))
    have hy2 := pe.mem_iff.mp (sub y (by simp [hy]))
    rcases List.mem_cons.mp hy2 with e | e
    · exact absurd (e ▸ hy) n1
    · exact e
end
end Hb

set_option Elab.async false
set_option linter.all false
set_option maxRecDepth 100000
set_option maxHeartbeats 4000000
namespace Hb
open PySem PySem.Spec PyProof.Rows L2
section
variable {X : Cx}
/-- sorted(set(e)), e a list of whole numbers -/
def tSSet (K : PySem.W.Frag) (ta : TA) : TE := fun σ H Q => ta σ H fun vs H1 => ∃ (a : Addr) (ns : List Int), vs = [.ref a] ∧ SqL K H1 a (ns.map V.int) ∧ ns.length < 4000 ∧
  ∀ (ms : List Int) (p : Addr), ms.Pairwise (· < ·) → (∀ k, k ∈ ms ↔ k ∈ ns) → H1 p = none → Q (.ref p) (upd H1 p (.lst (ms.map V.int)))
end
end Hb

set_option Elab.async false
set_option linter.all false
set_option maxRecDepth 100000
set_option maxHeartbeats 4000000
namespace Hb
open PySem PySem.Spec PyProof.Rows L2
section
variable {X : Cx}
/-- isinstance(x, (list, tuple)) and the like -/
def rIsiB (K : PySem.W.Frag) : List V → Hp → VK → Prop := fun xs H Q => ∃ (x : V) (t : Value) (tp : Addr) (ts : List String) (b : Bool), xs = [x, .ref tp] ∧ H tp = some (.tup (ts.map V.ty)) ∧ TyOf K H x t ∧ (∀ C, t ≠ .ref C) ∧ PySem.W.kitAny K t (ts.map Value.type) = some b ∧ Q (.bl b) H
theorem vals_tys : ∀ {ts : List String} {us : List Value}, Vals (ts.map V.ty) us → us = ts.map Value.type
  | [], _, .nil => rfl
  | d :: ts, _, .cons r t => by
    have e : _ = Value.type d := r
    rw [e, vals_tys t]; rfl
theorem call_isiB : CallR X (.builtin "isinstance") (rIsiB X.K) := by
  intro pins s σ H xs us Q I r h
  obtain ⟨x, t, tp, ts, b, rfl, ht, ty, nc, e, q⟩ := h
  cases r with
  | @cons _ u _ _ rx rr =>
    cases rr with
    | cons rn r0 =>
      cases r0
      cases rn
      obtain ⟨_, its, rv, o2, h3, hc2, n, hd2⟩ := (show ObjOk X.prog X.w H s.heap tp (.tup (ts.map V.ty)) from I.hok tp _ ht)
      have hi := vals_tys rv
      subst hi
      obtain ⟨oc, od, oda, osl⟩ := o2
      dsimp only at hc2 hd2
      subst hc2 hd2
      have fin : ∀ tk, EP X pins σ Q (.bool b) { s with toks := tk } := fun tk => ⟨.bl b, H, I.tok _, rfl, q⟩
      cases ty with
      | non => cases (show u = Value.none from rx); exact PySem.W.kia_tup PySem.W.kitx_none I.kIn True.intro h3 e (fun z => nomatch z) fin
      | bl y => cases (show u = Value.bool y from rx); exact PySem.W.kia_tup PySem.W.kitx_bool I.kIn True.intro h3 e (fun z => nomatch z) fin
      | int i => obtain ⟨t, q⟩ := (show ∃ t, u = Value.int i t from rx); cases q; exact PySem.W.kia_tup PySem.W.kitx_int I.kIn True.intro h3 e (fun z => nomatch z) fin
      | str y => obtain ⟨t, q⟩ := (show ∃ t, u = Value.str y t from rx); cases q; exact PySem.W.kia_tup PySem.W.kitx_str I.kIn True.intro h3 e (fun z => nomatch z) fin
      | flt y => obtain ⟨t, q⟩ := (show ∃ t, u = Value.float y t from rx); cases q; exact PySem.W.kia_tup PySem.W.kitx_float I.kIn True.intro h3 e (fun z => nomatch z) fin
      | @lst a xs ea =>
        cases (show u = Value.ref a from rx)
        obtain ⟨_, _, n, _, h1⟩ := (show ObjOk X.prog X.w H s.heap a (.lst xs) from I.hok a _ ea)
        exact PySem.W.kia_tup PySem.W.kitx_list I.kIn ⟨_, h1, rfl⟩ h3 e (fun z => nomatch z) fin
      | @frz a ob xs ea =>
        cases (show u = Value.ref a from rx)
        obtain ⟨_, _, _, n, _, h1⟩ := (show ObjOk X.prog X.w H s.heap a (.frz ob (.lst xs)) from I.hok a _ ea)
        exact PySem.W.kia_tup PySem.W.kitx_list I.kIn ⟨_, h1, rfl⟩ h3 e (fun z => nomatch z) fin
      | @tup a xs ea =>
        cases (show u = Value.ref a from rx)
        obtain ⟨_, _, _, p⟩ := (show ObjOk X.prog X.w H s.heap a (.tup xs) from I.hok a _ ea)
        obtain ⟨o, h1, h2, _⟩ := p
        exact PySem.W.kia_tup PySem.W.kitx_tuple I.kIn ⟨o, h1, h2⟩ h3 e (fun z => nomatch z) fin
      | @dK a kvs ea =>
        cases (show u = Value.ref a from rx)
        obtain ⟨_, _, vs, _, p⟩ := (show ObjOk X.prog X.w H s.heap a (.dK kvs) from I.hok a _ ea)
        obtain ⟨o, es, ep, h1, h2, _⟩ := p
        exact PySem.W.kia_tup PySem.W.kitx_dict I.kIn ⟨o, h1, h2.1⟩ h3 e (fun z => nomatch z) fin
      | @dT a kvs ea =>
        cases (show u = Value.ref a from rx)
        obtain ⟨_, _, vs, _, p⟩ := (show ObjOk X.prog X.w H s.heap a (.dT kvs) from I.hok a _ ea)
        obtain ⟨o, es, ep, h1, h2, _⟩ := p
        exact PySem.W.kia_tup PySem.W.kitx_dict I.kIn ⟨o, h1, h2.1⟩ h3 e (fun z => nomatch z) fin
      | ins => exact absurd rfl (nc _)
end
section
variable {H : Hp} {Q : VK} {K : PySem.W.Frag} {a b tp : Addr} {xs ys vs : List V} {σ : L2.St} {ta : TA}
theorem kt2_int_lt : PySem.W.kitAny K (.type "int") [.type "list", .type "tuple"] = some false := by first | rfl | decide +kernel
theorem kt2_list_lt : PySem.W.kitAny K (.type "list") [.type "list", .type "tuple"] = some true := by first | rfl | decide +kernel
theorem kt2_tuple_lt : PySem.W.kitAny K (.type "tuple") [.type "list", .type "tuple"] = some true := by first | rfl | decide +kernel
theorem r_isiBI {i : Int} (ht : H tp = some (.tup [.ty "list", .ty "tuple"])) (k : Q (.bl false) H) : rIsiB K [.int i, .ref tp] H Q := ⟨_, _, tp, ["list", "tuple"], _, rfl, ht, .int i, fun C z => (by cases z), kt2_int_lt, k⟩
theorem r_isiBL (ha : H a = some (.lst xs)) (ht : H tp = some (.tup [.ty "list", .ty "tuple"])) (k : Q (.bl true) H) : rIsiB K [.ref a, .ref tp] H Q := ⟨_, _, tp, ["list", "tuple"], _, rfl, ht, .lst ha, fun C z => (by cases z), kt2_list_lt, k⟩
theorem r_isiBT (ha : H a = some (.tup xs)) (ht : H tp = some (.tup [.ty "list", .ty "tuple"])) (k : Q (.bl true) H) : rIsiB K [.ref a, .ref tp] H Q := ⟨_, _, tp, ["list", "tuple"], _, rfl, ht, .tup ha, fun C z => (by cases z), kt2_tuple_lt, k⟩
end
section
variable {g : TG} {D : Ends} {σ : L2.St} {H : Hp} {Q : VK} {te : TE} {tt : TT} {K : PySem.W.Frag} {a b : Addr} {xs ys : List V} {vs : List Nat} {σw : L2.St}
theorem r_izip {ta : TA} {R : It → Hp → Prop} (h : ta σ H fun vs H1 => ∃ a b xs ys, vs = [.ref a, .ref b] ∧ SqL K H1 a xs ∧ SqL K H1 b ys ∧ R (Itz K a b) H1) : iZip K ta σ H R := h
/-- [e for x, y in zip(xs, ys) if c], lists of one length -/
theorem c_zip {Qd : Addr → Hp → Prop} (hx : SqL K H a xs) (hy : SqL K H b ys) (hxy : xs.length = ys.length) (hw : wipe σ vs = σw) (Pv : Addr → Nat → Hp → Prop) (h0 : ∀ D H', H D = none → H' = upd H D (.lst []) → Pv D 0 H')
    (hl : ∀ D i H', H D = none → i ≤ xs.length → Pv D i H' → SqL K H' a xs ∧ SqL K H' b ys)
    (hs : ∀ (D : Addr) (i : Nat) x y H' T H2, H D = none → xs[i]? = some x → ys[i]? = some y → Pv D i H' → H' T = none → H2 = upd H' T (.tup [x, y]) → g (.ref T) σw H2 fun σ2 H3 => wipe σ2 vs = σw ∧ tt σ2 H3 fun b H4 =>
      if b = true then te σ2 H4 fun y H5 => ∃ acc, H5 D = some (.lst acc) ∧ acc.length < sizeLine ∧ Pv D (i + 1) (upd H5 D (.lst (acc ++ [y]))) else Pv D (i + 1) H4)
    (hd : ∀ D H', H D = none → Pv D xs.length H' → Qd D H') :
    ∃ a2 b2 xs2 ys2, [V.ref a, V.ref b] = [V.ref a2, V.ref b2] ∧ SqL K H a2 xs2 ∧ SqL K H b2 ys2 ∧ ∀ D, H D = none → ∃ W : Nat → Nat → Hp → Prop, (∃ m, W 0 m (upd H D (.lst []))) ∧ ∀ i m H, W i m H →
      ((Itz K a2 b2).stop i H ∧ Qd D H) ∨ ((Itz K a2 b2).go i H ∧ ∃ Nx : Hp → Prop, (∀ H', Nx H' → ∃ m', m' < m ∧ W (i + 1) m' H') ∧ ∀ x H', (Itz K a2 b2).yld i H x H' → g x (wipe σ vs) H' fun σ2 H2 => wipe σ2 vs = wipe σ vs ∧ tt σ2 H2 fun b H3 =>
        if b = true then te σ2 H3 fun y H4 => ∃ acc, H4 D = some (.lst acc) ∧ acc.length < sizeLine ∧ Nx (upd H4 D (.lst (acc ++ [y]))) else Nx H3) := by
  subst hw
  refine ⟨a, b, xs, ys, rfl, hx, hy, fun D hD => ⟨fun i m H' => m = xs.length - i ∧ i ≤ xs.length ∧ Pv D i H', ⟨xs.length, by simp, Nat.zero_le _, h0 D _ hD rfl⟩, ?_⟩⟩
  rintro i m H1 ⟨rfl, hi, p⟩
  obtain ⟨q1, q2⟩ := hl D i H1 hD hi p
  by_cases hlt : i < xs.length
  · refine .inr ⟨⟨xs, ys, xs[i], ys[i]'(by omega), q1, q2, by simp [hlt], by simp [(by omega : i < ys.length)]⟩, Pv D (i + 1), fun H' p' => ⟨xs.length - (i + 1), by omega, rfl, hlt, p'⟩, fun x H' y => ?_⟩
    obtain ⟨T, x', y', rfl, hT, e, e1, e2⟩ := y
    exact hs D i x' y' H1 T H' hD (e1 xs q1) (e2 ys q2) p hT e
  · have e : i = xs.length := by omega
    subst e
    exact .inl ⟨⟨xs, ys, q1, q2, .inl (Nat.le_refl _)⟩, hd D H1 hD p⟩
end
end Hb

set_option Elab.async false
set_option linter.all false
set_option maxRecDepth 100000
set_option maxHeartbeats 4000000
namespace Hb
open PySem PySem.Spec PyProof.Rows L2
/-! ### zip of two sources of any kind: each by what its next one does -/
/-- the next one of an iterator: the value v, from the state S to S' -/
def Nx (pr : Program) (wd : World) (Ar : Around) (it : Addr) (v : Value) (S S' : Heap → Prop) : Prop :=
  ∀ (sh : Shared) (R Er : Value → Shared → Prop), S sh.heap → (∀ g, S' g → Heap.SameBut it sh.heap g → R v { sh with heap := g }) → wpAny (model pr wd) Ar (Builtin.SmallTypes.nextOf (.ref it)) R Er sh
/-- an iterator at its end -/
def Ne (pr : Program) (wd : World) (Ar : Around) (it : Addr) (S : Heap → Prop) : Prop :=
  ∀ (sh : Shared) (R Er : Value → Shared → Prop), S sh.heap → (∀ g x, Heap.ExtBut it sh.heap g → (∃ o, g.get? x = some o ∧ o.cls = .type "StopIteration") → Er (.ref x) { sh with heap := g }) → wpAny (model pr wd) Ar (Builtin.SmallTypes.nextOf (.ref it)) R Er sh
/-- a state that only looks at some objects -/
def Stays (fp : List Addr) (S : Heap → Prop) : Prop := ∀ g g', S g → (∀ b ∈ fp, ∀ o, g.get? b = some o → g'.get? b = some o) → S g'
section
variable {pr : Program} {wd : World} {Ar : Around} {Er : Value → Shared → Prop} {sh : Shared}
theorem nx_tup {it tp : Addr} {j : Nat} {its : Array Value} {v : Value} (ne : tp ≠ it) (hv : its[j]? = some v) : Nx pr wd Ar it v (fun g => g.IsTupleIter it tp j ∧ g.IsTuple tp its) (fun g => g.IsTupleIter it tp (j + 1) ∧ g.IsTuple tp its) := by
  intro sh R Er hS k
  obtain ⟨hi, ht⟩ := hS
  have ht0 := ht
  obtain ⟨ob, hob, cob, dob⟩ := id hi
  obtain ⟨ot, hot, _, m, dot⟩ := ht
  unfold Builtin.SmallTypes.nextOf
  refine wpAny_bind (wpAny_callSpecial?_slot (name := Str.ofString "__next__") hi.typeIs F.slot_tuple_iterator_next (wpAny_call_entry F.slot_tuple_iterator_next hi.typeIs F.entry_tuple_iterator_next ?_ (F.args_tuple_iterator_next_1 _)))
  show wpAny _ _ (field (.ref it) 0 >>= _) _ _ sh
  refine wpAny_bind (wpAny_field hob dob (x := .ref tp) rfl ?_)
  show wpAny _ _ (if (Value.ref tp == Value.none) = true then _ else _) _ _ sh
  rw [if_neg (show ¬ ((Value.ref tp == Value.none) = true) from Bool.false_ne_true)]
  show wpAny _ _ (field (.ref it) 1 >>= _) _ _ sh
  refine wpAny_bind (wpAny_field hob dob (x := .int j 0) rfl ?_)
  show wpAny _ _ (seqItems? (.ref tp) >>= _) _ _ sh
  refine wpAny_bind (wpAny_seqItems hot dot ?_)
  simp only [Int.toNat_natCast, hv]
  refine wpAny_bind (wpAny_setField hob dob (by simp) (wpAny_pure ⟨v, rfl, wpAny_pure (k _ ⟨?_, ht0.extBut (Heap.SameBut.update ..).extBut ne⟩ (Heap.SameBut.update ..))⟩))
  exact ⟨_, Heap.get?_update_self _ hob (Obj.isFreed_of_fields (Obj.data_mapFields dob _)), (Obj.cls_mapFields ..).trans cob, by rw [Obj.data_mapFields dob]; simp [rawInt]⟩
theorem ne_tup {it tp : Addr} {j : Nat} {its : Array Value} (hh : Ar.handled = none) (hv : its[j]? = none) : Ne pr wd Ar it (fun g => g.IsTupleIter it tp j ∧ g.IsTuple tp its) := by
  intro sh R Er hS k
  obtain ⟨hi, ht⟩ := hS
  obtain ⟨ob, hob, cob, dob⟩ := id hi
  obtain ⟨ot, hot, _, m, dot⟩ := ht
  unfold Builtin.SmallTypes.nextOf
  refine wpAny_bind (wpAny_callSpecial?_slot (name := Str.ofString "__next__") hi.typeIs F.slot_tuple_iterator_next (wpAny_call_entry F.slot_tuple_iterator_next hi.typeIs F.entry_tuple_iterator_next ?_ (F.args_tuple_iterator_next_1 _)))
  show wpAny _ _ (field (.ref it) 0 >>= _) _ _ sh
  refine wpAny_bind (wpAny_field hob dob (x := .ref tp) rfl ?_)
  show wpAny _ _ (if (Value.ref tp == Value.none) = true then _ else _) _ _ sh
  rw [if_neg (show ¬ ((Value.ref tp == Value.none) = true) from Bool.false_ne_true)]
  show wpAny _ _ (field (.ref it) 1 >>= _) _ _ sh
  refine wpAny_bind (wpAny_field hob dob (x := .int j 0) rfl ?_)
  show wpAny _ _ (seqItems? (.ref tp) >>= _) _ _ sh
  refine wpAny_bind (wpAny_seqItems hot dot ?_)
  simp only [Int.toNat_natCast, hv]
  refine wpAny_bind (wpAny_rule (wpAny_bind (wpAny_setField hob dob (by simp) ?_)))
  refine wpAny_bind (show wpAny _ _ (newExc (.type "StopIteration") []) _ _ _ from ?_)
  simp only [newExc, newTuple]
  refine wpAny_bind (wpAny_newObj_type ?_ (by size_fits))
  refine wpAny_bind (m := firstArgMember _ _) (wpAny_of_eq (a := Value.none) (by first | (simp only [firstArgMember]; rfl) | rfl) ?_)
  refine wpAny_newObj_type ?_ (by size_fits)
  simp only [raiseNew]
  refine wpAny_bind (wpAny_handled ?_)
  first | rw [hh] | rw [show Ar.in1.handled = none from hh]
  exact wpAny_bind (wpAny_pure (wpAny_throw (k _ _ (((Heap.SameBut.update ..).extBut.push _).push _) ⟨_, Heap.get?_push_size _ rfl, rfl⟩)))
theorem stays_tup {it tp : Addr} {j : Nat} {its : Array Value} : Stays [it, tp] (fun g => g.IsTupleIter it tp j ∧ g.IsTuple tp its) := fun g g' ⟨⟨o, h, r⟩, ⟨o2, h2, r2⟩⟩ k => ⟨⟨o, k it (by simp) o h, r⟩, ⟨o2, k tp (by simp) o2 h2, r2⟩⟩
/-- what stands apart from what the zip writes -/
structure Apt (z TO me : Addr) (fp : List Addr) : Prop where
  nz : z ∉ fp
  nT : TO ∉ fp
  mine : me ∈ fp
theorem zipG_next {z TI TO i1 i2 : Addr} {f1 f2 : List Addr} {x y a b : Value} {S1 S1' S2 S2' : Heap → Prop} {R : Value → Shared → Prop} (n1 : Nx pr wd Ar i1 x S1 S1') (n2 : Nx pr wd Ar i2 y S2 S2') (s1 : Stays f1 S1) (s1' : Stays f1 S1') (s2 : Stays f2 S2) (s2' : Stays f2 S2')
    (a1 : Apt z TO i1 f1) (a2 : Apt z TO i2 f2) (p1 : i1 ∉ f2) (p2 : i2 ∉ f1) (nTI : TI ≠ z) (nTO : TO ≠ z) (nTT : TI ≠ TO)
    (hz : IsZip sh.heap z TI TO .none) (hTI : IsPair sh.heap TI (.ref i1) (.ref i2)) (hTO : IsPair sh.heap TO a b) (h1 : S1 sh.heap) (h2 : S2 sh.heap)
    (k : ∀ g, IsZip g z TI TO (rawInt sh.heap.objs.size) → IsPair g TO x y → S1' g → S2' g → IsPair g sh.heap.objs.size x y → (∀ c o, c ≠ z → c ≠ TO → c ≠ i1 → c ≠ i2 → sh.heap.get? c = some o → g.get? c = some o) → R (.ref sh.heap.objs.size) { sh with heap := g }) :
    wpAny (model pr wd) Ar (Builtin.«zip.__next__» ⟨[.ref z], []⟩) (fun fin s' => ∃ v, fin = .done (.ret v) ∧ R v s') Er sh := by
  have i1z : i1 ≠ z := fun e => a1.nz (e ▸ a1.mine)
  have i2z : i2 ≠ z := fun e => a2.nz (e ▸ a2.mine)
  have TOi1 : TO ≠ i1 := fun e => a1.nT (e ▸ a1.mine)
  have TOi2 : TO ≠ i2 := fun e => a2.nT (e ▸ a2.mine)
  show wpAny _ _ (field (.ref z) 2 >>= _) _ _ sh
  refine wpAny_bind (wpAny_field hz rfl (x := .bool false) rfl ?_)
  show wpAny _ _ (field (.ref z) 3 >>= _) _ _ sh
  refine wpAny_bind (wpAny_field hz rfl (x := .ref TI) rfl (wpAny_bind (wpAny_seqItems hTI rfl ?_)))
  show wpAny _ _ (Builtin.SmallTypes.ownedTupleIsFree (.ref z) >>= _) _ _ sh
  refine wpAny_bind ?_
  unfold Builtin.SmallTypes.ownedTupleIsFree
  refine wpAny_bind (wpAny_field hz rfl (x := .none) rfl (wpAny_pure ?_))
  simp only [if_true]
  refine wpAny_bind (wpAny_rule (wpAny_bind (wpAny_field hz rfl (x := .ref TO) rfl (wpAny_bind (wpAny_setField_rec hz (by simp) fun g1 hz1 b1 => ?_)))))
  replace hz1 : IsZip g1 z TI TO .ellipsis := hz1
  have k1 : ∀ c o, c ≠ z → sh.heap.get? c = some o → g1.get? c = some o := fun c o e h => b1.extBut _ _ e h
  refine wpAny_bind ?_
  simp only [List.zipIdx_cons, List.zipIdx_nil, List.forIn_cons, List.forIn_nil]
  refine wpAny_bind (wpAny_bind (wpAny_onRaise ?_))
  show wpAny _ _ (Builtin.SmallTypes.nextOf (.ref i1) >>= _) _ _ _
  refine wpAny_bind (n1 _ _ _ (s1 _ _ h1 fun b m o h => k1 b o (fun e => a1.nz (e ▸ m)) h) fun g2 h12 b2 => wpAny_pure ?_)
  replace b2 : Heap.SameBut i1 g1 g2 := b2
  have k2 : ∀ c o, c ≠ z → c ≠ i1 → sh.heap.get? c = some o → g2.get? c = some o := fun c o e e' h => b2.extBut _ _ e' (k1 c o e h)
  have hTO2 : IsPair g2 TO a b := k2 _ _ nTO TOi1 hTO
  refine wpAny_bind (wpAny_seqItems hTO2 rfl (wpAny_bind (wpAny_updateSeq_pair hTO2 fun g3 hTO3 b3 => ?_)))
  replace hTO3 : IsPair g3 TO x b := hTO3
  replace b3 : Heap.SameBut TO g2 g3 := b3
  have k3 : ∀ c o, c ≠ z → c ≠ TO → c ≠ i1 → sh.heap.get? c = some o → g3.get? c = some o := fun c o e e2 e3 h => b3.extBut _ _ e2 (k2 c o e e3 h)
  refine wpAny_bind (wpAny_letGo (wpAny_pure ?_))
  refine wpAny_bind (wpAny_bind (wpAny_onRaise ?_))
  show wpAny _ _ (Builtin.SmallTypes.nextOf (.ref i2) >>= _) _ _ _
  refine wpAny_bind (n2 _ _ _ (s2 _ _ h2 fun b m o h => k3 b o (fun e => a2.nz (e ▸ m)) (fun e => a2.nT (e ▸ m)) (fun e => p1 (e ▸ m)) h) fun g4 h24 b4 => wpAny_pure ?_)
  replace b4 : Heap.SameBut i2 g3 g4 := b4
  have hTO4 : IsPair g4 TO x b := b4.extBut _ _ TOi2 hTO3
  refine wpAny_bind (wpAny_seqItems hTO4 rfl (wpAny_bind (wpAny_updateSeq_pair hTO4 fun g5 hTO5 b5 => ?_)))
  replace hTO5 : IsPair g5 TO x y := hTO5
  replace b5 : Heap.SameBut TO g4 g5 := b5
  refine wpAny_bind (wpAny_letGo (wpAny_pure (wpAny_pure ?_)))
  refine wpAny_bind (wpAny_seqItems hTO5 rfl (wpAny_bind (wpAny_newTuple ?_)))
  have sz : g5.objs.size = sh.heap.objs.size := by rw [b5.1, b4.1, b3.1, b2.1, b1.1]
  have k5 : ∀ c o, c ≠ z → c ≠ TO → c ≠ i1 → c ≠ i2 → sh.heap.get? c = some o → g5.get? c = some o := fun c o e e2 e3 e4 h => b5.extBut _ _ e2 (b4.extBut _ _ e4 (k3 c o e e2 e3 h))
  have hz5 : IsZip g5 z TI TO .ellipsis := b5.extBut _ _ nTO.symm (b4.extBut _ _ i2z.symm (b3.extBut _ _ nTO.symm (b2.extBut _ _ i1z.symm hz1)))
  have h15 : S1' g5 := s1' _ _ h12 fun b m o h => b5.extBut _ _ (fun e => a1.nT (e ▸ m)) (b4.extBut _ _ (fun e => p2 (e ▸ m)) (b3.extBut _ _ (fun e => a1.nT (e ▸ m)) h))
  have h25 : S2' g5 := s2' _ _ h24 fun b m o h => b5.extBut _ _ (fun e => a2.nT (e ▸ m)) h
  have zl : z < g5.objs.size := Heap.lt_size hz5
  show wpAny _ _ (Builtin.SmallTypes.ownedTupleHandOut (.ref z) (.ref g5.objs.size) >>= _) _ _ _
  refine wpAny_bind ?_
  unfold Builtin.SmallTypes.ownedTupleHandOut
  have hz6 : IsZip (g5.push { cls := .type "tuple", data := .seq #[x, y] }) z TI TO .ellipsis := Heap.get?_push_of_some _ hz5
  refine wpAny_bind (wpAny_setField_rec hz6 (by simp) fun g7 hz7 b7 => ?_)
  replace hz7 : IsZip g7 z TI TO (rawInt g5.objs.size) := hz7
  refine wpAny_setField_rec hz7 (by simp) fun g8 hz8 b8 => ?_
  replace hz8 : IsZip g8 z TI TO (rawInt g5.objs.size) := hz8
  have k8 : ∀ c o, c ≠ z → g5.get? c = some o → g8.get? c = some o := fun c o e h => b8.extBut _ _ e (b7.extBut _ _ e (Heap.get?_push_of_some _ h))
  have hP : IsPair g8 g5.objs.size x y := b8.extBut _ _ (Nat.ne_of_gt zl) (b7.extBut _ _ (Nat.ne_of_gt zl) (Heap.get?_push_size _ rfl))
  rw [sz] at hz8 hP
  refine wpAny_pure ⟨_, rfl, ?_⟩
  show R (.ref g5.objs.size) _
  rw [sz]
  exact k g8 hz8 (k8 _ _ nTO hTO5) (s1' _ _ h15 fun b m o h => k8 b o (fun e => a1.nz (e ▸ m)) h) (s2' _ _ h25 fun b m o h => k8 b o (fun e => a2.nz (e ▸ m)) h) hP fun c o e e2 e3 e4 h => k8 c o e (k5 c o e e2 e3 e4 h)
theorem zipG_end1 {z TI TO i1 i2 : Addr} {f1 : List Addr} {a b : Value} {S1 : Heap → Prop} {R : Fin → Shared → Prop} (n1 : Ne pr wd Ar i1 S1) (s1 : Stays f1 S1) (a1 : Apt z TO i1 f1)
    (hz : IsZip sh.heap z TI TO .none) (hTI : IsPair sh.heap TI (.ref i1) (.ref i2)) (h1 : S1 sh.heap)
    (k : ∀ g x, (∀ c o, c ≠ z → c ≠ TO → c ≠ i1 → c ≠ i2 → sh.heap.get? c = some o → g.get? c = some o) → (∃ o, g.get? x = some o ∧ o.cls = .type "StopIteration") → Er (.ref x) { sh with heap := g }) :
    wpAny (model pr wd) Ar (Builtin.«zip.__next__» ⟨[.ref z], []⟩) R Er sh := by
  have i1z : i1 ≠ z := fun e => a1.nz (e ▸ a1.mine)
  show wpAny _ _ (field (.ref z) 2 >>= _) _ _ sh
  refine wpAny_bind (wpAny_field hz rfl (x := .bool false) rfl ?_)
  show wpAny _ _ (field (.ref z) 3 >>= _) _ _ sh
  refine wpAny_bind (wpAny_field hz rfl (x := .ref TI) rfl (wpAny_bind (wpAny_seqItems hTI rfl ?_)))
  show wpAny _ _ (Builtin.SmallTypes.ownedTupleIsFree (.ref z) >>= _) _ _ sh
  refine wpAny_bind ?_
  unfold Builtin.SmallTypes.ownedTupleIsFree
  refine wpAny_bind (wpAny_field hz rfl (x := .none) rfl (wpAny_pure ?_))
  simp only [if_true]
  refine wpAny_bind (wpAny_rule (wpAny_bind (wpAny_field hz rfl (x := .ref TO) rfl (wpAny_bind (wpAny_setField_rec hz (by simp) fun g1 hz1 b1 => ?_)))))
  replace hz1 : IsZip g1 z TI TO .ellipsis := hz1
  refine wpAny_bind ?_
  simp only [List.zipIdx_cons, List.zipIdx_nil, List.forIn_cons, List.forIn_nil]
  refine wpAny_bind (wpAny_bind (wpAny_onRaise ?_))
  show wpAny _ _ (Builtin.SmallTypes.nextOf (.ref i1) >>= _) _ _ _
  refine wpAny_bind (n1 _ _ _ (s1 _ _ h1 fun b m o h => b1.extBut _ _ (fun e => a1.nz (e ▸ m)) h) fun g2 x b2 hx => ?_)
  obtain ⟨ox, hox, cx⟩ := hx
  have hz2 : IsZip g2 z TI TO .ellipsis := b2 _ _ i1z.symm hz1
  have xz : x ≠ z := fun e => by subst e; rw [hz2] at hox; cases hox; simp at cx
  exact wpAny_setField_rec hz2 (by simp) fun g3 _ b3 => k g3 x (fun c o e _ e3 _ h => b3.extBut _ _ e (b2 _ _ e3 (b1.extBut _ _ e h))) ⟨ox, b3.extBut _ _ xz hox, cx⟩
end
end Hb

set_option Elab.async false
set_option linter.all false
set_option maxRecDepth 100000
set_option maxHeartbeats 4000000
namespace Hb
open PySem PySem.Spec PyProof.Rows L2
/-- the tuples at a and b, the items in new pairs -/
def ItzT (K : PySem.W.Frag) (a b : Addr) : It :=
  ⟨fun i H => ∃ (xs ys : List V) (x y : V), SqT K H a xs ∧ SqT K H b ys ∧ xs[i]? = some x ∧ ys[i]? = some y,
    fun i H v H' => ∃ T x y, v = .ref T ∧ H T = none ∧ H' = upd H T (.tup [x, y]) ∧ (∀ xs, SqT K H a xs → xs[i]? = some x) ∧ ∀ ys, SqT K H b ys → ys[i]? = some y,
    fun i H => ∃ xs ys : List V, SqT K H a xs ∧ SqT K H b ys ∧ xs.length ≤ i⟩
theorem lt_tup {h : Heap} {a : Addr} {its : Array Value} (p : h.IsTuple a its) : a < h.objs.size := by obtain ⟨o, e, _⟩ := p; exact Heap.lt_size e
theorem turn_zipT {P : Program} {w : World} {K : PySem.W.Frag} {elts : List Expr} {kk : Nat} {tpos : Pos} {a b z TI TO i1 i2 : Addr} (D : ZipApart z TI TO i1 i2 a b) :
    Turn P w K (.Tuple elts kk tpos) (ItzT K a b) [z, TI, TO, i1, i2] z (fun i h => IsZip h z TI TO .none ∧ IsPair h TI (.ref i1) (.ref i2) ∧ (∃ x y, IsPair h TO x y) ∧ h.IsTupleIter i1 a i ∧ h.IsTupleIter i2 b i) where
  mem := List.mem_cons_self ..
  obj := by
    rintro i h ⟨hz, hTI, ⟨x, y, hTO⟩, ⟨o1, e1, _, d1⟩, ⟨o2, e2, _, d2⟩⟩ c hc
    have e' : c = z ∨ c = TI ∨ c = TO ∨ c = i1 ∨ c = i2 := by simpa using hc
    rcases e' with rfl | rfl | rfl | rfl | rfl
    · exact ⟨_, hz, fun v q => nomatch q⟩
    · exact ⟨_, hTI, fun v q => nomatch q⟩
    · exact ⟨_, hTO, fun v q => nomatch q⟩
    · exact ⟨o1, e1, fun v q => by rw [d1] at q; cases q⟩
    · exact ⟨o2, e2, fun v q => by rw [d2] at q; cases q⟩
  keep := by
    rintro i h h' ⟨hz, hTI, ⟨x, y, hTO⟩, ⟨o1, e1, r1⟩, ⟨o2, e2, r2⟩⟩ k
    exact ⟨k z (by simp) _ hz, k TI (by simp) _ hTI, ⟨x, y, k TO (by simp) _ hTO⟩, ⟨o1, k i1 (by simp) _ e1, r1⟩, ⟨o2, k i2 (by simp) _ e2, r2⟩⟩
  item := by
    intro X hP hw hK hc i pins s σ H E I hf st hg
    subst hP hw hK
    obtain ⟨hz, hTI, ⟨x0, y0, hTO⟩, h1, h2⟩ := st
    obtain ⟨xs, ys, x, y, qx, qy, hx, hy⟩ := hg
    obtain ⟨t1, v1, p1, _⟩ := I.tuple qx
    obtain ⟨t2, v2, p2, _⟩ := I.tuple qy
    obtain ⟨u1, e1, r1⟩ := v1.get hx
    obtain ⟨u2, e2, r2⟩ := v2.get hy
    have p1 : s.heap.IsTuple a t1.toArray := p1
    have p2 : s.heap.IsTuple b t2.toArray := p2
    have zl : z < s.heap.objs.size := Heap.lt_size hz
    have T := (⟨_, hz, rfl⟩ : s.TypeIs (.ref z) "zip")
    have A1 : Apt z TO i1 [i1, a] := ⟨by simpa using ⟨D.i1z.symm, D.l1z.symm⟩, by simpa using ⟨D.TOi1, D.l1TO.symm⟩, by simp⟩
    have A2 : Apt z TO i2 [i2, b] := ⟨by simpa using ⟨D.i2z.symm, D.l2z.symm⟩, by simpa using ⟨D.TOi2, D.l2TO.symm⟩, by simp⟩
    unfold pyNext
    refine wpAny_bind (wpAny_attempt (wpAny_callSpecial?_slot (name := Str.ofString "__next__") T F.slot_zip_next (wpAny_call_entry F.slot_zip_next T F.entry_zip_next
      (zipG_next (f1 := [i1, a]) (f2 := [i2, b]) (nx_tup D.l1i1 (v := u1) (by simpa using e1)) (nx_tup D.l2i2 (v := u2) (by simpa using e2)) stays_tup stays_tup stays_tup stays_tup A1 A2 (by simpa using ⟨D.i12, D.l2i1.symm⟩) (by simpa using ⟨D.i12.symm, D.l1i2.symm⟩)
        D.TIz D.TOz D.TITO hz hTI hTO ⟨h1, p1⟩ ⟨h2, p2⟩ fun g z' TO' h1' h2' hT hk => wpAny_pure ?_) (F.args_zip_next_1 _))))
    refine ⟨_, rfl, wpAny_letOwnedTupleGo_zip (s := { s with heap := g }) z' fun g2 z'' sb => ?_⟩
    have hT2 : g2.get? s.heap.objs.size = some { cls := .type "tuple", data := .seq #[u1, u2] } := (sb.2 _ (Nat.ne_of_gt zl)).trans hT
    have nw : ObjOk X.prog X.w (upd H s.heap.objs.size (.tup [x, y])) g2 s.heap.objs.size (.tup [x, y]) := ⟨by show 2 ≤ sizeLine; decide, [u1, u2], .cons r1 (.cons r2 .nil), ⟨_, hT2, rfl, _, rfl⟩⟩
    have J : Inv X pins σ (upd H s.heap.objs.size (.tup [x, y])) { s with heap := g2 } :=
      I.turnedNew (t' := s.toks) (ch := [z, TI, TO, i1, i2]) (fun c o m q => (sb.2 c (fun e => m (by simp [e]))).trans (hk c o (fun e => m (by simp [e])) (fun e => m (by simp [e])) (fun e => m (by simp [e])) (fun e => m (by simp [e])) q)) hf (Nat.le_refl _) nw
    refine ⟨.ref s.heap.objs.size, _, J, rfl, ⟨_, x, y, rfl, I.hok.fresh (Nat.le_refl _), rfl, fun l hl => by rw [I.tuple_inj hl qx]; exact hx, fun l hl => by rw [I.tuple_inj hl qy]; exact hy⟩, ⟨z'', ?_, ⟨u1, u2, ?_⟩, ?_, ?_⟩, fun c m => ?_⟩
    · exact (sb.2 _ D.TIz).trans (hk _ _ D.TIz D.TITO D.TIi1 D.TIi2 hTI)
    · exact (sb.2 _ D.TOz).trans TO'
    · obtain ⟨o, q, r⟩ := h1'.1
      exact ⟨o, (sb.2 _ D.i1z).trans q, r⟩
    · obtain ⟨o, q, r⟩ := h2'.1
      exact ⟨o, (sb.2 _ D.i2z).trans q, r⟩
    · have hlt : c < s.heap.objs.size := by
        have e' : c = z ∨ c = TI ∨ c = TO ∨ c = i1 ∨ c = i2 := by simpa using m
        rcases e' with rfl | rfl | rfl | rfl | rfl
        · exact zl
        · exact Heap.lt_size hTI
        · exact Heap.lt_size hTO
        · obtain ⟨_, q, _⟩ := h1; exact Heap.lt_size q
        · obtain ⟨_, q, _⟩ := h2; exact Heap.lt_size q
      rw [upd_ne (Nat.ne_of_lt hlt)]
      exact (hf c m).1
  done := by
    intro X hP hw hK hc i pins s σ H E I hf st hg
    subst hP hw hK
    obtain ⟨hz, hTI, ⟨x0, y0, hTO⟩, h1, h2⟩ := st
    obtain ⟨xs, ys, qx, qy, hend⟩ := hg
    obtain ⟨t1, v1, p1, _⟩ := I.tuple qx
    have p1 : s.heap.IsTuple a t1.toArray := p1
    have l1 := v1.length
    have T := (⟨_, hz, rfl⟩ : s.TypeIs (.ref z) "zip")
    have A1 : Apt z TO i1 [i1, a] := ⟨by simpa using ⟨D.i1z.symm, D.l1z.symm⟩, by simpa using ⟨D.TOi1, D.l1TO.symm⟩, by simp⟩
    have hh := I.ok.hd hc
    unfold pyNext
    refine wpAny_bind (wpAny_attempt (wpAny_callSpecial?_slot (name := Str.ofString "__next__") T F.slot_zip_next (wpAny_call_entry F.slot_zip_next T F.entry_zip_next
      (zipG_end1 (a := x0) (b := y0) (f1 := [i1, a]) (ne_tup (its := t1.toArray) (j := i) hh (by simp; omega)) stays_tup A1 hz hTI ⟨h1, p1⟩ fun g e hk he => ?_) (F.args_zip_next_1 _))))
    obtain ⟨o, ho, co⟩ := he
    refine wpAny_bind (wpAny_isInstance (T := "StopIteration") (b := true) ⟨o, ho, co⟩ isSubtype_stop (wpAny_pure ⟨rfl, ?_⟩))
    exact I.turnedL (t' := s.toks) (ch := [z, TI, TO, i1, i2]) (fun c o m q => hk c o (fun e => m (by simp [e])) (fun e => m (by simp [e])) (fun e => m (by simp [e])) (fun e => m (by simp [e])) q) hf
  self := fun A i s Q E st h => wpAny_pyIter_zip st.1 h
abbrev zipT1 (h : Heap) (l1 : Addr) : Heap := h.push { cls := .type "tuple_iterator", data := .fields #[.ref l1, .int 0 0] }
abbrev zipT2 (h : Heap) (l1 l2 : Addr) : Heap := (zipT1 h l1).push { cls := .type "tuple_iterator", data := .fields #[.ref l2, .int 0 0] }
abbrev zipT3 (h : Heap) (l1 l2 : Addr) : Heap := (zipT2 h l1 l2).push { cls := .type "tuple", data := .seq #[.ref h.objs.size, .ref (zipT1 h l1).objs.size] }
abbrev zipT4 (h : Heap) (l1 l2 : Addr) : Heap := (zipT3 h l1 l2).push { cls := .type "tuple", data := .seq #[.none, .none] }
abbrev zipT5 (h : Heap) (l1 l2 : Addr) : Heap := (zipT4 h l1 l2).push { cls := .type "zip", data := .fields #[.none, .bool false, .bool false, .ref (zipT2 h l1 l2).objs.size, .ref (zipT3 h l1 l2).objs.size] }
theorem meets_zipT (l1 l2 : Addr) (us vs : Array Value) :
    Meets (Builtin.«zip.__new__» ⟨[.type "zip", .ref l1, .ref l2], []⟩) (fun _ R s => s.heap.IsTuple l1 us ∧ s.heap.IsTuple l2 vs ∧ R (.ok (.ret (.ref (zipT4 s.heap l1 l2).objs.size))) { s with heap := zipT5 s.heap l1 l2 }) :=
  .of_wp fun prog w A R s h => by
    obtain ⟨hp, g, d, tk, os⟩ := s
    obtain ⟨h1, h2, h⟩ := h
    have hsub := sub_zip
    have k1 : Heap.IsTuple (Shared.heap ⟨hp, g, d, tk, os⟩) l1 us := h1
    have k2 : Heap.IsTuple (Shared.heap ⟨hp.push { cls := .type "tuple_iterator", data := .fields #[.ref l1, .int 0 0] }, g, d, tk, os⟩) l2 vs := Heap.IsTuple.push h2 _
    wp_walk using wpAny_pyIter_tuple k1, wpAny_pyIter_tuple k2
    exact ⟨_, rfl, h⟩
section
variable {prog : Program} {w : World} {A : Around} {E : Value → Shared → Prop} {s : Shared}
theorem call_zipT {l1 l2 : Addr} {us vs : Array Value} {Q : Value → Shared → Prop} (h1 : s.heap.IsTuple l1 us) (h2 : s.heap.IsTuple l2 vs)
    (h : ∀ g, IsZip g (s.heap.objs.size + 4) (s.heap.objs.size + 2) (s.heap.objs.size + 3) .none → IsPair g (s.heap.objs.size + 2) (.ref s.heap.objs.size) (.ref (s.heap.objs.size + 1)) →
      IsPair g (s.heap.objs.size + 3) .none .none → g.IsTupleIter s.heap.objs.size l1 0 → g.IsTupleIter (s.heap.objs.size + 1) l2 0 → (∀ c o, s.heap.get? c = some o → g.get? c = some o) → Q (.ref (s.heap.objs.size + 4)) { s with heap := g }) :
    wpAny (model prog w) A (call (.type "zip") [.ref l1, .ref l2]) Q E s := by
  refine callType_new F.called_zip (by decide) (F.typeCall_zip_2 _ _) (F.newCall_zip_2 _ _) (fun obj => F.args_object_init_3 obj _ _) F.entry_zip_new (meets_zipT l1 l2 us vs) ⟨h1, h2, ?_⟩
  have z1 : (zipT1 s.heap l1).objs.size = s.heap.objs.size + 1 := Heap.size_push ..
  have z2 : (zipT2 s.heap l1 l2).objs.size = s.heap.objs.size + 2 := by rw [Heap.size_push, z1]
  have z3 : (zipT3 s.heap l1 l2).objs.size = s.heap.objs.size + 3 := by rw [Heap.size_push, z2]
  have z4 : (zipT4 s.heap l1 l2).objs.size = s.heap.objs.size + 4 := by rw [Heap.size_push, z3]
  have g5 : (zipT5 s.heap l1 l2).get? (zipT4 s.heap l1 l2).objs.size = some _ := Heap.get?_push_size _ rfl
  have g4 : (zipT5 s.heap l1 l2).get? (zipT3 s.heap l1 l2).objs.size = some _ := Heap.get?_push_of_some _ (Heap.get?_push_size _ rfl)
  have g3 : (zipT5 s.heap l1 l2).get? (zipT2 s.heap l1 l2).objs.size = some _ := Heap.get?_push_of_some _ (Heap.get?_push_of_some _ (Heap.get?_push_size _ rfl))
  have g2 : (zipT5 s.heap l1 l2).get? (zipT1 s.heap l1).objs.size = some _ := Heap.get?_push_of_some _ (Heap.get?_push_of_some _ (Heap.get?_push_of_some _ (Heap.get?_push_size _ rfl)))
  have g1 : (zipT5 s.heap l1 l2).get? s.heap.objs.size = some _ := Heap.get?_push_of_some _ (Heap.get?_push_of_some _ (Heap.get?_push_of_some _ (Heap.get?_push_of_some _ (Heap.get?_push_size _ rfl))))
  show _ ∧ _
  rw [z2, z3, z4] at g5
  rw [z1, z2] at g3
  rw [z3] at g4
  rw [z1] at g2
  rw [z4]
  exact ⟨⟨_, g5, rfl⟩, h _ g5 g3 g4 ⟨_, g1, rfl, rfl⟩ ⟨_, g2, rfl, rfl⟩ fun c o x => Heap.get?_push_of_some _ (Heap.get?_push_of_some _ (Heap.get?_push_of_some _ (Heap.get?_push_of_some _ (Heap.get?_push_of_some _ x))))⟩
end
/-- zip of two lists, or of two tuples -/
def iZipQ (K : PySem.W.Frag) (ta : TA) : TI := fun σ H R => ta σ H fun vs H1 => ∃ a b xs ys, vs = [.ref a, .ref b] ∧ ((SqL K H1 a xs ∧ SqL K H1 b ys ∧ R (Itz K a b) H1) ∨ (SqT K H1 a xs ∧ SqT K H1 b ys ∧ R (ItzT K a b) H1))
theorem pi_zipQ {X : Cx} {e e2 : Expr} {ta : TA} {p pos tpos : Pos} {elts : List Expr} {kk : Nat} (hg : Gl X "zip") (hm : X.mg "zip" = none) (ha : PA X [e, e2] ta)
    (hs : starEach [e, e2] X.env = (false, eval e X.env) :: starEach [e2] X.env := by rfl) (hpl : (backTo pos (starEach [e2] X.env)).any (·.1) = false := by rfl) : PI X (.Tuple elts kk tpos) (.Call (.Name "zip" p) [e, e2] [] pos) (iZipQ X.K ta) := by
  intro pins s σ H R I h
  refine Call_ (ld_blt I hg hm boot_zip5 (PyProof.Rows.callWith_type1 (thn (ha pos pins s σ H _ I h) fun us s1 ⟨vs, H1, I1, r1, q1⟩ => ?_) hs hpl))
  obtain ⟨a, b, xs, ys, ex, q⟩ := q1
  subst ex
  have hle : ∀ c, c = s1.heap.objs.size + 4 ∨ c = s1.heap.objs.size + 2 ∨ c = s1.heap.objs.size + 3 ∨ c = s1.heap.objs.size ∨ c = s1.heap.objs.size + 1 → s1.heap.objs.size ≤ c := fun c e' => by
    rcases e' with e | e | e | e | e <;> (subst e; simp)
  cases r1 with
  | cons r rr =>
    cases rr with
    | cons r' rr =>
      cases rr
      cases r
      cases r'
      rcases q with ⟨qx, qy, q⟩ | ⟨qx, qy, q⟩
      · obtain ⟨t1, v1, p1, _⟩ := I1.list qx
        obtain ⟨t2, v2, p2, _⟩ := I1.list qy
        refine call_zip_2 p1.isList p2.isList fun g hz hTI hTO h1 h2 _ hk => wpAny_pyIter_zip hz ?_
        have I2 : Inv X pins σ H1 { s1 with heap := g } := I1.kept (t' := s1.toks) hk
        exact ⟨s1.heap.objs.size + 4, [s1.heap.objs.size + 4, s1.heap.objs.size + 2, s1.heap.objs.size + 3, s1.heap.objs.size, s1.heap.objs.size + 1], _, _, H1, rfl, I2, turn_zip (PySem.W.ktu_apart _ a b p1.lt p2.lt), ⟨hz, hTI, ⟨_, _, hTO⟩, h1, h2⟩, fun c m => I1.fpOk (hle c (by simpa using m)) (I1.hok.fresh (hle c (by simpa using m))), q⟩
      · obtain ⟨t1, v1, p1, _⟩ := I1.tuple qx
        obtain ⟨t2, v2, p2, _⟩ := I1.tuple qy
        have p1 : s1.heap.IsTuple a t1.toArray := p1
        have p2 : s1.heap.IsTuple b t2.toArray := p2
        refine call_zipT p1 p2 fun g hz hTI hTO h1 h2 hk => wpAny_pyIter_zip hz ?_
        have I2 : Inv X pins σ H1 { s1 with heap := g } := I1.kept (t' := s1.toks) hk
        exact ⟨s1.heap.objs.size + 4, [s1.heap.objs.size + 4, s1.heap.objs.size + 2, s1.heap.objs.size + 3, s1.heap.objs.size, s1.heap.objs.size + 1], _, _, H1, rfl, I2, turn_zipT (PySem.W.ktu_apart _ a b (lt_tup p1) (lt_tup p2)), ⟨hz, hTI, ⟨_, _, hTO⟩, h1, h2⟩, fun c m => I1.fpOk (hle c (by simpa using m)) (I1.hok.fresh (hle c (by simpa using m))), q⟩
end Hb

set_option Elab.async false
set_option linter.all false
set_option maxRecDepth 100000
set_option maxHeartbeats 4000000
namespace Hb
open PySem PySem.Spec PyProof.Rows L2
section
variable {g : TG} {D : Ends} {σ : L2.St} {H : Hp} {Q : VK} {te : TE} {tt : TT} {K : PySem.W.Frag} {a b : Addr} {xs ys : List V} {vs : List Nat} {σw : L2.St}
theorem r_izipQ {ta : TA} {R : It → Hp → Prop} (h : ta σ H fun vs H1 => ∃ a b xs ys, vs = [.ref a, .ref b] ∧ ((SqL K H1 a xs ∧ SqL K H1 b ys ∧ R (Itz K a b) H1) ∨ (SqT K H1 a xs ∧ SqT K H1 b ys ∧ R (ItzT K a b) H1))) : iZipQ K ta σ H R := h
/-- what is done at each turn of a comprehension -/
abbrev lcOver (J : It) (H : Hp) (Qd : Addr → Hp → Prop) (g : TG) (σ : L2.St) (vs : List Nat) (tt : TT) (te : TE) : Prop :=
  ∀ D, H D = none → ∃ W : Nat → Nat → Hp → Prop, (∃ m, W 0 m (upd H D (.lst []))) ∧ ∀ i m H, W i m H →
      (J.stop i H ∧ Qd D H) ∨ (J.go i H ∧ ∃ Nx : Hp → Prop, (∀ H', Nx H' → ∃ m', m' < m ∧ W (i + 1) m' H') ∧ ∀ x H', J.yld i H x H' → g x (wipe σ vs) H' fun σ2 H2 => wipe σ2 vs = wipe σ vs ∧ tt σ2 H2 fun b H3 =>
        if b = true then te σ2 H3 fun y H4 => ∃ acc, H4 D = some (.lst acc) ∧ acc.length < sizeLine ∧ Nx (upd H4 D (.lst (acc ++ [y]))) else Nx H3)
theorem c_zipL {Qd : Addr → Hp → Prop} (hx : SqL K H a xs) (hy : SqL K H b ys) (hxy : xs.length = ys.length) (hw : wipe σ vs = σw) (Pv : Addr → Nat → Hp → Prop) (h0 : ∀ D H', H D = none → H' = upd H D (.lst []) → Pv D 0 H')
    (hl : ∀ D i H', H D = none → i ≤ xs.length → Pv D i H' → SqL K H' a xs ∧ SqL K H' b ys)
    (hs : ∀ (D : Addr) (i : Nat) x y H' T H2, H D = none → xs[i]? = some x → ys[i]? = some y → Pv D i H' → H' T = none → H2 = upd H' T (.tup [x, y]) → g (.ref T) σw H2 fun σ2 H3 => wipe σ2 vs = σw ∧ tt σ2 H3 fun b H4 =>
      if b = true then te σ2 H4 fun y H5 => ∃ acc, H5 D = some (.lst acc) ∧ acc.length < sizeLine ∧ Pv D (i + 1) (upd H5 D (.lst (acc ++ [y]))) else Pv D (i + 1) H4)
    (hd : ∀ D H', H D = none → Pv D xs.length H' → Qd D H') :
    ∃ a2 b2 xs2 ys2, [V.ref a, V.ref b] = [V.ref a2, V.ref b2] ∧ ((SqL K H a2 xs2 ∧ SqL K H b2 ys2 ∧ lcOver (Itz K a2 b2) H Qd g σ vs tt te) ∨ (SqT K H a2 xs2 ∧ SqT K H b2 ys2 ∧ lcOver (ItzT K a2 b2) H Qd g σ vs tt te)) := by
  obtain ⟨a2, b2, xs2, ys2, e, q1, q2, r⟩ := c_zip hx hy hxy hw Pv h0 hl hs hd
  exact ⟨a2, b2, xs2, ys2, e, .inl ⟨q1, q2, r⟩⟩
theorem c_zipT {Qd : Addr → Hp → Prop} (hx : SqT K H a xs) (hy : SqT K H b ys) (hxy : xs.length = ys.length) (hw : wipe σ vs = σw) (Pv : Addr → Nat → Hp → Prop) (h0 : ∀ D H', H D = none → H' = upd H D (.lst []) → Pv D 0 H')
    (hl : ∀ D i H', H D = none → i ≤ xs.length → Pv D i H' → SqT K H' a xs ∧ SqT K H' b ys)
    (hs : ∀ (D : Addr) (i : Nat) x y H' T H2, H D = none → xs[i]? = some x → ys[i]? = some y → Pv D i H' → H' T = none → H2 = upd H' T (.tup [x, y]) → g (.ref T) σw H2 fun σ2 H3 => wipe σ2 vs = σw ∧ tt σ2 H3 fun b H4 =>
      if b = true then te σ2 H4 fun y H5 => ∃ acc, H5 D = some (.lst acc) ∧ acc.length < sizeLine ∧ Pv D (i + 1) (upd H5 D (.lst (acc ++ [y]))) else Pv D (i + 1) H4)
    (hd : ∀ D H', H D = none → Pv D xs.length H' → Qd D H') :
    ∃ a2 b2 xs2 ys2, [V.ref a, V.ref b] = [V.ref a2, V.ref b2] ∧ ((SqL K H a2 xs2 ∧ SqL K H b2 ys2 ∧ lcOver (Itz K a2 b2) H Qd g σ vs tt te) ∨ (SqT K H a2 xs2 ∧ SqT K H b2 ys2 ∧ lcOver (ItzT K a2 b2) H Qd g σ vs tt te)) := by
  subst hw
  refine ⟨a, b, xs, ys, rfl, .inr ⟨hx, hy, fun D hD => ⟨fun i m H' => m = xs.length - i ∧ i ≤ xs.length ∧ Pv D i H', ⟨xs.length, by simp, Nat.zero_le _, h0 D _ hD rfl⟩, ?_⟩⟩⟩
  rintro i m H1 ⟨rfl, hi, p⟩
  obtain ⟨q1, q2⟩ := hl D i H1 hD hi p
  by_cases hlt : i < xs.length
  · refine .inr ⟨⟨xs, ys, xs[i], ys[i]'(by omega), q1, q2, by simp [hlt], by simp [(by omega : i < ys.length)]⟩, Pv D (i + 1), fun H' p' => ⟨xs.length - (i + 1), by omega, rfl, hlt, p'⟩, fun x H' y => ?_⟩
    obtain ⟨T, x', y', rfl, hT, e, e1, e2⟩ := y
    exact hs D i x' y' H1 T H' hD (e1 xs q1) (e2 ys q2) p hT e
  · have e : i = xs.length := by omega
    subst e
    exact .inl ⟨⟨xs, ys, q1, q2, Nat.le_refl _⟩, hd D H1 hD p⟩
end
theorem r_dSN {x : Str} {A B : Prop} (h : B) : if decide (V.str x = V.non) = true then A else B := by rw [decide_eq_false (by intro z; cases z)]; exact h
end Hb

set_option Elab.async false
set_option linter.all false
set_option maxRecDepth 100000
set_option maxHeartbeats 4000000
namespace Hb
open PySem PySem.Spec L2
section
variable {X : Cx}
/-- sorted(xs) of whole numbers, as many as there may be -/
def rSortedA (K : PySem.W.Frag) : List V → Hp → VK → Prop := fun vs H Q => ∃ (a : Addr) (ns : List Int), vs = [V.ref a] ∧ SqL K H a (ns.map V.int) ∧ ns.length ≤ 100000 ∧
  ∀ (ms : List Int) (p : Addr) H', ms.Perm ns → ms.Pairwise (· ≤ ·) → H p = none → H' = upd H p (.lst (ms.map V.int)) → Q (.ref p) H'
end
end Hb

set_option Elab.async false
set_option linter.all false
set_option maxRecDepth 100000
set_option maxHeartbeats 4000000
namespace Hb
open PySem PySem.Spec L2
section
variable {g : TG} {tb : TS} {D : Ends} {σ : L2.St} {H : Hp} {Q : VK} {te : TE} {tt : TT} {K : PySem.W.Frag} {a b : Addr} {xs ys : List V} {vs : List Nat} {σw : L2.St}
/-- [e for x, y in zip(xs, ys) if c], the second list no longer than the first -/
theorem c_zipS {Qd : Addr → Hp → Prop} (hx : SqL K H a xs) (hy : SqL K H b ys) (hxy : ys.length ≤ xs.length) (hw : wipe σ vs = σw) (Pv : Addr → Nat → Hp → Prop) (h0 : ∀ D H', H D = none → H' = upd H D (.lst []) → Pv D 0 H')
    (hl : ∀ D i H', H D = none → i ≤ ys.length → Pv D i H' → SqL K H' a xs ∧ SqL K H' b ys)
    (hs : ∀ (D : Addr) (i : Nat) x y H' T H2, H D = none → xs[i]? = some x → ys[i]? = some y → Pv D i H' → H' T = none → H2 = upd H' T (.tup [x, y]) → g (.ref T) σw H2 fun σ2 H3 => wipe σ2 vs = σw ∧ tt σ2 H3 fun b H4 =>
      if b = true then te σ2 H4 fun y H5 => ∃ acc, H5 D = some (.lst acc) ∧ acc.length < sizeLine ∧ Pv D (i + 1) (upd H5 D (.lst (acc ++ [y]))) else Pv D (i + 1) H4)
    (hd : ∀ D H', H D = none → Pv D ys.length H' → Qd D H') :
    ∃ a2 b2 xs2 ys2, [V.ref a, V.ref b] = [V.ref a2, V.ref b2] ∧ SqL K H a2 xs2 ∧ SqL K H b2 ys2 ∧ lcOver (Itz K a2 b2) H Qd g σ vs tt te := by
  subst hw
  refine ⟨a, b, xs, ys, rfl, hx, hy, fun D hD => ⟨fun i m H' => m = ys.length - i ∧ i ≤ ys.length ∧ Pv D i H', ⟨ys.length, by simp, Nat.zero_le _, h0 D _ hD rfl⟩, ?_⟩⟩
  rintro i m H1 ⟨rfl, hi, p⟩
  obtain ⟨q1, q2⟩ := hl D i H1 hD hi p
  by_cases hlt : i < ys.length
  · refine .inr ⟨⟨xs, ys, xs[i]'(by omega), ys[i], q1, q2, by simp [(by omega : i < xs.length)], by simp [hlt]⟩, Pv D (i + 1), fun H' p' => ⟨ys.length - (i + 1), by omega, rfl, hlt, p'⟩, fun x H' y => ?_⟩
    obtain ⟨T, x', y', rfl, hT, e, e1, e2⟩ := y
    exact hs D i x' y' H1 T H' hD (e1 xs q1) (e2 ys q2) p hT e
  · have e : i = ys.length := by omega
    subst e
    exact .inl ⟨⟨xs, ys, q1, q2, .inr (Nat.le_refl _)⟩, hd D H1 hD p⟩
/-- for x, y in zip(xs, ys), the second list no longer than the first -/
theorem f_zipS (Pv : Nat → L2.St → Hp → Prop) (hx : SqL K H a xs) (hy : SqL K H b ys) (hxy : ys.length ≤ xs.length) (h0 : Pv 0 σ H) (hl : ∀ i σ H, i ≤ ys.length → Pv i σ H → SqL K H a xs ∧ SqL K H b ys)
    (hs : ∀ i x y σ H T H2, xs[i]? = some x → ys[i]? = some y → Pv i σ H → H T = none → H2 = upd H T (.tup [x, y]) → g (.ref T) σ H2 fun σ2 H3 => tb { D with nx := Pv (i + 1), ct := Pv (i + 1), bk := D.nx } σ2 H3) (hd : ∀ σ H, Pv ys.length σ H → D.nx σ H) :
    ∃ a2 b2 xs2 ys2, [V.ref a, V.ref b] = [V.ref a2, V.ref b2] ∧ SqL K H a2 xs2 ∧ SqL K H b2 ys2 ∧ ∃ W : Nat → Nat → L2.St → Hp → Prop, (∃ m, W 0 m σ H) ∧ ∀ i m σ H, W i m σ H →
      ((Itz K a2 b2).stop i H ∧ D.nx σ H) ∨ ((Itz K a2 b2).go i H ∧ ∃ N : L2.St → Hp → Prop, (∀ σ' H', N σ' H' → ∃ m', m' < m ∧ W (i + 1) m' σ' H') ∧ ∀ x H', (Itz K a2 b2).yld i H x H' → g x σ H' fun σ2 H2 => tb { D with nx := N, ct := N, bk := D.nx } σ2 H2) := by
  refine ⟨a, b, xs, ys, rfl, hx, hy, fun i m σ H => m = ys.length - i ∧ i ≤ ys.length ∧ Pv i σ H, ⟨ys.length, by simp, Nat.zero_le _, h0⟩, ?_⟩
  rintro i m σ H1 ⟨rfl, hi, p⟩
  obtain ⟨q1, q2⟩ := hl i σ H1 hi p
  by_cases hlt : i < ys.length
  · refine .inr ⟨⟨xs, ys, xs[i]'(by omega), ys[i], q1, q2, by simp [(by omega : i < xs.length)], by simp [hlt]⟩, Pv (i + 1), fun σ' H' p' => ⟨ys.length - (i + 1), by omega, rfl, hlt, p'⟩, fun x H' y => ?_⟩
    obtain ⟨T, x', y', rfl, hT, e, e1, e2⟩ := y
    exact hs i x' y' σ H1 T H' (e1 xs q1) (e2 ys q2) p hT e
  · have e : i = ys.length := by omega
    subst e
    exact .inl ⟨⟨xs, ys, q1, q2, .inr (Nat.le_refl _)⟩, hd σ H1 p⟩
end
end Hb

set_option Elab.async false
set_option linter.all false
set_option maxRecDepth 100000
set_option maxHeartbeats 4000000
namespace Hb
open PySem
/-! ### a table of a power of two finds a free place for what fits -/
/-- the leaps once nothing is left of the hash -/
def it5 : Nat → Nat → Nat
  | 0, x => x
  | n + 1, x => it5 n (x * 5 + 1)
/-- a slot of which the table's owners tell nothing -/
abbrev Fr (ow : Array (Option Nat)) (j : Nat) : Prop := (ow.getD j (some 0)).isNone = true
/-- the numbers that stand in the slots -/
abbrev ownL (m : Nat) (ow : Array (Option Nat)) : List Nat := (List.range m).filterMap fun j => ow.getD j none
end Hb

set_option Elab.async false
set_option linter.all false
set_option maxRecDepth 100000
set_option maxHeartbeats 4000000
namespace Hb
open PySem PySem.Spec PyProof.Rows PySem.Calls
/-! ### a set of whole numbers as it lies, its numbers in its own order -/
/-- cells of a set and their numbers -/
def EL (P : Program) (w : World) (cs : List (Int × Value)) (kc : List Int) : Prop := ElemsOf (intKind P w) cs ∧ IntsAre (cs.map (·.2)) kc
theorem is_int {P : Program} {w : World} {k : Int} {x : Value} (h : (intKind P w).is k x = true) : ∃ t, x = .int k t := by
  cases x with
  | int m t =>
    have : k = m := by
      simp [PySem.intKind, Value.isInt] at h
      omega
    exact ⟨t, by rw [this]⟩
  | _ => simp [PySem.intKind, Value.isInt] at h
theorem EL.cons {P : Program} {w : World} {c : Int × Value} {cs : List (Int × Value)} {kc : List Int} (h : EL P w (c :: cs) kc) :
    ∃ k kc', kc = k :: kc' ∧ c.1 = (intKind P w).hash k ∧ (intKind P w).is k c.2 = true ∧ c.2.scannable = true ∧ EL P w cs kc' := by
  obtain ⟨h1, h2⟩ := h
  obtain ⟨⟨k, a1, a2⟩, a3⟩ := h1.head
  obtain ⟨t, et⟩ := is_int a1
  rw [List.map_cons, et] at h2
  cases h2 with
  | cons i t' r => exact ⟨_, _, rfl, a2, a1, a3, h1.tail, r⟩
theorem EL.nil {P : Program} {w : World} {kc : List Int} (h : EL P w [] kc) : kc = [] := by
  have := h.2.length
  exact List.length_eq_zero_iff.mp this.symm
theorem EL.mk {P : Program} {w : World} {cs : List (Int × Value)} (h : ElemsOf (intKind P w) cs) : ∃ kc, EL P w cs kc ∧ ∀ i, (∃ c ∈ cs, (intKind P w).is i c.2 = true) ↔ i ∈ kc := by
  obtain ⟨ks, h1, h2⟩ := elems_ints h
  exact ⟨ks, ⟨h, h1⟩, h2⟩
theorem ints_uniq : ∀ {vs : List Value} {a b : List Int}, IntsAre vs a → IntsAre vs b → a = b
  | [], _, _, .nil, .nil => rfl
  | _ :: _, _, _, .cons _ _ r, .cons _ _ r' => by rw [ints_uniq r r']
theorem EL.mem {P : Program} {w : World} {cs : List (Int × Value)} {kc : List Int} (h : EL P w cs kc) (i : Int) : (∃ c ∈ cs, (intKind P w).is i c.2 = true) ↔ i ∈ kc := by
  obtain ⟨ks, h1, h2⟩ := EL.mk h.1
  rw [ints_uniq h.2 h1.2]
  exact h2 i
theorem ints_perm {vs vs' : List Value} (p : vs.Perm vs') : ∀ {ks : List Int}, IntsAre vs ks → ∃ ks', IntsAre vs' ks' ∧ ks.Perm ks' := by
  induction p with
  | nil => exact fun h => ⟨_, h, .refl _⟩
  | cons x p ih =>
    intro ks h
    cases h with
    | cons i t r =>
      obtain ⟨k2, r2, p2⟩ := ih r
      exact ⟨i :: k2, .cons _ _ r2, p2.cons i⟩
  | swap x y l =>
    intro ks h
    cases h with
    | cons i t r =>
      cases r with
      | cons j t' r => exact ⟨j :: i :: _, .cons _ _ (.cons _ _ r), .swap _ _ _⟩
  | trans p q ih1 ih2 =>
    intro ks h
    obtain ⟨k2, r2, p2⟩ := ih1 h
    obtain ⟨k3, r3, p3⟩ := ih2 r2
    exact ⟨k3, r3, p2.trans p3⟩
theorem EL.perm {P : Program} {w : World} {cs cs' : List (Int × Value)} {kc : List Int} (h : EL P w cs kc) (p : cs'.Perm cs) : ∃ kc', EL P w cs' kc' ∧ kc'.Perm kc := by
  obtain ⟨k2, r2, p2⟩ := ints_perm (p.symm.map (·.2)) h.2
  exact ⟨k2, ⟨h.1.perm p, r2⟩, p2.symm⟩
structure SetD (P : Program) (w : World) (h : Heap) (a : Addr) (u : Obj) (el : Array (Int × Value)) (ep : Nat) (tb : SetTable) (ks : List Int) : Prop where
  here : h.get? a = some u
  ex : u.ExactSet
  dat : u.data = .set el ep tb
  els : EL P w el.toList ks
  nd : ks.Nodup
  sz : el.size < scanBound
  fit : tb.fits el.size = true
  ok : TOk (ledB w) tb
/-- a set of just these whole numbers -/
def SetL (P : Program) (w : World) (h : Heap) (a : Addr) (F : List Int) : Prop := F.Nodup ∧ SetX P w (ledB w) h a (fun k => F.any (· == k)) F.length
section
variable {P : Program} {w : World} {h : Heap} {a : Addr} {F ks : List Int} {u : Obj} {el : Array (Int × Value)} {ep : Nat} {tb : SetTable}
theorem SetD.len (D : SetD P w h a u el ep tb ks) : ks.length = el.size := by
  have := D.els.2.length
  rw [List.length_map, Array.length_toList] at this
  exact this.symm
theorem any_mem {k : Int} {l : List Int} : l.any (· == k) = true ↔ k ∈ l := by simp
theorem SetL.d (X : SetL P w h a F) : ∃ u el ep tb ks, SetD P w h a u el ep tb ks ∧ ks.Perm F := by
  obtain ⟨nd, u, el, ep, tb, x1, x2, x3, x4, x5, x6, x7, x8, x9⟩ := X
  obtain ⟨ks, i1, i2⟩ := EL.mk x4
  have hl : ks.length = F.length := by
    have := i1.2.length
    rw [List.length_map, Array.length_toList] at this
    omega
  have p : ks.Perm F := cover_perm nd (fun x hx => (i2 x).mp ((x5 x).mp (any_mem.mpr hx))) hl
  exact ⟨u, el, ep, tb, ks, ⟨x1, x2, x3, i1, p.nodup_iff.mpr nd, x6, x7, x9⟩, p⟩
theorem SetD.l (D : SetD P w h a u el ep tb ks) (p : ks.Perm F) : SetL P w h a F := by
  refine ⟨p.nodup_iff.mp D.nd, u, el, ep, tb, D.here, D.ex, D.dat, D.els.1, fun i => ?_, D.sz, D.fit, ?_, D.ok⟩
  · rw [any_mem, ← p.mem_iff]
    exact (D.els.mem i).symm
  · rw [← D.len, p.length_eq]
theorem SetL.perm {G : List Int} (X : SetL P w h a F) (p : F.Perm G) : SetL P w h a G := by
  obtain ⟨_, _, _, _, _, D, q⟩ := X.d
  exact D.l (q.trans p)
theorem SetL.setOf (X : SetL P w h a F) : h.SetOf (intKind P w) a (fun k => F.any (· == k)) F.length := X.2.setOf
theorem SetL.lt (X : SetL P w h a F) : a < h.objs.size := by
  obtain ⟨_, _, _, _, _, D, _⟩ := X.d
  exact Heap.lt_size D.here
theorem SetL.small (X : SetL P w h a F) : F.length < scanBound := by
  obtain ⟨_, _, _, _, _, D, q⟩ := X.d
  rw [← q.length_eq, D.len]
  exact D.sz
end
section
variable {P : Program} {w : World} {A : Around} {E : Value → Shared → Prop} {s : Shared} {a : Addr} {F ks : List Int} {u : Obj} {el : Array (Int × Value)} {ep : Nat} {tb : SetTable}
theorem SetL.ty (X : SetL P w s.heap a F) : s.TypeIs (.ref a) "set" := X.setOf.typeIs
theorem SetL.fresh {h : Heap} (e : h.get? a = some (setO (ledB w))) : SetL P w h a [] := ⟨List.nodup_nil, SetX.fresh e⟩
end
end Hb

set_option Elab.async false
set_option linter.all false
set_option maxRecDepth 100000
set_option maxHeartbeats 4000000
namespace Hb
open PySem PySem.Spec PyProof.Rows PySem.Calls
section
variable {P : Program} {w : World} {A : Around} {E : Value → Shared → Prop} {s : Shared} {a : Addr} {F ks : List Int} {u : Obj} {el : Array (Int × Value)} {ep : Nat} {tb : SetTable}
end
end Hb

set_option Elab.async false
set_option linter.all false
set_option maxRecDepth 100000
set_option maxHeartbeats 4000000
namespace Hb
open PySem PySem.Spec PyProof.Rows PySem.Calls
open PySem.Builtin.Frozenset (addrOf sizeOf unchanged intersection difference differenceUpdate copyOf updateFrom merge)
section
variable {P : Program} {w : World} {A : Around} {E : Value → Shared → Prop} {s : Shared} {a o : Addr} {F G : List Int}
/-- what a set's reckoning leaves: the new set, all that was there ahead as it was -/
def NewSet (P : Program) (w : World) (s s' : Shared) (v : Value) (M : Int → Prop) : Prop :=
  ∃ r R, v = .ref r ∧ s' = { s with heap := s'.heap, drawn := s'.drawn, toks := s'.toks } ∧ (∀ c o, s.heap.get? c = some o → s'.heap.get? c = some o) ∧ s.heap.objs.size ≤ r ∧ SetL P w s'.heap r R ∧ ∀ k, k ∈ R ↔ M k
end
end Hb

set_option Elab.async false
set_option linter.all false
set_option maxRecDepth 100000
set_option maxHeartbeats 4000000
namespace Hb
open PySem PySem.Spec PyProof.Rows PySem.Calls
open PySem.Builtin.Frozenset (addrOf sizeOf unchanged intersection difference differenceUpdate copyOf updateFrom merge)
section
variable {P : Program} {w : World} {A : Around} {E : Value → Shared → Prop} {s : Shared} {a o : Addr} {F G : List Int} {u : Obj} {el : Array (Int × Value)} {ep : Nat} {tb : SetTable} {ks : List Int}
end
end Hb

set_option Elab.async false
set_option linter.all false
set_option maxRecDepth 100000
set_option maxHeartbeats 4000000
namespace Hb
open PySem PySem.Spec PyProof.Rows PySem.Calls
open PySem.Builtin.Frozenset (addrOf sizeOf unchanged intersection difference differenceUpdate copyOf updateFrom merge)
section
variable {P : Program} {w : World} {A : Around} {E : Value → Shared → Prop} {s : Shared} {a o : Addr} {F G : List Int} {u : Obj} {el : Array (Int × Value)} {ep : Nat} {tb : SetTable} {ks : List Int}
end
end Hb

set_option Elab.async false
set_option linter.all false
set_option maxRecDepth 100000
set_option maxHeartbeats 4000000
namespace Hb
open PySem PySem.Spec PyProof.Rows PySem.Calls
open PySem.Builtin.Frozenset (addrOf sizeOf unchanged intersection difference differenceUpdate copyOf updateFrom merge)
section
variable {P : Program} {w : World} {A : Around} {E : Value → Shared → Prop} {s : Shared} {a o : Addr} {F G : List Int} {u : Obj} {el : Array (Int × Value)} {ep : Nat} {tb : SetTable} {ks : List Int}
theorem EL.get : ∀ {cs : List (Int × Value)} {kc : List Int} (h : EL P w cs kc) (i : Nat) (hi : i < cs.length), ∃ k, kc[i]? = some k ∧ (intKind P w).is k (cs[i]).2 = true
  | [], _, _, i, hi => by simp at hi
  | c :: cs, kc, h, 0, hi => by
    obtain ⟨k, kc', rfl, _, c2, _, _⟩ := h.cons
    exact ⟨k, rfl, c2⟩
  | c :: cs, kc, h, i + 1, hi => by
    obtain ⟨k, kc', rfl, _, _, _, h'⟩ := h.cons
    obtain ⟨k2, e, q⟩ := h'.get i (by simpa using hi)
    exact ⟨k2, e, q⟩
end
end Hb

set_option Elab.async false
set_option linter.all false
set_option maxRecDepth 100000
set_option maxHeartbeats 4000000
namespace Hb
open PySem PySem.Spec PyProof.Rows PySem.Calls
open PySem.Builtin.Frozenset (addrOf sizeOf unchanged intersection difference differenceUpdate copyOf updateFrom merge)
section
variable {P : Program} {w : World} {A : Around} {E : Value → Shared → Prop} {s : Shared} {a o : Addr} {F G : List Int}
end
end Hb

set_option Elab.async false
set_option linter.all false
set_option maxRecDepth 100000
set_option maxHeartbeats 4000000
namespace Hb
open PySem PySem.Spec PyProof.Rows L2
/-- a set's reading: a list of just its numbers, each once -/
abbrev TSt := L2.St → Hp → (List Int → Hp → Prop) → Prop
/-- a set that lies by itself: nothing else is kept there -/
def Apart (X : Cx) (pins : List (Addr × Obj)) (H : Hp) (a : Addr) : Prop := H a = none ∧ a ≠ X.env.locals ∧ a ∉ X.fs ∧ ∀ p ∈ pins, p.1 ≠ a
def PSx (X : Cx) (e : Expr) (t : TSt) : Prop :=
  ∀ (pins : List (Addr × Obj)) (s : Shared) (σ : L2.St) (H : Hp) (Q : List Int → Hp → Prop), L2.Inv X pins σ H s → t σ H Q →
    wpAny (model X.prog X.w) X.A (eval e X.env) (fun v s' => ∃ a F H', v = .ref a ∧ L2.Inv X pins σ H' s' ∧ Apart X pins H' a ∧ SetL X.prog X.w s'.heap a F ∧ Q F H') X.xe s
section
variable {X : Cx}
/-- set(e), e a list of whole numbers -/
def rSetE (K : PySem.W.Frag) : List V → Hp → (List Int → Hp → Prop) → Prop := fun vs H1 Q => ∃ (a : Addr) (ns : List Int), vs = [.ref a] ∧ SqL K H1 a (ns.map V.int) ∧ ns.length < 2000 ∧
  ∀ F : List Int, F.Nodup → (∀ k, k ∈ F ↔ k ∈ ns) → F.length ≤ ns.length → Q F H1
def tSetE (K : PySem.W.Frag) (ta : TA) : TSt := fun σ H Q => ta σ H fun vs H1 => rSetE K vs H1 Q
/-- two sets by a sign -/
def tS2 (M : Prop → Prop → Prop) (ta tb : TSt) : TSt := fun σ H Q => ta σ H fun F H1 => tb σ H1 fun G H2 => F.length + G.length < 4000 ∧ ∀ R : List Int, R.Nodup → (∀ k, k ∈ R ↔ M (k ∈ F) (k ∈ G)) → Q R H2
def SOp (X : Cx) (op : Operator) (M : Prop → Prop → Prop) : Prop := ∀ (s : Shared) (a o : Addr) (F G : List Int) (Q : Value → Shared → Prop), SetL X.prog X.w s.heap a F → SetL X.prog X.w s.heap o G → a ≠ o → F.length + G.length + 1 < scanBound →
  (∀ v s', NewSet X.prog X.w s s' v (fun k => M (k ∈ F) (k ∈ G)) → Q v s') → wpAny (model X.prog X.w) X.A (binaryOp op (.ref a) (.ref o)) Q X.xe s
/-- sorted(a set) -/
def tSortedS (t : TSt) : TE := fun σ H Q => t σ H fun F H1 => ∀ (ms : List Int) (p : Addr), ms.Pairwise (· < ·) → (∀ k, k ∈ ms ↔ k ∈ F) → ms.length = F.length → H1 p = none → Q (.ref p) (upd H1 p (.lst (ms.map V.int)))
/-- len(a set) -/
def tLenS (t : TSt) : TE := fun σ H Q => t σ H fun F H1 => Q (.int F.length) H1
end
end Hb

set_option Elab.async false
set_option linter.all false
set_option maxRecDepth 100000
set_option maxHeartbeats 4000000
namespace Hb
open PySem PySem.Spec L2
section
variable {K : PySem.W.Frag} {σ : L2.St} {H : Hp} {Q : VK} {QF : List Int → Hp → Prop} {ta : TA} {ts tu : TSt} {td ty tx te : TE} {a d : Addr} {ns : List Int} {kvs : List (Key × V)} {M : Prop → Prop → Prop}
/-- dict(xs), xs a list of pairs -/
def rDictP (K : PySem.W.Frag) : List V → Hp → VK → Prop := fun xs H Q => ∃ (a : Addr) (ps : List Addr) (kvs : List (Key × V)), xs = [.ref a] ∧ SqL K H a (ps.map V.ref) ∧ Paired (fun p kv => SqT K H p [kV kv.1, kv.2]) ps kvs ∧
  ∀ p, H p = none → Q (.ref p) (upd H p (.dK (mergeK [] kvs)))
end
theorem valV_merge : ∀ (more kvs : List (Key × V)) (k : Key), (valV (mergeK kvs more) k).isSome = true ↔ (valV kvs k).isSome = true ∨ k ∈ more.map fun (kv : Key × V) => kv.1
  | [], kvs, k => by simp [mergeK]
  | kv :: more, kvs, k => by
    show (valV (mergeK (putK kvs kv.1 kv.2) more) k).isSome = true ↔ _
    rw [valV_merge more, valV_put]
    by_cases e : k = kv.1
    · rw [if_pos e]; simp [e]
    · rw [if_neg e]; simp [e]
end Hb

set_option Elab.async false
set_option linter.all false
set_option maxRecDepth 100000
set_option maxHeartbeats 4000000
namespace Hb
open PySem PySem.Spec L2
/-- pairs of whole numbers in their order -/
def le2 (p q : Int × Int) : Prop := p.1 < q.1 ∨ (p.1 = q.1 ∧ p.2 ≤ q.2)
abbrev shI : Nat → Bool := fun _ => false
section
variable {X : Cx}
/-- sorted(xs), xs a list of pairs of whole numbers -/
def rSortT (K : PySem.W.Frag) : List V → Hp → VK → Prop := fun vs H Q => ∃ (a : Addr) (ts : List Addr) (f : Addr → Int × Int), vs = [V.ref a] ∧ SqL K H a (ts.map V.ref) ∧ (∀ t ∈ ts, SqT K H t [.int (f t).1, .int (f t).2]) ∧ ts.length ≤ 100000 ∧
  ∀ (us : List Addr) (p : Addr) H', us.Perm ts → us.Pairwise (fun t u => le2 (f t) (f u)) → H p = none → H' = upd H p (.lst (us.map V.ref)) → Q (.ref p) H'
end
end Hb

set_option Elab.async false
set_option linter.all false
set_option maxRecDepth 100000
set_option maxHeartbeats 4000000
namespace Hb
open PySem PySem.Spec L2
section
variable {X : Cx} {o e : Expr} {apos cpos : Pos} {td ty : TE}
/-- d.update(another dict) -/
def tDUpd (td ty : TE) : TE := fun σ H Q => td σ H fun x H1 => ∃ a, x = .ref a ∧ IsD H1 a ∧ ty σ H1 fun y H2 => ∃ b kvs more, y = V.ref b ∧ a ≠ b ∧ H2 a = some (.dK kvs) ∧ H2 b = some (.dK more) ∧ kvs.length + more.length ≤ sizeLine ∧ Q .non (upd H2 a (.dK (mergeK kvs more)))
end
end Hb

set_option Elab.async false
set_option linter.all false
namespace Hb
open PySem L2
section
variable {H0 H H' : Hp} {S : List Addr} {a : Addr} {o o' : HO} {l : List (Addr × HO)}
end
end Hb

set_option Elab.async false
set_option linter.all false
set_option maxRecDepth 100000
set_option maxHeartbeats 4000000
namespace Hb
open PySem PySem.Spec L2
open PyProof.Rows hiding St
/-- new ones beside what was there -/
def ovl (H : Hp) (N : Addr → Option HO) : Hp := fun b => match N b with
  | some o => some o
  | none => H b
section
variable {X : Cx} {pins : List (Addr × Obj)} {σ : L2.St} {H : Hp} {s s' : Shared} {N : Addr → Option HO}
end
/-- the pair of a tuple that lies there -/
def pairH (h : Heap) (a : Addr) : Int × Int := match h.get? a with
  | some o => match o.data with
    | .seq xs _ => match xs.toList with
      | [.int x _, .int y _] => (x, y)
      | _ => (0, 0)
    | _ => (0, 0)
  | none => (0, 0)
/-! ### sorted(d.items()), keys and values whole numbers -/
section
variable {X : Cx} {e : Expr} {td : TE} {apos cpos p1 pos : Pos}
def tSortItems (td : TE) : TE := fun σ H Q => td σ H fun x H1 => ∃ (d : Addr) (prs : List (Int × Int)), x = .ref d ∧ H1 d = some (.dK (prs.map fun p => (Sum.inl p.1, V.int p.2))) ∧ prs.length ≤ 100000 ∧
  ∀ (us : List Addr) (qs : List (Int × Int)) (p : Addr) H', us.length = qs.length → qs.Perm prs → qs.Pairwise le2 → (∀ (j : Nat) u q, us[j]? = some u → qs[j]? = some q → H1 u = none ∧ H' u = some (.tup [.int q.1, .int q.2])) → H1 p = none → H' p = some (.lst (us.map V.ref)) → Same H1 H' → Q (.ref p) H'
end
end Hb

set_option Elab.async false
set_option linter.all false
set_option maxRecDepth 100000
set_option maxHeartbeats 4000000
namespace Hb
open PySem PySem.Spec L2
open PyProof.Rows hiding St
section
variable {X : Cx} {e : Expr} {td : TE} {apos cpos p1 pos : Pos}
/-- list(d.values()) -/
def tListVals (td : TE) : TE := fun σ H Q => td σ H fun x H1 => ∃ (d : Addr) (kvs : List (Key × V)), x = .ref d ∧ H1 d = some (.dK kvs) ∧ ∀ (p : Addr) H', H1 p = none → H' = upd H1 p (.lst (kvs.map fun kv => kv.2)) → Q (.ref p) H'
end
section
variable {g : TG} {σ : L2.St} {H : Hp} {Q : VK} {te : TE} {tt : TT} {K : PySem.W.Frag} {d : Addr} {o : Obj} {kvs : List (Key × V)} {vs : List Nat} {σw : L2.St} {td t : TE}
end
end Hb

set_option Elab.async false
set_option linter.all false
set_option maxRecDepth 100000
set_option maxHeartbeats 4000000
namespace Hb
open PySem PySem.Spec L2
open PyProof.Rows hiding St
/-! a dict of the module's own that is only read: its keys whole numbers or texts -/
def KDk (P : Program) (w : World) (K : PySem.W.Frag) (a : Addr) (kvs : List (Key × V)) : Prop :=
  (a == sysModules) = false ∧ ∃ (o : Obj) (es : Array DictEntry) (ep : Nat) (vs : List (Key × Value)), K.lookup a = some o ∧ o.ExactDict ∧ o.data = .dict es ep ∧ KeysOf (mixKind P w) es ∧ Pairs (mixKind P w) es.toList vs ∧ (vs.map (·.1)).Nodup ∧ KV kvs vs
theorem KDk.at {P : Program} {w : World} {K : PySem.W.Frag} {a : Addr} {kvs : List (Key × V)} {h : Heap} (d : KDk P w K a kvs) (X : K.In h) : ∃ vs, KV kvs vs ∧ h.DictOf (mixKind P w) a vs := by
  obtain ⟨_, o, es, ep, vs, h1, h2, h3, h4, h5, h6, h7⟩ := d
  exact ⟨vs, h7, o, es, ep, X _ _ h1, h2, h3, h4, h5, h6⟩
/-- written: (key, token, hash, value) rows of texts -/
theorem KDk.texts {P : Program} {w : World} {K : PySem.W.Frag} {a : Addr} {ep : Nat} {rows : List (Str × Tok × Value × V)} (h0 : (a == sysModules) = false)
    (h1 : K.lookup a = some ⟨.type "dict", none, .dict (rows.map fun r => (⟨hashStr w r.1, .str r.1 r.2.1, r.2.2.1⟩ : DictEntry)).toArray ep, #[]⟩) (h2 : (rows.map fun r => r.1).Nodup) (h3 : ∀ r ∈ rows, RelV r.2.2.2 r.2.2.1) :
    KDk P w K a (rows.map fun r => (Sum.inr r.1, r.2.2.2)) := by
  refine ⟨h0, _, _, ep, rows.map fun r => (Sum.inr r.1, r.2.2.1), h1, ⟨rfl, rfl, rfl⟩, rfl, ?_, ?_, ?_, ?_⟩
  · intro e he
    rw [List.mem_toArray] at he
    obtain ⟨r, _, rfl⟩ := List.mem_map.mp he
    exact ⟨Sum.inr r.1, keyIs_str r.1 r.2.1, rfl⟩
  · show Pairs _ (rows.map _) _
    clear h1 h2 h3
    induction rows with
    | nil => exact .nil
    | cons r rows ih => exact .cons (keyIs_str r.1 r.2.1) rfl ih
  · rw [List.map_map]
    have : ((fun x : Key × Value => x.1) ∘ fun r : Str × Tok × Value × V => ((Sum.inr r.1 : Key), r.2.2.1)) = (fun x : Str => (Sum.inr x : Key)) ∘ fun r : Str × Tok × Value × V => r.1 := rfl
    rw [this, ← List.map_map]
    exact List.pairwise_map.mpr (h2.imp fun hn e => hn (Sum.inr.inj e))
  · clear h1 h2
    induction rows with
    | nil => exact .nil
    | cons r rows ih => exact .cons ⟨rfl, h3 r List.mem_cons_self⟩ (ih fun r hr => h3 r (List.mem_cons_of_mem _ hr))
section
variable {X : Cx} {o e i : Expr} {ty : TE} {a : Addr} {kvs : List (Key × V)} {apos cpos pos : Pos}
/-- D.get(e) -/
def tKGet1 (kvs : List (Key × V)) (ty : TE) : TE := fun σ H Q => ty σ H fun y H1 => ∃ k, y = kV k ∧ Q ((valV kvs k).getD .non) H1
/-- D[e] -/
def tKGet (kvs : List (Key × V)) (ty : TE) : TE := fun σ H Q => ty σ H fun y H1 => ∃ k v, y = kV k ∧ valV kvs k = some v ∧ Q v H1
/-- e in D, e not in D -/
def tKIn (kvs : List (Key × V)) (ty : TE) : TE := fun σ H Q => ty σ H fun y H1 => ∃ k, y = kV k ∧ Q (.bl (valV kvs k).isSome) H1
def tKNotIn (kvs : List (Key × V)) (ty : TE) : TE := fun σ H Q => ty σ H fun y H1 => ∃ k, y = kV k ∧ Q (.bl (!(valV kvs k).isSome)) H1
end
/-! a call of a def that a local name holds -/
/-- f is a def that keeps sp -/
structure DfAt (P : Program) (w : World) (K : PySem.W.Frag) (mg : Str → Option Value) (base : Heap) (f : Addr) (ps : List Str) (k : Nat) (sp : Sp) : Prop where
  ex : ∃ fd : FuncData, PySem.W.keepIn K (.ref f) = true ∧ Binds K fd ps [] ∧ FnOk P w K mg base CX0 k f fd ps sp
/-- x(e, ..) where the slot i of x holds one of the defs of D -/
def tCallV (D : Addr → Sp → Prop) (i : Nat) (t : TA) : TE := fun σ H Q => ∃ f sp, σ[i]? = some (some (.ref f)) ∧ D f sp ∧ t σ H fun vs H1 => sp (vs ++ []) H1 Q E0
end Hb

set_option Elab.async false
set_option linter.all false
set_option maxRecDepth 100000
set_option maxHeartbeats 4000000
namespace Hb
open PySem PySem.Spec L2
open PyProof.Rows hiding St
/-- l.extend(t) of a tuple -/
def rExtendT (K : PySem.W.Frag) : V → List V → Hp → VK → Prop := fun x vs H Q => ∃ l b xs zs, x = .ref l ∧ vs = [.ref b] ∧ H l = some (.lst xs) ∧ SqT K H b zs ∧ xs.length + zs.length ≤ sizeLine ∧ Q .non (upd H l (.lst (xs ++ zs)))
section
variable {wi : TI} {g : TG} {tb : TS} {D : Ends} {σ : L2.St} {H : Hp} {Q : VK} {ta : TA} {tl te : TE} {tt : TT} {K : PySem.W.Frag} {a : Addr} {xs : List V} {vs : List Nat} {σw : L2.St}
end
end Hb

set_option Elab.async false
set_option linter.all false
set_option maxRecDepth 100000
set_option maxHeartbeats 4000000
namespace Hb
open PySem L2
section
variable {g : TG} {tt : TT} {te : TE} {vs : List Nat} {σ σw : L2.St} {H : Hp}
theorem RgC.two {j : Int} (h0 : -1 ≤ j) (h1 : j ≤ 100000) : RgC 0 j 2 ((j + 1) / 2).toNat := by
  have e : Builtin.Range.rangeSize 0 j 2 = (((j + 1) / 2).toNat : Int) := by
    unfold Builtin.Range.rangeSize
    simp only [show ((2 : Int) > 0) by decide, if_true]
    split <;> omega
  refine ⟨by decide, by decide, ?_, e⟩
  unfold Builtin.Range.small
  rw [e]
  simp only [Builtin.Range.rangeFitsLong, Bool.and_eq_true, Bool.or_eq_true, decide_eq_true_eq, beq_iff_eq, show ((2 : Int) > 0) by decide, if_true]
  omega
end
section
open PySem.Spec PyProof.Rows
variable {X : Cx}
/-- xs[::k], k = 1 or -1 -/
def stpL (k : Int) (xs : List V) : List V := if k = -1 then xs.reverse else xs
def tStp (K : PySem.W.Frag) (te ts : TE) : TE := fun σ H Q => te σ H fun x H1 => ts σ H1 fun y H2 => ∃ k : Int, y = .int k ∧ (k = -1 ∨ k = 1) ∧ ∃ a xs, x = .ref a ∧ SqL K H2 a xs ∧ ∀ p, H2 p = none → Q (.ref p) (upd H2 p (.lst (stpL k xs)))
end
end Hb

set_option Elab.async false
set_option linter.all false
set_option maxRecDepth 100000
set_option maxHeartbeats 4000000
namespace Hb
open PySem PySem.Spec L2
section
variable {X : Cx}
/-- xs.count(n), whole numbers -/
def rCountI (K : PySem.W.Frag) : V → List V → Hp → VK → Prop := fun x vs H Q => ∃ (a : Addr) (ns : List Int) (k : Int), x = .ref a ∧ vs = [.int k] ∧ SqL K H a (ns.map V.int) ∧ Q (.int (ns.count k : Nat)) H
/-- sorted(d): the keys, whole numbers -/
def rSortD : List V → Hp → VK → Prop := fun vs H Q => ∃ (d : Addr) (prs : List (Int × V)), vs = [V.ref d] ∧ H d = some (.dK (prs.map fun p => (Sum.inl p.1, p.2))) ∧ prs.length ≤ 100000 ∧
  ∀ (ms : List Int) (p : Addr) H', ms.Perm (prs.map fun p => p.1) → ms.Pairwise (· ≤ ·) → H p = none → H' = upd H p (.lst (ms.map V.int)) → Q (.ref p) H'
end
end Hb

set_option Elab.async false
set_option linter.all false
set_option maxRecDepth 100000
set_option maxHeartbeats 4000000
namespace Hb
open PySem PySem.Spec L2 HT PyProof.Rows PySem.SeqAt PySem.MeetsSeq PySem.MeetsSeq2 PySem.MeetsSeq3
section
variable {prog : Program} {w : World} {A : Around} {E : Value → Shared → Prop} {s : Shared}
end
section
variable {X : Cx}
/-- t[lo:hi] -/
def rSlTW (K : PySem.W.Frag) : V → Option Int → Option Int → Hp → VK → Prop := fun x lo hi H Q => ∃ a xs, x = .ref a ∧ SqT K H a xs ∧
  ((sIx xs.length 0 lo = 0 ∧ sIx xs.length xs.length hi = xs.length) → Q (.ref a) H) ∧ (¬ (sIx xs.length 0 lo = 0 ∧ sIx xs.length xs.length hi = xs.length) → ∀ p H', H p = none → H' = upd H p (.tup (cutV xs lo hi)) → Q (.ref p) H')
end
/-- a truth asked in a comprehension -/
abbrev tTru (K : PySem.W.Frag) (ta : TE) : TT := fun σ H Q => ta σ H fun x H' => ∃ k, TruV K x H' k ∧ Q k H'
end Hb

set_option Elab.async false
set_option linter.all false
set_option maxRecDepth 100000
set_option maxHeartbeats 4000000
namespace Hb
open PySem PySem.Spec PyProof.Rows L2
section
variable {X : Cx}
/-- list(range(a, b)) -/
def tLRng2 (ta : TA) : TE := fun σ H Q => ta σ H fun vs H1 => ∃ (a b : Int), vs = [.int a, .int b] ∧ -100000 ≤ a ∧ a ≤ 100000 ∧ -100000 ≤ b ∧ b ≤ 100000 ∧ ∀ p H', H1 p = none → H' = upd H1 p (.lst ((List.range (b - a).toNat).map fun (k : Nat) => V.int (a + (k : Int)))) → Q (.ref p) H'
end
end Hb

set_option Elab.async false
set_option linter.all false
set_option maxRecDepth 100000
set_option maxHeartbeats 4000000
namespace Hb
open PySem PySem.Spec L2 PyProof.Rows
section
variable {X : Cx}
/-- d.setdefault(k, y) -/
def rSetDef : V → List V → Hp → VK → Prop := fun x vs H Q => ∃ (a : Addr) (kvs : List (Key × V)) (k : Key) (y : V), x = .ref a ∧ vs = [kV k, y] ∧ H a = some (.dK kvs) ∧ kvs.length < 100000 ∧
  (∀ v, valV kvs k = some v → Q v H) ∧ (valV kvs k = none → ∀ H', H' = upd H a (.dK (putK kvs k y)) → Q y H')
end
end Hb

set_option Elab.async false
set_option linter.all false
set_option maxRecDepth 100000
set_option maxHeartbeats 4000000
namespace Hb
open PySem PySem.Spec L2 PyProof.Rows
section
variable {X : Cx}
/-- is True, is not True: truths on both sides -/
def rIsB : V → V → Hp → VK → Prop := fun x y H Q => ∃ c d, x = .bl c ∧ y = .bl d ∧ Q (.bl (c == d)) H
def rNotB : V → V → Hp → VK → Prop := fun x y H Q => ∃ c d, x = .bl c ∧ y = .bl d ∧ Q (.bl (c != d)) H
end
end Hb

set_option Elab.async false
set_option linter.all false
set_option maxRecDepth 100000
set_option maxHeartbeats 4000000
namespace Hb
open PySem PySem.Spec L2 PyProof PyProof.Rows
/-! ### names of a list: a, b, c = [..] -/
section
variable {prog : Program} {w : World} {A : Around} {E : Value → Shared → Prop} {s : Shared}
end
section
variable {X : Cx}
def gLst (K : PySem.W.Frag) (n : Nat) (t : TGs) : TG := fun v σ H Q => ∃ a xs, v = .ref a ∧ SqL K H a xs ∧ xs.length = n ∧ t xs σ H Q
end
end Hb

set_option Elab.async false
set_option linter.all false
set_option maxRecDepth 100000
set_option maxHeartbeats 4000000
namespace Hb
open PySem PySem.Spec L2 PyProof PyProof.Rows
section
variable {X : Cx}
/-- min(a, b, c) -/
def rMin3 : List V → Hp → VK → Prop := fun xs H Q => ∃ i j k : Int, xs = [.int i, .int j, .int k] ∧ Q (.int (min (min i j) k)) H
end
end Hb

set_option Elab.async false
set_option linter.all false
set_option maxRecDepth 100000
set_option maxHeartbeats 4000000
namespace Hb
open PySem PySem.Spec L2
open PyProof.Rows hiding St
section
variable {prog : Program} {w : World} {A : Around} {R : Result → Shared → Prop}
end
section
variable {X : Cx} {x : Str} {p pos kp : Pos} {e dx : Expr} {t : TA} {td : TE}
/-- min(xs, default=d), xs a list of pairs of whole numbers -/
def rMinT (K : PySem.W.Frag) (dv : V) : List V → Hp → VK → Prop := fun vs H Q => ∃ (a : Addr) (ts : List Addr) (f : Addr → Int × Int), vs = [V.ref a] ∧ SqL K H a (ts.map V.ref) ∧ (∀ t ∈ ts, SqT K H t [.int (f t).1, .int (f t).2]) ∧
  (ts = [] → Q dv H) ∧ ∀ b ∈ ts, (∀ t ∈ ts, le2 (f b) (f t)) → Q (.ref b) H
def tMinT (K : PySem.W.Frag) (t : TA) (td : TE) : TE := fun σ H Q => t σ H fun vs H1 => td σ H1 fun dv H2 => rMinT K dv vs H2 Q
end
end Hb

set_option Elab.async false
set_option linter.all false
set_option maxRecDepth 100000
set_option maxHeartbeats 4000000
namespace Hb
open PySem PySem.Spec L2
open PyProof.Rows hiding St
/-- two promises of one def -/
structure DfE (P : Program) (w : World) (K : PySem.W.Frag) (mg : Str → Option Value) (base : Heap) (x : Str) (ps : List Str) (k : Nat) (sp sp2 : Sp) : Prop where
  g : DfR P w K mg base x ps k sp
  r : DfR P w K mg base x ps k sp2
theorem DfE.mono {P : Program} {w : World} {K : PySem.W.Frag} {mg : Str → Option Value} {base : Heap} {x : Str} {ps : List Str} {sp sp2 : Sp} {j k : Nat} (G : DfE P w K mg base x ps j sp sp2) (h : j ≤ k) : DfE P w K mg base x ps k sp sp2 := ⟨G.g.mono h, G.r.mono h⟩
def orSp (sp sp2 : Sp) : Sp := fun vs H Q E => sp vs H Q E ∨ sp2 vs H Q E
section
variable {X : Cx} {x : Str} {ps : List Str} {k : Nat} {sp sp2 : Sp} {p pos cpos : Pos} {e : Expr} {es : List Expr} {t : TA}
/-- f(e, ..) as a statement, f with two promises -/
theorem px_callE (hn : ∀ e s, X.xe e s → False) (G : DfE X.prog X.w X.K X.mg X.base x ps k sp sp2) (hr : Room k X.A) (hg : Gl X x) (ha : PA X (e :: es) t) (hs : swapsWith (.Call (.Name x p) (e :: es) [] cpos) none pos.line X.env = pure false := by rfl)
    (hdb : (x == ("__debug__" : Str)) = false := by decide) (he : starEach (e :: es) X.env = (false, eval e X.env) :: starEach es X.env := by rfl) (hpl : (backTo cpos (starEach es X.env)).any (·.1) = false := by rfl) :
    PX X [.Expr (.Call (.Name x p) (e :: es) [] cpos) pos] (tXCall (orSp sp sp2) t) := by
  intro pins s σ H D R I h
  obtain ⟨f, fd, hm, hk, hb, F⟩ := G.g.ex
  obtain ⟨f2, fd2, hm2, hk2, hb2, F2⟩ := G.r.ex
  have ef : f2 = f := by rw [hm] at hm2; exact (Value.ref.inj (Option.some.inj hm2)).symm
  subst ef
  refine wpAny_execs_cons (wpAny_Expr_any ?_ I.quiet hs)
  refine wpAny_Call_Name_kw (ld_glob I hg hm ?_ hdb)
  refine PySem.W.callWith_K (h₀ := X.base) I.ok.mod.kin hk (wpAny_mono (ha cpos pins s σ H _ I h) (fun us s1 ⟨vs, H1, I1, r, q⟩ => ⟨I1.kIn, ?_⟩) fun e s' z => (hn e s' z).elim) he hpl
  have r2 : Vals (vs ++ []) (us ++ []) := r.append .nil
  rcases q with q | q
  · have hl : (us ++ []).length = ps.length := by rw [← r2.length]; exact F.len _ _ _ _ q
    refine wpAny_call (codeAny_mono (F.run X.A X.stack s1 H1 ⟨us, []⟩ (us ++ []) (vs ++ []) _ _ hr I1.env0 (hb s1 us I1.kIn hl) r2 q) fun rr s' hq => ?_)
    cases rr with
    | error e =>
      obtain ⟨ea, C, H', rfl, fly, C', ec, rc⟩ := hq
      cases ec
      exact ⟨H1, s1, ea, C, H', I1, rfl, fly, rc⟩
    | ok fl =>
      cases fl with
      | ret u =>
        obtain ⟨v, H', I', rv, q'⟩ := I1.after hq
        exact wpAny_execs_nil ⟨σ, H', I', q'⟩
      | next => exact False.elim hq
      | brk => exact False.elim hq
      | cont => exact False.elim hq
  · have hl : (us ++ []).length = ps.length := by rw [← r2.length]; exact F2.len _ _ _ _ q
    refine wpAny_call (codeAny_mono (F2.run X.A X.stack s1 H1 ⟨us, []⟩ (us ++ []) (vs ++ []) _ _ hr I1.env0 (hb2 s1 us I1.kIn hl) r2 q) fun rr s' hq => ?_)
    cases rr with
    | error e =>
      obtain ⟨ea, C, H', rfl, fly, C', ec, rc⟩ := hq
      cases ec
      exact ⟨H1, s1, ea, C, H', I1, rfl, fly, rc⟩
    | ok fl =>
      cases fl with
      | ret u =>
        obtain ⟨v, H', I', rv, q'⟩ := I1.after hq
        exact wpAny_execs_nil ⟨σ, H', I', q'⟩
      | next => exact False.elim hq
      | brk => exact False.elim hq
      | cont => exact False.elim hq
end
end Hb

set_option Elab.async false
set_option linter.all false
set_option maxRecDepth 100000
set_option maxHeartbeats 4000000
namespace Hb
open PySem PySem.Spec PyProof.Rows L2
/-! ### a set comprehension with two fors, of whole numbers, that is sorted at once -/
section
variable {P : Program} {w : World} {A : Around} {E : Value → Shared → Prop} {s : Shared} {R : Result → Shared → Prop}
abbrev scE (elt tg iter tg2 iter2 : Expr) (scope : Scope) (pos : Pos) : Expr := .SetComp elt [⟨tg, iter, [], 0⟩, ⟨tg2, iter2, [], 0⟩] scope pos
variable {elt tg iter tg2 iter2 : Expr} {scope : Scope} {pos : Pos} {it acc : Value} {env : Env}
abbrev NoE : Value → Shared → Prop := fun _ _ => False
end
end Hb

set_option Elab.async false
set_option linter.all false
set_option maxRecDepth 100000
set_option maxHeartbeats 8000000
namespace Hb
open PySem PySem.Spec PyProof.Rows L2
/-- a set that is being made, in the abstract heap -/
abbrev setH (P : Program) (w : World) (D : Addr) (F : List Int) : HO := .ext fun h => SetL P w h D F
section
variable {X : Cx}
/-- {elt for g in wi for g2 in wi2}: D the new set -/
def tSc2 (P : Program) (w : World) (wi : TI) (g : TG) (wi2 : TI) (g2 : TG) (te : TE) (vs vs2 : List Nat) : L2.St → Hp → (Addr → Hp → Prop) → Prop := fun σ H Q => wi σ H fun J H1 => ∀ D, H1 D = none → ∃ W : Nat → Nat → Hp → Prop, (∃ m, W 0 m (upd H1 D (setH P w D []))) ∧ ∀ i m H, W i m H →
  (J.stop i H ∧ Q D H) ∨ (J.go i H ∧ ∃ Nx : Hp → Prop, (∀ H', Nx H' → ∃ m', m' < m ∧ W (i + 1) m' H') ∧ ∀ x H', J.yld i H x H' → g x (L2.wipe σ vs) H' fun σ2 H2 => L2.wipe σ2 vs = L2.wipe σ vs ∧ wi2 σ2 H2 fun J2 H3 => ∃ W2 : Nat → Nat → Hp → Prop, (∃ m, W2 0 m H3) ∧ ∀ j m2 H4, W2 j m2 H4 →
    (J2.stop j H4 ∧ Nx H4) ∨ (J2.go j H4 ∧ ∃ N2 : Hp → Prop, (∀ H', N2 H' → ∃ m', m' < m2 ∧ W2 (j + 1) m' H') ∧ ∀ y H5, J2.yld j H4 y H5 → g2 y (L2.wipe σ2 vs2) H5 fun σ3 H6 => L2.wipe σ3 vs2 = L2.wipe σ2 vs2 ∧ te σ3 H6 fun z H7 => ∃ (k : Int) (F : List Int), z = .int k ∧ H7 D = some (setH P w D F) ∧ F.length + 1 < scanBound ∧ N2 (upd H7 D (setH P w D (if k ∈ F then F else k :: F)))))
/-- it sorted -/
def tSortSc (P : Program) (w : World) (wi : TI) (g : TG) (wi2 : TI) (g2 : TG) (te : TE) (vs vs2 : List Nat) : TE := fun σ H Q => tSc2 P w wi g wi2 g2 te vs vs2 σ H fun D H1 => ∃ F : List Int, H1 D = some (setH P w D F) ∧ ∀ (ms : List Int) (p : Addr), ms.Pairwise (· < ·) → (∀ k, k ∈ ms ↔ k ∈ F) → ms.length = F.length → H1 p = none → Q (.ref p) (upd H1 p (.lst (ms.map V.int)))
end
end Hb

set_option Elab.async false
set_option linter.all false
set_option maxRecDepth 100000
set_option maxHeartbeats 4000000
namespace Hb
open PySem PySem.Spec L2
section
variable {P : Program} {w : World} {wi wi2 : TI} {g g2 : TG} {te : TE} {vs vs2 : List Nat} {σ σw : L2.St} {H : Hp} {Q : VK} {K : PySem.W.Frag} {a : Addr} {xs : List V}
end
end Hb

set_option Elab.async false
set_option linter.all false
set_option maxRecDepth 100000
set_option maxHeartbeats 4000000
namespace Hb
open PySem PySem.Spec L2
section
variable {D : Ends} {g : TG} {tb : TS} {σ : L2.St} {H : Hp} {Q : VK} {d : Addr} {o : Obj} {kvs : List (Key × V)} {td ty : TE}
end
/-- a dict of places -/
def leftK (l : List Nat) : List (Key × V) := l.map fun (x : Nat) => ((Sum.inl (x : Int) : Key), V.bl true)
end Hb

set_option Elab.async false
set_option linter.all false
set_option maxRecDepth 100000
set_option maxHeartbeats 8000000
namespace Hb
open PySem PySem.Spec PyProof.Rows L2
/-! ### a dict comprehension with one for -/
section
variable {P : Program} {w : World} {A : Around} {E : Value → Shared → Prop} {s : Shared} {R : Result → Shared → Prop}
variable {kx vx tg iter : Expr} {scope : Scope} {pos : Pos} {it : Value} {D : Addr} {env : Env}
end
section
variable {X : Cx}
/-- {kx: vx for g in wi}: D the new dict -/
def tDc (wi : TI) (g : TG) (tk tv : TE) (vs : List Nat) : TE := fun σ H Q => wi σ H fun J H1 => ∀ D, H1 D = none → ∃ W : Nat → Nat → Hp → Prop, (∃ m, W 0 m (upd H1 D (.dK []))) ∧ ∀ i m H, W i m H →
  (J.stop i H ∧ Q (.ref D) H) ∨ (J.go i H ∧ ∃ Nx : Hp → Prop, (∀ H', Nx H' → ∃ m', m' < m ∧ W (i + 1) m' H') ∧ ∀ x H', J.yld i H x H' → g x (L2.wipe σ vs) H' fun σ2 H2 => L2.wipe σ2 vs = L2.wipe σ vs ∧ tk σ2 H2 fun y H3 => tv σ2 H3 fun z H4 => ∃ (k : Key) (kvs : List (Key × V)), y = kV k ∧ H4 D = some (.dK kvs) ∧ kvs.length < sizeLine ∧ Nx (upd H4 D (.dK (putK kvs k z))))
end
end Hb

set_option Elab.async false
set_option linter.all false
set_option maxRecDepth 100000
set_option maxHeartbeats 4000000
namespace Hb
open PySem PySem.Spec L2
/-! ### d.get(None), d with keys that are whole numbers or texts -/
def optIs : Option Key → Value → Bool
  | none, .none => true
  | none, _ => false
  | some k, v => keyIs k v
def optH (w : World) : Option Key → Int
  | none => reduceHash 0xFCA86420
  | some k => keyH w k
theorem optIs_none {v : Value} (h : optIs none v = true) : v = .none := by cases v <;> first | rfl | cases h
theorem keyIs_non {k : Key} : keyIs k .none = false := by cases k <;> rfl
def optKind (P : Program) (w : World) : PySem.KeyKind P w (Option Key) where
  is := optIs
  hash := optH w
  inj := fun v a b ha hb => by
    cases a with
    | none =>
      obtain rfl := optIs_none ha
      cases b with
      | none => rfl
      | some b => exact absurd (show keyIs b .none = true from hb) (by rw [keyIs_non]; decide)
    | some a =>
      cases b with
      | none =>
        obtain rfl := optIs_none hb
        exact absurd (show keyIs a .none = true from ha) (by rw [keyIs_non]; decide)
      | some b => rw [(mixKind P w).inj v a b ha hb]
  byValue := fun k v h => by
    cases k with
    | none => obtain rfl := optIs_none h; rfl
    | some k => exact (mixKind P w).byValue k v h
  pyHash := fun {A E s k v Q} hv h => by
    cases k with
    | none =>
      obtain rfl := optIs_none hv
      have hT : s.TypeIs .none "NoneType" := rfl
      unfold PySem.pyHash
      have hv : [Value.none].any Value.onHeap = false := rfl
      refine wpAny_bind ?_
      rw [cRoomFor, if_neg (by rw [hv]; exact Bool.false_ne_true)]; refine wpAny_pure ?_
      refine wpAny_bind (wpAny_specialOf hT PySem.F.slot_NoneType_hash.lookup ?_)
      show wpAny _ _ (if (some (Value.builtin "NoneType.__hash__") == some Value.none) = true then _ else _) Q E s
      rw [if_neg (by rw [beq_builtin_none]; exact Bool.false_ne_true)]
      refine wpAny_bind (wpAny_specialOf hT PySem.F.slot_NoneType_hash.lookup ?_)
      show wpAny _ _ (callSpecialIfBoundUnlessNone? .none "__hash__" _ >>= _) Q E s
      refine wpAny_bind (wpAny_callSpecialIfBoundUnlessNone?_slot hT PySem.F.slot_NoneType_hash
        (wpAny_call_entry PySem.F.slot_NoneType_hash hT PySem.F.entry_NoneType_hash
          (wpAny_bind (wpAny_pure (wpAny_ret_mkInt ?_))) (PySem.F.args_NoneType_hash_1 _)))
      exact wpAny_pure h
    | some k => exact (mixKind P w).pyHash hv h
  eqBool := fun {A E s a b u v Q} hu hv h => by
    cases a with
    | none =>
      obtain rfl := optIs_none hu
      cases b with
      | none =>
        obtain rfl := optIs_none hv
        rw [decide_eq_true rfl] at h
        unfold PySem.eqBool
        refine wpAny_holding ?_
        rw [if_pos (by decide)]
        exact wpAny_bind (wpAny_rule (wpAny_pure h))
      | some b =>
        rw [decide_eq_false (by simp)] at h
        rcases keyIs_shape hv with ⟨j, t, rfl, rfl⟩ | ⟨y, t, rfl, rfl⟩
        · exact SeqAt.EqAt.none_int j t _ _ _ _ h
        · exact SeqAt.EqAt.none_str y t _ _ _ _ h
    | some a =>
      cases b with
      | none =>
        obtain rfl := optIs_none hv
        rw [decide_eq_false (by simp)] at h
        rcases keyIs_shape hu with ⟨j, t, rfl, rfl⟩ | ⟨y, t, rfl, rfl⟩
        · exact SeqAt.EqAt.int_none j t _ _ _ _ h
        · exact SeqAt.EqAt.str_none y t _ _ _ _ h
      | some b =>
        refine (mixKind P w).eqBool hu hv ?_
        rw [show decide (some a = some b) = decide (a = b) by simp] at h
        exact h
  «strs» := fun k x t v h => by
    cases k with
    | none => cases h
    | some k => exact (mixKind P w).strs k x t v h
/-- what stands at y, a key or None -/
def DGetO (H : Hp) (a : Addr) (y : V) (r : Option V) : Prop := DGet H a y r ∨ (y = .non ∧ r = none ∧ ∃ kvs, Rd H a (.dK kvs))
section
variable {X : Cx} {o e : Expr} {apos cpos : Pos} {td ty : TE}
def tDGetO (td ty : TE) : TE := fun σ H Q => td σ H fun x H1 => ∃ a, x = .ref a ∧ IsD H1 a ∧ ty σ H1 fun y H2 => ∃ o, DGetO H2 a y o ∧ Q (o.getD .non) H2
end
end Hb

set_option Elab.async false
set_option linter.all false
set_option maxRecDepth 100000
set_option maxHeartbeats 4000000
namespace Hb
open PySem PySem.Spec L2
section
variable {wi : TI} {g : TG} {tk tv : TE} {vs : List Nat} {σ σw : L2.St} {H : Hp} {Q : VK} {K : PySem.W.Frag} {a : Addr} {xs : List V}
end
end Hb

set_option Elab.async false
set_option linter.all false
set_option maxRecDepth 100000
set_option maxHeartbeats 4000000
namespace Hb
open PySem PySem.Spec PyProof.Rows L2
/-! ### f"..", isascii, removeprefix, as rules -/
section
variable {X : Cx} {e : Expr} {es : List Expr} {te : TE}
/-- a whole number or a text, as a text -/
inductive FmtV : V → Str → Prop
  | str {x : Str} : x.length ≤ sizeLine → FmtV (.str x) x
  | int {i : Int} : i.natAbs.log2 < 1920 → FmtV (.int i) (toString i)
def tFmt (te : TE) : TE := fun σ H Q => te σ H fun x H' => ∃ y, FmtV x y ∧ Q (.str y) H'
theorem pe_fmt {pos : Pos} (he : PE X e te) : PE X (.FormattedValue e (-1) none pos) (tFmt te) := by
  intro pins s σ H Q I h
  refine FormattedValue_plain (thn (he pins s σ H _ I h) fun v s1 ⟨x, H1, I1, r1, q1⟩ => ?_)
  obtain ⟨y, hf, q⟩ := q1
  cases hf with
  | str hz =>
    obtain ⟨t, rfl⟩ := r1
    exact formatField_str (fun t' tk => ⟨.str _, H1, I1.tok _, ⟨_, rfl⟩, q⟩) hz
  | int hz =>
    obtain ⟨t, rfl⟩ := r1
    exact formatField_int_small hz ⟨.str _, H1, (I1.tok _).tok _, ⟨_, rfl⟩, q⟩
/-- parts glued -/
def PJ (X : Cx) (es : List Expr) (t : Str → TE) : Prop :=
  ∀ (out : Str) (pins : List (Addr × Obj)) (s : Shared) (σ : L2.St) (H : Hp) (Q : VK), L2.Inv X pins σ H s → t out σ H Q → wpAny (model X.prog X.w) X.A (joinParts out (evalEach es X.env)) (EP X pins σ Q) X.xe s
def tJnil : Str → TE := fun out _ H Q => out.length ≤ sizeLine ∧ Q (.str out) H
def tJcons (te : TE) (t : Str → TE) : Str → TE := fun out σ H Q => te σ H fun x H' => ∃ y, x = .str y ∧ (out ++ y).length ≤ sizeLine ∧ t (out ++ y) σ H' Q
theorem pj_nil : PJ X [] tJnil := fun out pins s σ H Q I ⟨hz, q⟩ => joinParts_nil ⟨.str _, H, I.tok _, ⟨_, rfl⟩, q⟩ hz
theorem pj_cons {t : Str → TE} (he : PE X e te) (hes : PJ X es t) : PJ X (e :: es) (tJcons te t) := by
  intro out pins s σ H Q I h
  show wpAny _ _ (joinParts out (eval e X.env :: evalEach es X.env)) _ _ s
  refine joinParts_cons (thn (he pins s σ H _ I h) fun v s1 ⟨x, H1, I1, r1, q1⟩ => ?_)
  obtain ⟨y, rfl, hz, q⟩ := q1
  obtain ⟨t', rfl⟩ := r1
  exact ⟨hz, hes _ pins s1 σ H1 Q I1 q⟩
theorem pe_fstr {e1 e2 : Expr} {pos : Pos} {t : Str → TE} (h : PJ X (e1 :: e2 :: es) t) : PE X (.JoinedStr (e1 :: e2 :: es) pos) (t Str.empty) := by
  intro pins s σ H Q I q
  exact JoinedStr_many (h Str.empty pins s σ H Q I q)
end
section
variable {σ : L2.St} {H : Hp} {Q : VK} {te to : TE} {t : Str → TE} {out : Str}
theorem r_fmt (h : te σ H fun x H' => ∃ y, FmtV x y ∧ Q (.str y) H') : tFmt te σ H Q := h
theorem r_jcons (h : te σ H fun x H' => ∃ y, x = .str y ∧ (out ++ y).length ≤ sizeLine ∧ t (out ++ y) σ H' Q) : tJcons te t out σ H Q := h
theorem r_m1 {r : V → List V → Hp → VK → Prop} (h : to σ H fun x H1 => (∃ a, x = .str a) ∧ te σ H1 fun y H2 => r x [y] H2 Q) : tM1 r to te σ H Q := h
end
end Hb

set_option Elab.async false
set_option linter.all false
set_option maxRecDepth 100000
set_option maxHeartbeats 4000000
namespace Hb
open PySem PySem.Spec L2 TL
/-! ### numbers written and read -/
def sg (i : Int) : Str := Str.ofString (toString i)
theorem tl_sgN (n : Nat) : tl (sg (n : Int)) = numL n := tl_num n
theorem tl_sgM (n : Nat) : tl (sg (Int.negSucc n)) = 45 :: numL (n + 1) := by
  have e : toString (Int.negSucc n) = "-" ++ toString ((n + 1 : Nat) : Int) := rfl
  have h := tl_num (n + 1)
  rw [tl_ofString] at h
  unfold sg
  rw [tl_ofString, e, String.toList_append, List.map_append, h]
  rfl
theorem lit_colon : Str.ofString ":" = ⟨#[58]⟩ := by decide +kernel
/-- the program's own test of a number -/
def isNumS (x : Str) (m : Int) : Bool := Txt.isascii x && Txt.isdigit x && decide ((x.length : Int) ≤ m) && (decide (x = Str.ofString "0") || !Txt.startswith x (Str.ofString "0"))
def isHueS (x : Str) : Bool := (!decide (x = Str.ofString "-0")) && isNumS (Txt.removeprefix x (Str.ofString "-")) 30
theorem len30 {n : Nat} (h : n < 10 ^ 30) : (numL n).length ≤ 30 := numL_len (by decide) h
theorem len_sg {h : Int} (hb : h.natAbs < 10 ^ 30) : (sg h).length ≤ 31 := by
  rw [len_tl]
  cases h with
  | ofNat n =>
    have := len30 (n := n) hb
    rw [show tl (sg (Int.ofNat n)) = numL n from tl_sgN n]
    omega
  | negSucc n =>
    have := len30 (n := n + 1) hb
    rw [tl_sgM, List.length_cons]
    omega
theorem log_small {h : Int} (hb : h.natAbs < 10 ^ 30) : h.natAbs.log2 < 1920 := by
  by_cases h0 : h.natAbs = 0
  · rw [h0]; decide
  · exact (Nat.log2_lt h0).mpr (Nat.lt_of_lt_of_le hb (Nat.le_trans (show (10 : Nat) ^ 30 ≤ 2 ^ 100 by decide) (Nat.pow_le_pow_right (by decide) (by decide))))
/-! #### places written -/
def abovS : Option Nat → Str
  | none => Str.ofString "-"
  | some p => sg (p : Nat)
def pwS (o : Option Nat) (h : Int) : Str := abovS o ++ Str.ofString ":" ++ sg h
theorem abov_len {o : Option Nat} (ho : ∀ p, o = some p → p < 1000) : (abovS o).length ≤ 30 := by
  cases o with
  | none => decide +kernel
  | some p =>
    have h2 : p < 1000 := ho p rfl
    have := len30 (n := p) (by omega)
    show (sg (p : Nat)).length ≤ 30
    rw [len_tl, tl_sgN]; exact this
theorem pwS_len {o : Option Nat} {h : Int} (ho : ∀ p, o = some p → p < 1000) (hb : h.natAbs < 10 ^ 30) : (pwS o h).length ≤ 62 := by
  have h1 := abov_len ho
  have h2 := len_sg hb
  rw [len_tl] at h1 h2 ⊢
  unfold pwS
  rw [tl_append, tl_append, lit_colon, List.length_append, List.length_append]
  have : (tl (⟨#[58]⟩ : Str)).length = 1 := rfl
  omega
/-- the words of a tree and its hues -/
def wordsN (ps : List (Option Nat)) (hs : List Int) : List Str := (ps.zip hs).map fun q => pwS q.1 q.2
def textN (ps : List (Option Nat)) (hs : List Int) : Str := Txt.join (Str.ofString " ") (wordsN ps hs)
theorem words_len {ps : List (Option Nat)} {hs : List Int} (h : hs.length = ps.length) : (wordsN ps hs).length = ps.length := by
  rw [wordsN, List.length_map, List.length_zip, h, Nat.min_self]
theorem words_at {ps : List (Option Nat)} {hs : List Int} {i : Nat} {o : Option Nat} {h : Int} (e1 : ps[i]? = some o) (e2 : hs[i]? = some h) : (wordsN ps hs)[i]? = some (pwS o h) := by
  rw [wordsN, List.getElem?_map, List.getElem?_zip_eq_some (z := (o, h)) |>.mpr ⟨e1, e2⟩]; rfl
theorem sum_le {l : List Nat} {m : Nat} (h : ∀ x ∈ l, x ≤ m) : l.sum ≤ l.length * m := by
  induction l with
  | nil => simp
  | cons a l ih =>
    have h1 := h a (by simp)
    have h2 := ih fun x hx => h x (by simp [hx])
    rw [List.sum_cons, List.length_cons, Nat.add_mul]
    omega
theorem empty_appS (x : Str) : Str.empty ++ x = x := ext_tl (by rw [tl_append]; rfl)
end Hb

set_option Elab.async false
set_option linter.all false
set_option maxRecDepth 100000
set_option maxHeartbeats 4000000
namespace Hb
open PySem PySem.Spec L2 TL
section
variable {X : Cx}
/-- str of a whole number, of None -/
inductive ShowV : V → Str → Prop
  | int {i : Int} : i.natAbs.log2 < 1920 → ShowV (.int i) (sg i)
  | non : ShowV .non (Str.ofString "None")
def rStrQ : List V → Hp → VK → Prop := fun xs H Q => ∃ x y, xs = [x] ∧ ShowV x y ∧ Q (.str y) H
theorem call_strQ : CallR X (.type "str") rStrQ := by
  intro pins s σ H xs us Q I r h
  obtain ⟨x, y, rfl, hv, q⟩ := h
  cases r with
  | cons r1 rs =>
    cases rs
    cases hv with
    | int hz =>
      obtain ⟨t, rfl⟩ := r1
      exact PySem.P.str_of_int hz ⟨.str _, H, I.tok _, ⟨_, rfl⟩, q⟩
    | non =>
      cases r1
      exact PySem.P.str_of_none ⟨.str _, H, I.tok _, ⟨_, rfl⟩, q⟩
def rJoin (K : PySem.W.Frag) : V → List V → Hp → VK → Prop := fun x xs H Q => ∃ a p, ∃ ys : List Str, x = .str a ∧ xs = [.ref p] ∧ (SqL K H p (ys.map V.str) ∨ SqT K H p (ys.map V.str)) ∧
      (ys.map (·.length)).sum + ys.length * a.length ≤ 16777216 ∧ Q (.str (Txt.join a ys)) H
end
section
variable {K : PySem.W.Frag} {H : Hp} {Q : VK} {w z : Str} {i : Int}
theorem e_and {P : Prop} (h : P) : (∃ a, V.str w = V.str a) ∧ P := ⟨⟨_, rfl⟩, h⟩
theorem e_s {P : Str → Prop} (h : P w) : ∃ a, V.str w = V.str a ∧ P a := ⟨w, rfl, h⟩
theorem e_ss {P : Str → Str → Prop} (h : P w z) : ∃ a b, V.str w = V.str a ∧ V.str z = V.str b ∧ P a b := ⟨w, z, rfl, rfl, h⟩
theorem r_strI (hb : i.natAbs.log2 < 1920) (k : Q (.str (sg i)) H) : rStrQ [.int i] H Q := ⟨_, _, rfl, .int hb, k⟩
theorem r_strN (k : Q (.str (Str.ofString "None")) H) : rStrQ [.non] H Q := ⟨_, _, rfl, .non, k⟩
theorem r_fmtI {P : Str → Prop} (hb : i.natAbs.log2 < 1920) (k : P (sg i)) : ∃ y, FmtV (.int i) y ∧ P y := ⟨_, .int hb, k⟩
theorem r_fmtS {P : Str → Prop} (hb : w.length ≤ sizeLine) (k : P w) : ∃ y, FmtV (.str w) y ∧ P y := ⟨_, .str hb, k⟩
theorem r_joinL {p : Addr} {ys : List Str} (h : SqL K H p (ys.map V.str)) (hl : (ys.map (·.length)).sum + ys.length * w.length ≤ 16777216) (k : Q (.str (Txt.join w ys)) H) : rJoin K (.str w) [.ref p] H Q := ⟨w, p, ys, rfl, rfl, .inl h, hl, k⟩
theorem small_s {n : Nat} (h : n ≤ 100000) : n ≤ sizeLine := small_le h
end
end Hb

set_option hygiene false
local macro_rules | `(tactic| walk_at "hb v") => `(tactic| (first | with_reducible refine Hb.r_v0 ?_ | with_reducible refine Hb.r_v1 ?_ | with_reducible refine Hb.r_v2 ?_ | with_reducible refine Hb.r_v3 ?_ | with_reducible refine Hb.r_v4 ?_ | with_reducible refine Hb.r_v5 ?_ | with_reducible refine Hb.r_v6 ?_ | with_reducible refine Hb.r_v7 ?_ | with_reducible refine Hb.r_v8 ?_ | with_reducible refine Hb.r_v9 ?_ | with_reducible refine Hb.r_v10 ?_ | with_reducible refine Hb.r_v11 ?_ | with_reducible refine Hb.r_v12 ?_ | with_reducible refine Hb.r_v13 ?_ | with_reducible refine Hb.r_v14 ?_ | with_reducible refine Hb.r_v15 ?_ | with_reducible refine Hb.r_v16 ?_ | with_reducible refine Hb.r_v17 ?_ | with_reducible refine Hb.r_v18 ?_ | with_reducible refine Hb.r_v19 ?_ | with_reducible refine Hb.r_v20 ?_ | with_reducible refine Hb.r_v21 ?_ | with_reducible refine Hb.r_v22 ?_ | with_reducible refine Hb.r_v23 ?_ | with_reducible refine Hb.r_v24 ?_ | with_reducible refine Hb.r_v25 ?_ | with_reducible refine Hb.r_v26 ?_ | with_reducible refine Hb.r_v27 ?_ | with_reducible refine Hb.r_v28 ?_ | with_reducible refine Hb.r_v29 ?_ | with_reducible refine Hb.r_v30 ?_ | with_reducible refine Hb.r_v31 ?_ | with_reducible refine Hb.r_v32 ?_ | with_reducible refine Hb.r_v33 ?_ | with_reducible refine Hb.r_v34 ?_ | with_reducible refine Hb.r_v35 ?_))
local macro_rules | `(tactic| walk_at "hb n") => `(tactic| (first | with_reducible refine Hb.r_nm0 ?_ | with_reducible refine Hb.r_nm1 ?_ | with_reducible refine Hb.r_nm2 ?_ | with_reducible refine Hb.r_nm3 ?_ | with_reducible refine Hb.r_nm4 ?_ | with_reducible refine Hb.r_nm5 ?_ | with_reducible refine Hb.r_nm6 ?_ | with_reducible refine Hb.r_nm7 ?_ | with_reducible refine Hb.r_nm8 ?_ | with_reducible refine Hb.r_nm9 ?_ | with_reducible refine Hb.r_nm10 ?_ | with_reducible refine Hb.r_nm11 ?_ | with_reducible refine Hb.r_nm12 ?_ | with_reducible refine Hb.r_nm13 ?_ | with_reducible refine Hb.r_nm14 ?_ | with_reducible refine Hb.r_nm15 ?_ | with_reducible refine Hb.r_nm16 ?_ | with_reducible refine Hb.r_nm17 ?_ | with_reducible refine Hb.r_nm18 ?_ | with_reducible refine Hb.r_nm19 ?_ | with_reducible refine Hb.r_nm20 ?_ | with_reducible refine Hb.r_nm21 ?_ | with_reducible refine Hb.r_nm22 ?_ | with_reducible refine Hb.r_nm23 ?_ | with_reducible refine Hb.r_nm24 ?_ | with_reducible refine Hb.r_nm25 ?_ | with_reducible refine Hb.r_nm26 ?_ | with_reducible refine Hb.r_nm27 ?_ | with_reducible refine Hb.r_nm28 ?_ | with_reducible refine Hb.r_nm29 ?_ | with_reducible refine Hb.r_nm30 ?_ | with_reducible refine Hb.r_nm31 ?_ | with_reducible refine Hb.r_nm32 ?_ | with_reducible refine Hb.r_nm33 ?_ | with_reducible refine Hb.r_nm34 ?_ | with_reducible refine Hb.r_nm35 ?_))
local macro_rules | `(tactic| walk_at "hb h") => `(tactic| (first | assumption | exact Hb.Led.get0 L | exact Hb.Led.get1 L | exact Hb.Led.get2 L | exact Hb.Led.get3 L | exact Hb.Led.get4 L | exact Hb.Led.get5 L | exact Hb.Led.get6 L | exact Hb.Led.get7 L | exact Hb.Led.get8 L | exact Hb.Led.get9 L | exact Hb.Led.get10 L | exact Hb.Led.get11 L | exact Hb.Led.get12 L | exact Hb.Led.get13 L | exact Hb.Led.get14 L | exact Hb.Led.get15 L | exact Hb.Led.get16 L | exact Hb.Led.get17 L | exact Hb.Led.get18 L | exact Hb.Led.get19 L | exact Hb.Led.get20 L | exact Hb.Led.get21 L | exact Hb.Led.get22 L | exact Hb.Led.get23 L | exact Hb.Led.get24 L | exact Hb.Led.get25 L | exact Hb.Led.get26 L | exact Hb.Led.get27 L | exact Hb.Led.get28 L | exact Hb.Led.get29 L | exact Hb.Led.get30 L | exact Hb.Led.get31 L | exact Hb.Led.get32 L | exact Hb.Led.get33 L | exact Hb.Led.old L (by assumption) (by assumption) | exact Hb.Led.old L (by assumption) (by simp) | exact Hb.Led.old L (by assumption) (by simpa using (by assumption))))
local macro_rules | `(tactic| walk_at "hb sql") => `(tactic| (first | assumption | exact L2.SqL.of (by walk_at "hb h") | exact Hb.Led.oldL L (by assumption)))
local macro_rules | `(tactic| walk_at "hb sqt") => `(tactic| (first | exact L2.SqT.of (by walk_at "hb h") | assumption))
local macro_rules | `(tactic| walk_at "hb new") => `(tactic| (replace L := L.new nx ex; clear nx ex))
local macro_rules | `(tactic| walk_at "hb put") => `(tactic| ((first | (replace L := Hb.Led.put0 L ex) | (replace L := Hb.Led.put1 L ex) | (replace L := Hb.Led.put2 L ex) | (replace L := Hb.Led.put3 L ex) | (replace L := Hb.Led.put4 L ex) | (replace L := Hb.Led.put5 L ex) | (replace L := Hb.Led.put6 L ex) | (replace L := Hb.Led.put7 L ex) | (replace L := Hb.Led.put8 L ex) | (replace L := Hb.Led.put9 L ex) | (replace L := Hb.Led.put10 L ex) | (replace L := Hb.Led.put11 L ex) | (replace L := Hb.Led.put12 L ex) | (replace L := Hb.Led.put13 L ex) | (replace L := Hb.Led.put14 L ex) | (replace L := Hb.Led.put15 L ex) | (replace L := Hb.Led.put16 L ex) | (replace L := Hb.Led.put17 L ex) | (replace L := Hb.Led.put18 L ex) | (replace L := Hb.Led.put19 L ex)); clear ex))
local macro_rules | `(tactic| walk_at "hb mut") => `(tactic| ((first | (replace L := Hb.Led.mut0 L kx (by assumption)) | (replace L := Hb.Led.mut1 L kx (by assumption)) | (replace L := Hb.Led.mut2 L kx (by assumption)) | (replace L := Hb.Led.mut3 L kx (by assumption)) | (replace L := Hb.Led.mut4 L kx (by assumption)) | (replace L := Hb.Led.mut5 L kx (by assumption)) | (replace L := Hb.Led.mut6 L kx (by assumption)) | (replace L := Hb.Led.mut7 L kx (by assumption)) | (replace L := Hb.Led.mut8 L kx (by assumption)) | (replace L := Hb.Led.mut9 L kx (by assumption)) | (replace L := Hb.Led.mut10 L kx (by assumption)) | (replace L := Hb.Led.mut11 L kx (by assumption)) | (replace L := Hb.Led.mut12 L kx (by assumption)) | (replace L := Hb.Led.mut13 L kx (by assumption)) | (replace L := Hb.Led.mut14 L kx (by assumption)) | (replace L := Hb.Led.mut15 L kx (by assumption)) | (replace L := Hb.Led.mut16 L kx (by assumption)) | (replace L := Hb.Led.mut17 L kx (by assumption)) | (replace L := Hb.Led.mut18 L kx (by assumption)) | (replace L := Hb.Led.mut19 L kx (by assumption))); clear kx))
local macro_rules | `(tactic| walk_at "hb mutnew") => `(tactic| ((first | (replace L := Hb.Led.mutNew0 L kx (by assumption) nx (by assumption)) | (replace L := Hb.Led.mutNew1 L kx (by assumption) nx (by assumption)) | (replace L := Hb.Led.mutNew2 L kx (by assumption) nx (by assumption)) | (replace L := Hb.Led.mutNew3 L kx (by assumption) nx (by assumption)) | (replace L := Hb.Led.mutNew4 L kx (by assumption) nx (by assumption)) | (replace L := Hb.Led.mutNew5 L kx (by assumption) nx (by assumption)) | (replace L := Hb.Led.mutNew6 L kx (by assumption) nx (by assumption)) | (replace L := Hb.Led.mutNew7 L kx (by assumption) nx (by assumption)) | (replace L := Hb.Led.mutNew8 L kx (by assumption) nx (by assumption)) | (replace L := Hb.Led.mutNew9 L kx (by assumption) nx (by assumption)) | (replace L := Hb.Led.mutNew10 L kx (by assumption) nx (by assumption)) | (replace L := Hb.Led.mutNew11 L kx (by assumption) nx (by assumption)) | (replace L := Hb.Led.mutNew12 L kx (by assumption) nx (by assumption)) | (replace L := Hb.Led.mutNew13 L kx (by assumption) nx (by assumption)) | (replace L := Hb.Led.mutNew14 L kx (by assumption) nx (by assumption)) | (replace L := Hb.Led.mutNew15 L kx (by assumption) nx (by assumption)) | (replace L := Hb.Led.mutNew16 L kx (by assumption) nx (by assumption)) | (replace L := Hb.Led.mutNew17 L kx (by assumption) nx (by assumption)) | (replace L := Hb.Led.mutNew18 L kx (by assumption) nx (by assumption)) | (replace L := Hb.Led.mutNew19 L kx (by assumption) nx (by assumption))); clear kx nx))
local macro_rules | `(tactic| walk_at "hb len") => `(tactic| (simp only [List.length_cons, List.length_nil, List.length_append, List.length_map, List.length_set, List.length_reverse, List.length_replicate, List.length_range, List.length_take, List.length_drop] <;> omega))
local macro_rules | `(tactic| walk_at "hb size") => `(tactic| (exact Hb.small_le (by walk_at "hb len")))
local macro_rules | `(tactic| walk_at "hb sizelt") => `(tactic| (exact Hb.small_lt (by walk_at "hb len")))
local macro_rules | `(tactic| walk_at "hb at") => `(tactic| (exact rfl))
local macro_rules | `(tactic| walk_at "hb side") => `(tactic| (first | (show (0 : Int) < _; omega) | exact Or.inl ⟨by omega, by omega⟩ | exact Or.inr ⟨by omega, by omega⟩ | exact ⟨by omega, by omega⟩ | exact ⟨by decide, by decide, by decide⟩ | exact trivial))
local macro_rules | `(tactic| walk_at "hb 1") => `(tactic| (first
  | with_reducible refine Hb.r_nil ?_
  | with_reducible refine Hb.r_cons ?_
  | with_reducible refine Hb.r_seq ?_
  | with_reducible refine Hb.r_op ?_
  | with_reducible refine Hb.r_c ?_
  | with_reducible refine Hb.r_v0 ?_
  | with_reducible refine Hb.r_nx ?_
  | with_reducible refine Hb.r_call ?_
  | with_reducible refine Hb.r_v1 ?_
  | with_reducible refine Hb.r_asg ?_
  | with_reducible refine Hb.r_v2 ?_
  | with_reducible refine Hb.r_v3 ?_
  | with_reducible refine Hb.r_v4 ?_
  | with_reducible refine Hb.r_ret ?_
  | with_reducible refine Hb.r_bl ?_
  | with_reducible refine Hb.r_rt ?_
  | with_reducible refine Hb.r_test ?_
  | with_reducible refine Hb.r_I0 ?_
  | with_reducible refine Hb.r_v5 ?_
  | with_reducible refine Hb.r_lst ?_
  | with_reducible refine Hb.r_drop ?_
  | with_reducible refine Hb.r_next ?_
  | with_reducible refine Hb.r_nm3 ?_
  | with_reducible refine Hb.r_gcons ?_
  | with_reducible refine Hb.r_ifs ?_
  | with_reducible refine Hb.r_ilist ?_
  | with_reducible refine Hb.r_nm2 ?_
  | with_reducible refine Hb.r_nm4 ?_
  | with_reducible refine Hb.r_lc ?_
  | with_reducible refine Hb.r_v6 ?_
  | with_reducible refine Hb.r_for ?_
  | with_reducible refine Hb.r_cb ?_
  | with_reducible refine Hb.r_nm5 ?_
  | with_reducible refine Hb.r_int ?_
  | with_reducible refine Hb.r_ct ?_
  | with_reducible refine Hb.r_un ?_
  | with_reducible refine Hb.r_bm ?_
  | with_reducible refine Hb.r_v7 ?_
  | with_reducible refine Hb.r_gnil ?_
  | with_reducible refine Hb.r_nm6 ?_
  | with_reducible refine Hb.r_nm1 ?_
  | with_reducible refine Hb.r_nm7 ?_
  | with_reducible refine Hb.r_v8 ?_
  | with_reducible refine Hb.r_yes ?_
  | with_reducible refine Hb.r_bk ?_
  | with_reducible refine Hb.r_v9 ?_
  | with_reducible refine Hb.r_v10 ?_
  | with_reducible refine Hb.r_v11 ?_
  | with_reducible refine Hb.r_v12 ?_
  | with_reducible refine Hb.r_v13 ?_
  | with_reducible refine Hb.r_v14 ?_
  | with_reducible refine Hb.r_v15 ?_
  | with_reducible refine Hb.r_v16 ?_
  | with_reducible refine Hb.r_v17 ?_
  | with_reducible refine Hb.r_v18 ?_
  | with_reducible refine Hb.r_v19 ?_
  | with_reducible refine Hb.r_v20 ?_
  | with_reducible refine Hb.r_v21 ?_
  | with_reducible refine Hb.r_v22 ?_
  | with_reducible refine Hb.r_v23 ?_
  | with_reducible refine Hb.r_v24 ?_
  | with_reducible refine Hb.r_v25 ?_
  | with_reducible refine Hb.r_v26 ?_
  | with_reducible refine Hb.r_v27 ?_
  | with_reducible refine Hb.r_v28 ?_
  | with_reducible refine Hb.r_v29 ?_
  | with_reducible refine Hb.r_v30 ?_
  | with_reducible refine Hb.r_v31 ?_
  | with_reducible refine Hb.r_v32 ?_
  | with_reducible refine Hb.r_v33 ?_
  | with_reducible refine Hb.r_v34 ?_
  | with_reducible refine Hb.r_v35 ?_
  | with_reducible refine Hb.r_eqI ?_
  | with_reducible refine Hb.r_neI ?_
  | with_reducible refine Hb.r_U ?_
  | with_reducible refine Hb.r_nm0 ?_
  | with_reducible refine Hb.r_nm8 ?_
  | with_reducible refine Hb.r_nm9 ?_
  | with_reducible refine Hb.r_nm10 ?_
  | with_reducible refine Hb.r_nm11 ?_
  | with_reducible refine Hb.r_nm12 ?_
  | with_reducible refine Hb.r_nm13 ?_
  | with_reducible refine Hb.r_nm14 ?_
  | with_reducible refine Hb.r_nm15 ?_
  | with_reducible refine Hb.r_nm16 ?_
  | with_reducible refine Hb.r_nm17 ?_
  | with_reducible refine Hb.r_nm18 ?_
  | with_reducible refine Hb.r_nm19 ?_
  | with_reducible refine Hb.r_nm20 ?_
  | with_reducible refine Hb.r_nm21 ?_
  | with_reducible refine Hb.r_nm22 ?_
  | with_reducible refine Hb.r_nm23 ?_
  | with_reducible refine Hb.r_nm24 ?_
  | with_reducible refine Hb.r_nm25 ?_
  | with_reducible refine Hb.r_nm26 ?_
  | with_reducible refine Hb.r_nm27 ?_
  | with_reducible refine Hb.r_nm28 ?_
  | with_reducible refine Hb.r_nm29 ?_
  | with_reducible refine Hb.r_nm30 ?_
  | with_reducible refine Hb.r_nm31 ?_
  | with_reducible refine Hb.r_nm32 ?_
  | with_reducible refine Hb.r_nm33 ?_
  | with_reducible refine Hb.r_nm34 ?_
  | with_reducible refine Hb.r_nm35 ?_
  | with_reducible refine Hb.r_tup ?_
  | with_reducible refine Hb.r_sl ?_
  | with_reducible refine Hb.r_part ?_
  | with_reducible refine Hb.r_noPart ?_
  | with_reducible refine Hb.r_bm0 ?_
  | with_reducible refine Hb.r_sub ?_
  | with_reducible refine Hb.r_retN ?_
  | with_reducible refine Hb.r_cont ?_
  | with_reducible refine Hb.r_break ?_
  | with_reducible refine Hb.r_tB ?_
  | with_reducible refine Hb.r_not ?_
  | with_reducible refine Hb.r_and ?_
  | with_reducible refine Hb.r_or ?_
  | with_reducible refine Hb.r_andV ?_
  | with_reducible refine Hb.r_orV ?_
  | with_reducible refine Hb.r_notV ?_
  | with_reducible refine Hb.r_tIf ?_
  | with_reducible refine Hb.r_chain ?_
  | with_reducible refine Hb.r_chain3 ?_
  | with_reducible refine Hb.r_rng1 ?_
  | with_reducible refine Hb.r_rng2 ?_
  | with_reducible refine Hb.r_ienum ?_
  | with_reducible refine Hb.r_irev ?_
  | ((with_reducible refine' Hb.r_isiI ?ze ?_); (case ze => walk_at "hb kt"))
  | ((with_reducible refine' Hb.r_isiL ?zh ?ze ?_); (case zh => walk_at "hb h"); (case ze => walk_at "hb kt"))
  | ((with_reducible refine' Hb.r_isiT ?zh ?ze ?_); (case zh => walk_at "hb h"); (case ze => walk_at "hb kt"))
  | ((with_reducible refine' Hb.r_neSame ?zh ?ze ?zf ?_); (case zh => walk_at "hb sql"); (case ze => walk_at "hb sql"); (case zf => exact Hb.flat_ints _))
  | with_reducible refine Hb.r_iteT ?_
  | with_reducible refine Hb.r_dNN ?_
  | with_reducible refine Hb.r_dIN ?_
  | with_reducible refine Hb.r_dRN ?_
  | with_reducible refine Hb.r_dnNN ?_
  | with_reducible refine Hb.r_dnIN ?_
  | with_reducible refine Hb.r_dnRN ?_
  | with_reducible refine Hb.r_iteF ?_
  | with_reducible refine Hb.r_iteNT ?_
  | with_reducible refine Hb.r_iteNF ?_
  | with_reducible refine Hb.r_dget1 ?_
  | with_reducible refine Hb.r_raise ?_
  | with_reducible refine Hb.r_xcall ?_
  | with_reducible refine Hb.r_xif ?_
  | with_reducible refine Hb.r_try ?_
  | ((with_reducible refine' Hb.r_isiX ?zh ?zx ?ze ?_); (case zh => walk_at "hb h"); (case zx => assumption); (case ze => assumption))
  | ((with_reducible refine' Hb.r_isiXt ?zh ?zx ?ze ?_); (case zh => walk_at "hb h"); (case zx => assumption); (case ze => assumption))
  | with_reducible refine Hb.r_dput ?_
  | with_reducible refine Hb.r_isN ?_
  | ((with_reducible refine' Hb.r_isD ?zh ?_); (case zh => walk_at "hb h"))
  | ((with_reducible refine' Hb.r_getI ?zh ?_); (case zh => walk_at "hb h"))
  | ((with_reducible refine' Hb.r_putI ?zh ?zl (fun H' ex => ?_)); (case zh => walk_at "hb h"); (case zl => omega); walk_at "hb put")
  | with_reducible refine Hb.r_exI ?_
  | with_reducible refine Hb.r_exB ?_
  | ((with_reducible refine' Hb.r_I ?zc ?_); (case zc => walk_at "hb side"))
  | ((with_reducible refine' Hb.r_ixL ?zh ?za ?_); (case zh => walk_at "hb sql"); (case za => walk_at "hb at"))
  | ((with_reducible refine' Hb.r_ixT ?zh ?za ?_); (case zh => walk_at "hb sqt"); (case za => walk_at "hb at"))
  | ((with_reducible refine' Hb.r_new ?zs (fun p H' nx ex => ?_)); (case zs => walk_at "hb len"); walk_at "hb new")
  | ((with_reducible refine' Hb.r_dnew (fun p H' nx ex => ?_)); walk_at "hb new")
  | ((with_reducible refine' Hb.r_slL ?zh (fun p H' nx ex => ?_)); (case zh => walk_at "hb sql"); walk_at "hb new")
  | ((with_reducible refine' Hb.r_cat ?za ?zb ?zl (fun p H' nx ex => ?_)); (case za => walk_at "hb h"); (case zb => walk_at "hb h"); (case zl => walk_at "hb size"); walk_at "hb new")
  | ((with_reducible refine' Hb.r_tyL ?zh ?_); (case zh => walk_at "hb sql"))
  | ((with_reducible refine' Hb.r_append ?zh ?zl (fun H' ex => ?_)); (case zh => walk_at "hb h"); (case zl => walk_at "hb sizelt"); walk_at "hb put")
  | ((with_reducible refine' Hb.r_lenL ?zh ?_); (case zh => walk_at "hb sql"))
  | ((with_reducible refine' Hb.r_lenT ?zh ?_); (case zh => walk_at "hb sqt"))
  | ((with_reducible refine' Hb.r_gtup ?zh ?zl ?_); (case zh => walk_at "hb sqt"); (case zl => rfl))
  | ((with_reducible refine' Hb.r_listOf ?zh (fun p H' nx ex => ?_)); (case zh => walk_at "hb sql"); walk_at "hb new")
  | with_reducible refine Hb.r_dupd ?_
  | with_reducible refine Hb.r_sortItemsT ?_
  | with_reducible refine Hb.r_listVals ?_
  | with_reducible refine Hb.r_ikeys ?_
  | with_reducible refine Hb.r_setE ?_
  | with_reducible refine Hb.r_s2 ?_
  | with_reducible refine Hb.r_lenS ?_
  | with_reducible refine Hb.r_sortedS ?_
  | with_reducible refine Hb.r_dIn ?_
  | with_reducible refine Hb.r_dNotIn ?_
  | with_reducible refine Hb.r_dGet ?_
  | with_reducible refine Hb.r_dget2 ?_
  | ((with_reducible refine' Hb.r_inD ?zh ?_); (case zh => walk_at "hb h"))
  | ((with_reducible refine' Hb.r_I ?zc ?_); (case zc => (show (0 : Int) ≤ _; omega)))
  | with_reducible refine Hb.r_ex2 ?_
  | with_reducible refine Hb.r_augS ?_
  | with_reducible refine Hb.r_ssetT ?_
  | with_reducible refine Hb.r_izip ?_
  | with_reducible refine Hb.r_izipQ ?_
  | with_reducible refine Hb.r_dSN ?_
  | with_reducible refine Hb.r_dnSN ?_
  | ((with_reducible refine' Hb.r_isiS ?ze ?_); (case ze => walk_at "hb kt"))
  | with_reducible refine Hb.r_ipI ?_
  | with_reducible refine Hb.r_tryG ?_
  | ((with_reducible refine' Hb.r_truL ?zh ?_); (case zh => walk_at "hb sql"))
  | ((with_reducible refine' Hb.r_extend ?zh ?ze ?zl (fun H' ex => ?_)); (case zh => walk_at "hb h"); (case ze => walk_at "hb h"); (case zl => walk_at "hb size"); walk_at "hb put")
  | with_reducible refine Hb.r_revT ?_
  | with_reducible refine Hb.r_lrngT ?_
  | ((with_reducible refine' Hb.r_rev ?zh (fun p H' nx ex => ?_)); (case zh => walk_at "hb sql"); walk_at "hb new")
  | ((with_reducible refine' Hb.r_lrng ?ze ?zl (fun p H' nx ex => ?_)); (case ze => omega); (case zl => omega); walk_at "hb new")
  | ((with_reducible refine' Hb.r_rep1 ?zh ?za ?zb (fun p H' nx ex => ?_)); (case zh => walk_at "hb h"); (case za => omega); (case zb => omega); walk_at "hb new")
  | ((with_reducible refine' Hb.r_insert ?zh ?za ?zl (fun H' ex => ?_)); (case zh => walk_at "hb h"); (case za => exact ⟨by omega, by omega⟩); (case zl => walk_at "hb sizelt"); walk_at "hb put")))
local macro_rules | `(tactic| walk_at "hb kt") => `(tactic| (first | exact Hb.kt_int_bool | exact Hb.kt_int_int | exact Hb.kt_int_str | exact Hb.kt_int_tuple | exact Hb.kt_int_list | exact Hb.kt_list_bool | exact Hb.kt_list_int | exact Hb.kt_list_str | exact Hb.kt_list_tuple | exact Hb.kt_list_list | exact Hb.kt_tuple_bool | exact Hb.kt_tuple_int | exact Hb.kt_tuple_str | exact Hb.kt_tuple_tuple | exact Hb.kt_tuple_list | exact Hb.kt_str_bool | exact Hb.kt_str_int | exact Hb.kt_str_str | exact Hb.kt_str_tuple | exact Hb.kt_str_list | exact Hb.kt_bool_bool | exact Hb.kt_bool_int | exact Hb.kt_bool_str | exact Hb.kt_bool_tuple | exact Hb.kt_bool_list | exact Hb.kt_NoneType_bool | exact Hb.kt_NoneType_int | exact Hb.kt_NoneType_str | exact Hb.kt_NoneType_tuple | exact Hb.kt_NoneType_list))
local macro_rules | `(tactic| walk_at "take") => `(tactic| ((refine' uTake ?zh ?za ?zb (fun ρ z H' hz0 hz1 ex => ?_)); (case zh => walk_at "hb h"); (case za => first | omega | decide | (walk_at "hb len")); (case zb => first | omega | decide | (walk_at "hb len")); walk_at "hb put"))
local macro_rules | `(tactic| walk_at "go") => `(tactic| (repeat (first
  | with_reducible refine Hb.r_nil ?_
  | with_reducible refine Hb.r_cons ?_
  | with_reducible refine Hb.r_seq ?_
  | with_reducible refine Hb.r_op ?_
  | with_reducible refine Hb.r_c ?_
  | with_reducible refine Hb.r_v0 ?_
  | with_reducible refine Hb.r_nx ?_
  | with_reducible refine Hb.r_call ?_
  | with_reducible refine Hb.r_v1 ?_
  | with_reducible refine Hb.r_asg ?_
  | with_reducible refine Hb.r_v2 ?_
  | with_reducible refine Hb.r_v3 ?_
  | with_reducible refine Hb.r_v4 ?_
  | with_reducible refine Hb.r_ret ?_
  | with_reducible refine Hb.r_bl ?_
  | with_reducible refine Hb.r_rt ?_
  | with_reducible refine Hb.r_test ?_
  | with_reducible refine Hb.r_I0 ?_
  | with_reducible refine Hb.r_v5 ?_
  | with_reducible refine Hb.r_lst ?_
  | with_reducible refine Hb.r_drop ?_
  | with_reducible refine Hb.r_next ?_
  | with_reducible refine Hb.r_nm3 ?_
  | with_reducible refine Hb.r_gcons ?_
  | with_reducible refine Hb.r_ifs ?_
  | with_reducible refine Hb.r_ilist ?_
  | with_reducible refine Hb.r_nm2 ?_
  | with_reducible refine Hb.r_nm4 ?_
  | with_reducible refine Hb.r_lc ?_
  | with_reducible refine Hb.r_v6 ?_
  | with_reducible refine Hb.r_for ?_
  | with_reducible refine Hb.r_cb ?_
  | with_reducible refine Hb.r_nm5 ?_
  | with_reducible refine Hb.r_int ?_
  | with_reducible refine Hb.r_ct ?_
  | with_reducible refine Hb.r_un ?_
  | with_reducible refine Hb.r_bm ?_
  | with_reducible refine Hb.r_v7 ?_
  | with_reducible refine Hb.r_gnil ?_
  | with_reducible refine Hb.r_nm6 ?_
  | with_reducible refine Hb.r_nm1 ?_
  | with_reducible refine Hb.r_nm7 ?_
  | with_reducible refine Hb.r_v8 ?_
  | with_reducible refine Hb.r_yes ?_
  | with_reducible refine Hb.r_bk ?_
  | with_reducible refine Hb.r_v9 ?_
  | with_reducible refine Hb.r_v10 ?_
  | with_reducible refine Hb.r_v11 ?_
  | with_reducible refine Hb.r_v12 ?_
  | with_reducible refine Hb.r_v13 ?_
  | with_reducible refine Hb.r_v14 ?_
  | with_reducible refine Hb.r_v15 ?_
  | with_reducible refine Hb.r_v16 ?_
  | with_reducible refine Hb.r_v17 ?_
  | with_reducible refine Hb.r_v18 ?_
  | with_reducible refine Hb.r_v19 ?_
  | with_reducible refine Hb.r_v20 ?_
  | with_reducible refine Hb.r_v21 ?_
  | with_reducible refine Hb.r_v22 ?_
  | with_reducible refine Hb.r_v23 ?_
  | with_reducible refine Hb.r_v24 ?_
  | with_reducible refine Hb.r_v25 ?_
  | with_reducible refine Hb.r_v26 ?_
  | with_reducible refine Hb.r_v27 ?_
  | with_reducible refine Hb.r_v28 ?_
  | with_reducible refine Hb.r_v29 ?_
  | with_reducible refine Hb.r_v30 ?_
  | with_reducible refine Hb.r_v31 ?_
  | with_reducible refine Hb.r_v32 ?_
  | with_reducible refine Hb.r_v33 ?_
  | with_reducible refine Hb.r_v34 ?_
  | with_reducible refine Hb.r_v35 ?_
  | with_reducible refine Hb.r_eqI ?_
  | with_reducible refine Hb.r_neI ?_
  | with_reducible refine Hb.r_U ?_
  | with_reducible refine Hb.r_nm0 ?_
  | with_reducible refine Hb.r_nm8 ?_
  | with_reducible refine Hb.r_nm9 ?_
  | with_reducible refine Hb.r_nm10 ?_
  | with_reducible refine Hb.r_nm11 ?_
  | with_reducible refine Hb.r_nm12 ?_
  | with_reducible refine Hb.r_nm13 ?_
  | with_reducible refine Hb.r_nm14 ?_
  | with_reducible refine Hb.r_nm15 ?_
  | with_reducible refine Hb.r_nm16 ?_
  | with_reducible refine Hb.r_nm17 ?_
  | with_reducible refine Hb.r_nm18 ?_
  | with_reducible refine Hb.r_nm19 ?_
  | with_reducible refine Hb.r_nm20 ?_
  | with_reducible refine Hb.r_nm21 ?_
  | with_reducible refine Hb.r_nm22 ?_
  | with_reducible refine Hb.r_nm23 ?_
  | with_reducible refine Hb.r_nm24 ?_
  | with_reducible refine Hb.r_nm25 ?_
  | with_reducible refine Hb.r_nm26 ?_
  | with_reducible refine Hb.r_nm27 ?_
  | with_reducible refine Hb.r_nm28 ?_
  | with_reducible refine Hb.r_nm29 ?_
  | with_reducible refine Hb.r_nm30 ?_
  | with_reducible refine Hb.r_nm31 ?_
  | with_reducible refine Hb.r_nm32 ?_
  | with_reducible refine Hb.r_nm33 ?_
  | with_reducible refine Hb.r_nm34 ?_
  | with_reducible refine Hb.r_nm35 ?_
  | with_reducible refine Hb.r_tup ?_
  | with_reducible refine Hb.r_sl ?_
  | with_reducible refine Hb.r_part ?_
  | with_reducible refine Hb.r_noPart ?_
  | with_reducible refine Hb.r_bm0 ?_
  | with_reducible refine Hb.r_sub ?_
  | with_reducible refine Hb.r_retN ?_
  | with_reducible refine Hb.r_cont ?_
  | with_reducible refine Hb.r_break ?_
  | with_reducible refine Hb.r_tB ?_
  | with_reducible refine Hb.r_not ?_
  | with_reducible refine Hb.r_and ?_
  | with_reducible refine Hb.r_or ?_
  | with_reducible refine Hb.r_andV ?_
  | with_reducible refine Hb.r_orV ?_
  | with_reducible refine Hb.r_notV ?_
  | with_reducible refine Hb.r_tIf ?_
  | with_reducible refine Hb.r_chain ?_
  | with_reducible refine Hb.r_chain3 ?_
  | with_reducible refine Hb.r_rng1 ?_
  | with_reducible refine Hb.r_rng2 ?_
  | with_reducible refine Hb.r_ienum ?_
  | with_reducible refine Hb.r_irev ?_
  | ((with_reducible refine' Hb.r_isiI ?ze ?_); (case ze => walk_at "hb kt"))
  | ((with_reducible refine' Hb.r_isiL ?zh ?ze ?_); (case zh => walk_at "hb h"); (case ze => walk_at "hb kt"))
  | ((with_reducible refine' Hb.r_isiT ?zh ?ze ?_); (case zh => walk_at "hb h"); (case ze => walk_at "hb kt"))
  | ((with_reducible refine' Hb.r_neSame ?zh ?ze ?zf ?_); (case zh => walk_at "hb sql"); (case ze => walk_at "hb sql"); (case zf => exact Hb.flat_ints _))
  | with_reducible refine Hb.r_iteT ?_
  | with_reducible refine Hb.r_dNN ?_
  | with_reducible refine Hb.r_dIN ?_
  | with_reducible refine Hb.r_dRN ?_
  | with_reducible refine Hb.r_dnNN ?_
  | with_reducible refine Hb.r_dnIN ?_
  | with_reducible refine Hb.r_dnRN ?_
  | with_reducible refine Hb.r_iteF ?_
  | with_reducible refine Hb.r_iteNT ?_
  | with_reducible refine Hb.r_iteNF ?_
  | with_reducible refine Hb.r_dget1 ?_
  | with_reducible refine Hb.r_raise ?_
  | with_reducible refine Hb.r_xcall ?_
  | with_reducible refine Hb.r_xif ?_
  | with_reducible refine Hb.r_try ?_
  | ((with_reducible refine' Hb.r_isiX ?zh ?zx ?ze ?_); (case zh => walk_at "hb h"); (case zx => assumption); (case ze => assumption))
  | ((with_reducible refine' Hb.r_isiXt ?zh ?zx ?ze ?_); (case zh => walk_at "hb h"); (case zx => assumption); (case ze => assumption))
  | with_reducible refine Hb.r_dput ?_
  | with_reducible refine Hb.r_isN ?_
  | ((with_reducible refine' Hb.r_isD ?zh ?_); (case zh => walk_at "hb h"))
  | ((with_reducible refine' Hb.r_getI ?zh ?_); (case zh => walk_at "hb h"))
  | ((with_reducible refine' Hb.r_putI ?zh ?zl (fun H' ex => ?_)); (case zh => walk_at "hb h"); (case zl => omega); walk_at "hb put")
  | with_reducible refine Hb.r_exI ?_
  | with_reducible refine Hb.r_exB ?_
  | ((with_reducible refine' Hb.r_I ?zc ?_); (case zc => walk_at "hb side"))
  | ((with_reducible refine' Hb.r_ixL ?zh ?za ?_); (case zh => walk_at "hb sql"); (case za => walk_at "hb at"))
  | ((with_reducible refine' Hb.r_ixT ?zh ?za ?_); (case zh => walk_at "hb sqt"); (case za => walk_at "hb at"))
  | ((with_reducible refine' Hb.r_new ?zs (fun p H' nx ex => ?_)); (case zs => walk_at "hb len"); walk_at "hb new")
  | ((with_reducible refine' Hb.r_dnew (fun p H' nx ex => ?_)); walk_at "hb new")
  | ((with_reducible refine' Hb.r_slL ?zh (fun p H' nx ex => ?_)); (case zh => walk_at "hb sql"); walk_at "hb new")
  | ((with_reducible refine' Hb.r_cat ?za ?zb ?zl (fun p H' nx ex => ?_)); (case za => walk_at "hb h"); (case zb => walk_at "hb h"); (case zl => walk_at "hb size"); walk_at "hb new")
  | ((with_reducible refine' Hb.r_tyL ?zh ?_); (case zh => walk_at "hb sql"))
  | ((with_reducible refine' Hb.r_append ?zh ?zl (fun H' ex => ?_)); (case zh => walk_at "hb h"); (case zl => walk_at "hb sizelt"); walk_at "hb put")
  | ((with_reducible refine' Hb.r_lenL ?zh ?_); (case zh => walk_at "hb sql"))
  | ((with_reducible refine' Hb.r_lenT ?zh ?_); (case zh => walk_at "hb sqt"))
  | ((with_reducible refine' Hb.r_gtup ?zh ?zl ?_); (case zh => walk_at "hb sqt"); (case zl => rfl))
  | ((with_reducible refine' Hb.r_listOf ?zh (fun p H' nx ex => ?_)); (case zh => walk_at "hb sql"); walk_at "hb new")
  | with_reducible refine Hb.r_dupd ?_
  | with_reducible refine Hb.r_sortItemsT ?_
  | with_reducible refine Hb.r_listVals ?_
  | with_reducible refine Hb.r_ikeys ?_
  | with_reducible refine Hb.r_setE ?_
  | with_reducible refine Hb.r_s2 ?_
  | with_reducible refine Hb.r_lenS ?_
  | with_reducible refine Hb.r_sortedS ?_
  | with_reducible refine Hb.r_dIn ?_
  | with_reducible refine Hb.r_dNotIn ?_
  | with_reducible refine Hb.r_dGet ?_
  | with_reducible refine Hb.r_dget2 ?_
  | ((with_reducible refine' Hb.r_inD ?zh ?_); (case zh => walk_at "hb h"))
  | ((with_reducible refine' Hb.r_I ?zc ?_); (case zc => (show (0 : Int) ≤ _; omega)))
  | with_reducible refine Hb.r_ex2 ?_
  | with_reducible refine Hb.r_augS ?_
  | with_reducible refine Hb.r_ssetT ?_
  | with_reducible refine Hb.r_izip ?_
  | with_reducible refine Hb.r_izipQ ?_
  | with_reducible refine Hb.r_dSN ?_
  | with_reducible refine Hb.r_dnSN ?_
  | ((with_reducible refine' Hb.r_isiS ?ze ?_); (case ze => walk_at "hb kt"))
  | with_reducible refine Hb.r_ipI ?_
  | with_reducible refine Hb.r_tryG ?_
  | ((with_reducible refine' Hb.r_truL ?zh ?_); (case zh => walk_at "hb sql"))
  | ((with_reducible refine' Hb.r_extend ?zh ?ze ?zl (fun H' ex => ?_)); (case zh => walk_at "hb h"); (case ze => walk_at "hb h"); (case zl => walk_at "hb size"); walk_at "hb put")
  | with_reducible refine Hb.r_revT ?_
  | with_reducible refine Hb.r_lrngT ?_
  | ((with_reducible refine' Hb.r_rev ?zh (fun p H' nx ex => ?_)); (case zh => walk_at "hb sql"); walk_at "hb new")
  | ((with_reducible refine' Hb.r_lrng ?ze ?zl (fun p H' nx ex => ?_)); (case ze => omega); (case zl => omega); walk_at "hb new")
  | ((with_reducible refine' Hb.r_rep1 ?zh ?za ?zb (fun p H' nx ex => ?_)); (case zh => walk_at "hb h"); (case za => omega); (case zb => omega); walk_at "hb new")
  | ((with_reducible refine' Hb.r_insert ?zh ?za ?zl (fun H' ex => ?_)); (case zh => walk_at "hb h"); (case za => exact ⟨by omega, by omega⟩); (case zl => walk_at "hb sizelt"); walk_at "hb put"))))
local macro_rules | `(tactic| walk_at "next") => `(tactic| ((refine' uNext ?zh ?za ?zb (fun ρ z H' hz0 hz1 ex => ?_)); (case zh => walk_at "hb h"); (case za => first | omega | decide | (walk_at "hb len")); (case zb => first | omega | decide | (walk_at "hb len")); walk_at "hb put"))
local macro_rules | `(tactic| walk_at "stir") => `(tactic| ((refine' uStir ?za ?zb (fun z hz0 hz1 => ?_)); (case za => first | omega | decide); (case zb => first | omega | decide)))
local macro_rules | `(tactic| walk_at "wt") => `(tactic| (walk_at "go"; repeat (first | (with_reducible refine Hb.r_m0 ?_; walk_at "go") | (with_reducible refine Hb.r_m1 ?_; walk_at "go") | (with_reducible refine Hb.e_and ?_; walk_at "go") | (with_reducible refine Hb.e_0 ?_; walk_at "go") | (with_reducible refine Hb.e_1 ?_; walk_at "go") | (with_reducible refine Hb.e_ss ?_; walk_at "go") | (with_reducible refine Hb.e_s ?_; walk_at "go") | (with_reducible refine Hb.e_len ?_; walk_at "go") | (with_reducible refine Hb.r_fmt ?_; walk_at "go") | (with_reducible refine Hb.r_jcons ?_; walk_at "go"))))
set_option hygiene true

set_option Elab.async false
set_option linter.all false
set_option maxRecDepth 100000
set_option maxHeartbeats 4000000

namespace Hb
open PySem L2
structure Txt (mg : Str → Option Value) : Prop where
  b_range : mg "range" = none
  b_list : mg "list" = none
  b_max : mg "max" = none
  b_min : mg "min" = none
  b_len : mg "len" = none
  b_enumerate : mg "enumerate" = none
  b_isinstance : mg "isinstance" = none
  b_sorted : mg "sorted" = none
  b_set : mg "set" = none
  b_str : mg "str" = none
  b_tuple : mg "tuple" = none
  b_int : mg "int" = none
  b_bool : mg "bool" = none
  b_zip : mg "zip" = none
  b_reversed : mg "reversed" = none
  b_sum : mg "sum" = none
  b_abs : mg "abs" = none
  b_any : mg "any" = none
  b_all : mg "all" = none
  b_dict : mg "dict" = none
def spStir : Sp := fun vs H Q _ => ∃ c k : Int, vs = [.int c, .int k] ∧ 0 ≤ k ∧ k ≤ 100000 ∧ ∀ z, 0 ≤ z → z < 65536 → Q (.int z) H
theorem uStir {c k : Int} {H : Hp} {Q : VK} {E : XK} (h1 : 0 ≤ k) (h2 : k ≤ 100000) (h : ∀ z, 0 ≤ z → z < 65536 → Q (.int z) H) : spStir ([.int c, .int k] ++ []) H Q E := ⟨c, k, rfl, h1, h2, h⟩
abbrev natsV (ks : List Nat) : List V := ks.map fun (k : Nat) => V.int k
def spOrder : Sp := fun vs H Q _ => ∃ c b m : Int, vs = [.int c, .int b, .int m] ∧ 0 ≤ b ∧ b ≤ 1000 ∧ 0 ≤ m ∧ m ≤ 1000 ∧
  ∀ (ks : List Nat) q H', ks.Perm (List.range m.toNat) → H q = none → H' q = some (.lst (natsV ks)) → Same H H' → Q (.ref q) H'
section
variable {P : Program} {w : World} {K : PySem.W.Frag} {mg : Str → Option Value} {base : Heap}
theorem perm_ins {ks : List Nat} {i j : Nat} (h : ks.Perm (List.range i)) : (ks.take j ++ i :: ks.drop j).Perm (List.range (i + 1)) := by
  rw [List.range_succ]
  refine List.perm_middle.trans ?_
  rw [List.take_append_drop]
  exact (List.Perm.cons i h).trans (List.perm_append_singleton i (List.range i)).symm
/-- the first cells, and one where there is none -/
def spCells (K : PySem.W.Frag) : Sp := fun vs H Q _ => ∃ (a : Addr) (ns : List Int) (m : Int), vs = [.ref a, .int m] ∧ SqL K H a (ns.map V.int) ∧ ns.length ≤ 1000 ∧ 1 ≤ m ∧ m ≤ 100 ∧
  ∀ (cs : List Int) q H', cs.length ≤ m.toNat → H q = none → H' q = some (.lst (cs.map V.int)) → Same H H' → Q (.ref q) H'
/-- a tree of the law's: its places in an order in which each has its parent ahead of it -/
structure IsTr (ps : List (Option Nat)) (called : List Nat) : Prop where
  perm : called.Perm (List.range ps.length)
  pos : 0 < ps.length
  root : ∀ r, called[0]? = some r → ps[r]? = some none
  up : ∀ k x, 0 < k → called[k]? = some x → ∃ j y, j < k ∧ called[j]? = some y ∧ ps[x]? = some (some y)
def spTree : Sp := fun vs H Q _ => ∃ c m : Int, vs = [.int c, .int m] ∧ 1 ≤ m ∧ m ≤ 200 ∧
  ∀ (ps : List (Option Nat)) (ks : List Nat) q H', IsTr ps ks → ps.length ≤ m.toNat → H q = none → H' q = some (.lst (ps.map oV)) → Same H H' → Q (.ref q) H'
theorem r_nat {H : Hp} {Q : VK} {K : PySem.W.Frag} {a : Addr} {ks : List Nat} {t : Int} (h : SqL K H a (natsV ks)) (h0 : 0 ≤ t) (h1 : t < ks.length) (k : ∀ x : Nat, ks[t.toNat]? = some x → Q (.int x) H) : rIxL K (.ref a) (.int t) H Q := by
  refine r_sel h h0 (by rw [natsV, List.length_map]; exact h1) fun v e _ => ?_
  rw [natsV, List.getElem?_map] at e
  cases ez : ks[t.toNat]? with
  | none => rw [ez] at e; cases e
  | some x =>
    rw [ez] at e
    cases e
    exact k x ez
theorem uOrder {c b m : Int} {H : Hp} {Q : VK} {E : XK} (h0 : 0 ≤ b) (h1 : b ≤ 1000) (h2 : 0 ≤ m) (h3 : m ≤ 1000) (k : ∀ (ks : List Nat) q H', ks.Perm (List.range m.toNat) → H q = none → H' q = some (.lst (natsV ks)) → Same H H' → Q (.ref q) H') :
    spOrder ([.int c, .int b, .int m] ++ []) H Q E := ⟨c, b, m, rfl, h0, h1, h2, h3, k⟩
/-- the tree as far as i places have their parents -/
structure TrTo (n i : Nat) (ps : List (Option Nat)) (ks : List Nat) : Prop where
  len : ps.length = n
  perm : ks.Perm (List.range n)
  rest : ∀ k x, (k = 0 ∨ i ≤ k) → ks[k]? = some x → ps[x]? = some none
  up : ∀ k x, 0 < k → k < i → ks[k]? = some x → ∃ j y, j < k ∧ ks[j]? = some y ∧ ps[x]? = some (some y)
theorem TrTo.lt {n i : Nat} {ps : List (Option Nat)} {ks : List Nat} (h : TrTo n i ps ks) {k x : Nat} (e : ks[k]? = some x) : x < n := List.mem_range.mp (h.perm.mem_iff.mp (List.mem_of_getElem? e))
theorem TrTo.start {n : Nat} {ks : List Nat} (h : ks.Perm (List.range n)) : TrTo n 1 (List.replicate n none) ks := by
  refine ⟨List.length_replicate, h, fun k x _ e => ?_, fun k x h0 h1 => absurd h0 (by omega)⟩
  have hx : x < n := List.mem_range.mp (h.mem_iff.mp (List.mem_of_getElem? e))
  rw [List.getElem?_replicate, if_pos hx]
theorem TrTo.step {n i j x y : Nat} {ps : List (Option Nat)} {ks : List Nat} (h : TrTo n i ps ks) (h0 : 0 < i) (hj : j < i) (ex : ks[i]? = some x) (ey : ks[j]? = some y) : TrTo n (i + 1) (ps.set x (some y)) ks := by
  have nd : ks.Nodup := h.perm.nodup_iff.mpr List.nodup_range
  have ne : ∀ k z, k ≠ i → ks[k]? = some z → z ≠ x := fun k z hk e1 e2 => hk ((List.getElem?_inj (List.getElem?_eq_some_iff.mp e1).1 nd).mp (by rw [e1, ex, e2]))
  refine ⟨by rw [List.length_set]; exact h.len, h.perm, fun k z hk e => ?_, fun k z k0 k1 e => ?_⟩
  · rw [List.getElem?_set_ne (fun q => ne k z (by omega) e q.symm)]
    exact h.rest k z (by omega) e
  · by_cases hk : k = i
    · subst hk
      rw [ex] at e
      cases e
      refine ⟨j, y, hj, ey, ?_⟩
      rw [List.getElem?_set_self (by rw [h.len]; exact h.lt ex)]
    · obtain ⟨j', y', a1, a2, a3⟩ := h.up k z k0 (by omega) e
      exact ⟨j', y', a1, a2, by rw [List.getElem?_set_ne (fun q => ne k z hk e q.symm)]; exact a3⟩
theorem TrTo.tr {n : Nat} {ps : List (Option Nat)} {ks : List Nat} (h : TrTo n n ps ks) (h0 : 0 < n) : IsTr ps ks := by
  refine ⟨by rw [h.len]; exact h.perm, by rw [h.len]; exact h0, fun r e => h.rest 0 r (.inl rfl) e, fun k x k0 e => ?_⟩
  have := (List.getElem?_eq_some_iff.mp e).1
  have hl : ks.length = n := by rw [h.perm.length_eq, List.length_range]
  exact h.up k x k0 (by omega) e
end
def spPlace : Sp := fun vs H Q _ => ∃ (a : Addr) (ps : List (Option Nat)) (x : Int), vs = [.ref a, .int x] ∧ H a = some (.lst (ps.map oV)) ∧ ps.length ≤ 1000 ∧ Q (.bl (decide (0 ≤ x ∧ x < ps.length))) H
section
variable {P : Program} {w : World} {K : PySem.W.Frag} {mg : Str → Option Value} {base : Heap}
/-- from a place up to the root: a list of places, none empty -/
def spUp : Sp := fun vs H Q _ => ∃ (a : Addr) (ps : List (Option Nat)) (ks : List Nat) (x : Nat), vs = [.ref a, .int x] ∧ H a = some (.lst (ps.map oV)) ∧ ps.length ≤ 200 ∧ IsTr ps ks ∧ x < ps.length ∧
  ∀ (us : List Nat) q H', us.length ≤ 400 → H q = none → H' q = some (.lst (natsV us)) → Same H H' → Q (.ref q) H'
/-- each place stands somewhere in the order, and its parent ahead of it -/
theorem IsTr.at {ps : List (Option Nat)} {ks : List Nat} (h : IsTr ps ks) {x : Nat} (hx : x < ps.length) : ∃ k, k < ps.length ∧ ks[k]? = some x := by
  obtain ⟨k, hk, e⟩ := List.mem_iff_getElem.mp (h.perm.mem_iff.mpr (List.mem_range.mpr hx))
  exact ⟨k, by rw [← List.length_range (n := ps.length), ← h.perm.length_eq]; exact hk, by rw [← e]; exact List.getElem?_eq_getElem hk⟩
theorem IsTr.ltp {ps : List (Option Nat)} {ks : List Nat} (h : IsTr ps ks) {k x : Nat} (e : ks[k]? = some x) : x < ps.length := List.mem_range.mp (h.perm.mem_iff.mp (List.mem_of_getElem? e))
theorem IsTr.upAt {ps : List (Option Nat)} {ks : List Nat} (h : IsTr ps ks) {k x y : Nat} (e : ks[k]? = some x) (ey : ps[x]? = some (some y)) : ∃ j, j < k ∧ ks[j]? = some y := by
  by_cases hk : k = 0
  · subst hk
    have := h.root x e
    rw [this] at ey
    cases ey
  · obtain ⟨j, z, hj, ez, e2⟩ := h.up k x (by omega) e
    rw [e2] at ey
    cases ey
    exact ⟨j, hj, ez⟩
end
def rootsTo (ps : List (Option Nat)) (i : Nat) : List Nat := (List.range i).filter fun j => decide (ps[j]? = some none)
theorem rootsTo_succ (ps : List (Option Nat)) (i : Nat) : rootsTo ps (i + 1) = rootsTo ps i ++ if ps[i]? = some none then [i] else [] := by
  unfold rootsTo
  rw [List.range_succ, List.filter_append]
  by_cases h : ps[i]? = some none
  · rw [if_pos h]; simp [h]
  · rw [if_neg h]; simp [h]
theorem IsTr.roots {ps : List (Option Nat)} {ks : List Nat} (h : IsTr ps ks) : ∃ r, ks[0]? = some r ∧ rootsTo ps ps.length = [r] := by
  have hl : ks.length = ps.length := by rw [h.perm.length_eq, List.length_range]
  have hp := h.pos
  refine ⟨ks[0], List.getElem?_eq_getElem (by omega), ?_⟩
  have e0 : ks[0]? = some ks[0] := List.getElem?_eq_getElem (by omega)
  have p : (rootsTo ps ps.length).Perm [ks[0]] := by
    refine (List.perm_ext_iff_of_nodup (List.nodup_range.filter _) (by simp)).mpr fun x => ?_
    rw [List.mem_filter, List.mem_range, decide_eq_true_eq, List.mem_singleton]
    refine ⟨fun ⟨hx, e⟩ => ?_, fun e => ?_⟩
    · obtain ⟨k, hk, ek⟩ := h.at hx
      by_cases k0 : k = 0
      · subst k0
        rw [e0] at ek
        exact (Option.some.inj ek).symm
      · obtain ⟨j, y, _, _, e2⟩ := h.up k x (by omega) ek
        rw [e2] at e
        cases e
    · subst e
      exact ⟨h.ltp e0, h.root _ e0⟩
  exact List.perm_singleton.mp p
def spRoot : Sp := fun vs H Q _ => ∃ (a : Addr) (ps : List (Option Nat)) (ks : List Nat), vs = [.ref a] ∧ H a = some (.lst (ps.map oV)) ∧ ps.length ≤ 200 ∧ IsTr ps ks ∧
  ∀ (r : Nat) H', ks[0]? = some r → Same H H' → Q (.int r) H'
section
variable {P : Program} {w : World} {K : PySem.W.Frag} {mg : Str → Option Value} {base : Heap}
end
def kidsTo (ps : List (Option Nat)) (i j : Nat) : List Nat := (List.range i).filter fun x => decide (ps[x]? = some (some j))
theorem kidsTo_succ (ps : List (Option Nat)) (i j : Nat) : kidsTo ps (i + 1) j = kidsTo ps i j ++ if ps[i]? = some (some j) then [i] else [] := by
  unfold kidsTo
  rw [List.range_succ, List.filter_append]
  by_cases h : ps[i]? = some (some j)
  · rw [if_pos h]; simp [h]
  · rw [if_neg h]; simp [h]
theorem kidsTo_len (ps : List (Option Nat)) (i j : Nat) : (kidsTo ps i j).length ≤ i := by
  unfold kidsTo
  exact Nat.le_trans (List.length_filter_le _ _) (by simp)
/-- the lists of children as far as i places are put -/
def rowsTo (ps : List (Option Nat)) (i : Nat) : List (List V) := (List.range ps.length).map fun j => natsV (kidsTo ps i j)
theorem rowsTo_zero (ps : List (Option Nat)) : rowsTo ps 0 = List.replicate ps.length [] := by
  unfold rowsTo kidsTo
  rw [List.eq_replicate_iff]
  refine ⟨by simp, fun x hx => ?_⟩
  obtain ⟨j, _, rfl⟩ := List.mem_map.mp hx
  rfl
theorem rowsTo_at {ps : List (Option Nat)} {i j : Nat} (h : j < ps.length) : (rowsTo ps i)[j]? = some (natsV (kidsTo ps i j)) := by
  unfold rowsTo
  rw [List.getElem?_map, List.getElem?_range h]
  rfl
theorem rowsTo_none {ps : List (Option Nat)} {i : Nat} (h : ps[i]? = some none) : rowsTo ps (i + 1) = rowsTo ps i := by
  unfold rowsTo
  refine List.map_congr_left fun j _ => ?_
  rw [kidsTo_succ, if_neg (by rw [h]; intro z; cases z), List.append_nil]
theorem rowsTo_some {ps : List (Option Nat)} {i y : Nat} (h : ps[i]? = some (some y)) : rowsTo ps (i + 1) = (rowsTo ps i).set y (natsV (kidsTo ps i y) ++ [V.int (i : Nat)]) := by
  refine List.ext_getElem? fun j => ?_
  rw [List.getElem?_set]
  have hl : (rowsTo ps i).length = ps.length := by simp [rowsTo]
  by_cases hj : j < ps.length
  · rw [rowsTo_at hj, kidsTo_succ, h]
    by_cases e : y = j
    · subst e
      rw [if_pos rfl, if_pos rfl, if_pos (by rw [hl]; exact hj), natsV, List.map_append]
      rfl
    · rw [if_neg (fun z => e (by injection z with z; injection z)), List.append_nil, if_neg e, rowsTo_at hj]
  · have h1 : (rowsTo ps (i + 1))[j]? = none := List.getElem?_eq_none (by simp [rowsTo]; omega)
    have h2 : (rowsTo ps i)[j]? = none := List.getElem?_eq_none (by simp [rowsTo]; omega)
    rw [h1, h2]
    split
    · rw [if_neg (by rw [hl]; omega)]
    · rfl
/-- all parents are places -/
def Ups (ps : List (Option Nat)) : Prop := ∀ (i y : Nat), ps[i]? = some (some y) → y < ps.length
def spKids : Sp := fun vs H Q _ => ∃ (a : Addr) (ps : List (Option Nat)), vs = [.ref a] ∧ H a = some (.lst (ps.map oV)) ∧ ps.length ≤ 200 ∧ Ups ps ∧
  ∀ (q : Addr) (as : List Addr) H', as.length = ps.length → H q = none → H' q = some (.lst (as.map V.ref)) → (∀ (j : Nat) (x : Addr), as[j]? = some x → H x = none ∧ H' x = some (.lst (natsV (kidsN ps j)))) → Same H H' → Q (.ref q) H'
section
variable {H : Hp} {Q : VK} {E : XK} {a : Addr} {ps : List (Option Nat)} {x : Int}
theorem uPlace (h : H a = some (.lst (ps.map oV))) (hl : ps.length ≤ 1000) (k : Q (.bl (decide (0 ≤ x ∧ x < ps.length))) H) : spPlace ([.ref a, .int x] ++ []) H Q E := ⟨a, ps, x, rfl, h, hl, k⟩
theorem uKids (h : H a = some (.lst (ps.map oV))) (hl : ps.length ≤ 200) (u : Ups ps)
    (k : ∀ (q : Addr) (as : List Addr) H', as.length = ps.length → H q = none → H' q = some (.lst (as.map V.ref)) → (∀ (j : Nat) (x : Addr), as[j]? = some x → H x = none ∧ H' x = some (.lst (natsV (kidsN ps j)))) → Same H H' → Q (.ref q) H') : spKids ([.ref a] ++ []) H Q E := ⟨a, ps, rfl, h, hl, u, k⟩
end
theorem opt_at {ps : List (Option Nat)} {i : Nat} {x : V} (hx : (ps.map oV)[i]? = some x) : ∃ o, ps[i]? = some o ∧ x = oV o := by
  rw [List.getElem?_map] at hx
  cases e : ps[i]? with
  | none => rw [e] at hx; cases hx
  | some o => rw [e] at hx; exact ⟨o, rfl, (Option.some.inj hx).symm⟩
section
variable {P : Program} {w : World} {K : PySem.W.Frag} {mg : Str → Option Value} {base : Heap}
end
/-- the walk by so many steps: what is told, what waits -/
def wk (ps : List (Option Nat)) (r : Nat) : Nat → List Nat × List Nat
  | 0 => ([], [r])
  | k + 1 => match wk ps r k with
    | (o, []) => (o, [])
    | (o, x :: S) => (o ++ [x], kidsN ps x ++ S)
theorem wk_step {ps : List (Option Nat)} {r k x : Nat} {o S : List Nat} (h : wk ps r k = (o, x :: S)) : wk ps r (k + 1) = (o ++ [x], kidsN ps x ++ S) := by
  show (match wk ps r k with | (o, []) => (o, []) | (o, x :: S) => (o ++ [x], kidsN ps x ++ S)) = _
  rw [h]
theorem IsTr.ups {ps : List (Option Nat)} {ks : List Nat} (h : IsTr ps ks) : Ups ps := fun i y e => by
  obtain ⟨k, _, ek⟩ := h.at (List.getElem?_eq_some_iff.mp e).1
  obtain ⟨j, _, ej⟩ := h.upAt ek e
  exact h.ltp ej
theorem same_none {H H' : Hp} {p : Addr} (s : Same H H') (h : H' p = none) : H p = none := by
  cases e : H p with
  | none => rfl
  | some o => rw [s p o e] at h; cases h
/-- the walk: all places in some order -/
def spWalk : Sp := fun vs H Q _ => ∃ (a : Addr) (ps : List (Option Nat)) (ks : List Nat), vs = [.ref a] ∧ H a = some (.lst (ps.map oV)) ∧ ps.length ≤ 200 ∧ IsTr ps ks ∧
  ∀ (r : Nat) q H', ks[0]? = some r → H q = none → H' q = some (.lst (natsV (wk ps r ps.length).1)) → Same H H' → Q (.ref q) H'
def spNeed : Sp := fun vs H Q _ => ∃ (a : Addr) (ps : List (Option Nat)) (ks : List Nat), vs = [.ref a] ∧ H a = some (.lst (ps.map oV)) ∧ ps.length ≤ 200 ∧ IsTr ps ks ∧
  ∀ H', Same H H' → Q .non H'
section
variable {H : Hp} {Q : VK} {E : XK} {a : Addr} {ps : List (Option Nat)} {ks : List Nat} {x : Int}
theorem uRoot (h : H a = some (.lst (ps.map oV))) (hl : ps.length ≤ 200) (ht : IsTr ps ks) (k : ∀ (r : Nat) H', ks[0]? = some r → Same H H' → Q (.int r) H') : spRoot ([.ref a] ++ []) H Q E := ⟨a, ps, ks, rfl, h, hl, ht, k⟩
theorem uWalk (h : H a = some (.lst (ps.map oV))) (hl : ps.length ≤ 200) (ht : IsTr ps ks) (k : ∀ (r : Nat) q H', ks[0]? = some r → H q = none → H' q = some (.lst (natsV (wk ps r ps.length).1)) → Same H H' → Q (.ref q) H') : spWalk ([.ref a] ++ []) H Q E := ⟨a, ps, ks, rfl, h, hl, ht, k⟩
theorem uNeed (h : H a = some (.lst (ps.map oV))) (hl : ps.length ≤ 200) (ht : IsTr ps ks) (k : ∀ H', Same H H' → Q .non H') : spNeed ([.ref a] ++ []) H Q E := ⟨a, ps, ks, rfl, h, hl, ht, k⟩
end
section
variable {P : Program} {w : World} {K : PySem.W.Frag} {mg : Str → Option Value} {base : Heap}
/-- of a place of a tree nothing is refused -/
def spNeedP : Sp := fun vs H Q _ => ∃ (a : Addr) (ps : List (Option Nat)) (ks : List Nat) (x : Nat), vs = [.ref a, .int x] ∧ H a = some (.lst (ps.map oV)) ∧ ps.length ≤ 200 ∧ IsTr ps ks ∧ x < ps.length ∧ ∀ H', Same H H' → Q .non H'
def spChildren : Sp := fun vs H Q _ => ∃ (a : Addr) (ps : List (Option Nat)) (ks : List Nat) (x : Nat), vs = [.ref a, .int x] ∧ H a = some (.lst (ps.map oV)) ∧ ps.length ≤ 200 ∧ IsTr ps ks ∧ x < ps.length ∧
  ∀ q H', H q = none → H' q = some (.lst (natsV (kidsN ps x))) → Same H H' → Q (.ref q) H'
end
def spLKids : Sp := fun vs H Q _ => ∃ (a : Addr) (ps : List (Option Nat)) (x : Nat), vs = [.ref a, .int x] ∧ H a = some (.lst (ps.map oV)) ∧ ps.length ≤ 200 ∧ ∀ q H', H q = none → H' q = some (.lst (natsV (kidsN ps x))) → Same H H' → Q (.ref q) H'
/-- the law's own walk -/
def spLWalk : Sp := fun vs H Q _ => ∃ (a : Addr) (ps : List (Option Nat)) (ks : List Nat), vs = [.ref a] ∧ H a = some (.lst (ps.map oV)) ∧ ps.length ≤ 200 ∧ IsTr ps ks ∧ ∀ (r : Nat) q H', ks[0]? = some r → H q = none → H' q = some (.lst (natsV (wk ps r ps.length).1)) → Same H H' → Q (.ref q) H'
def spSome : Sp := fun vs H Q _ => ∃ (c k : Int) (n : Nat), vs = [.int c, .int k, .int n] ∧ 0 ≤ k ∧ k ≤ 9000 ∧ 1 ≤ n ∧ n ≤ 200 ∧ ∀ (ms : List Nat) q H', ms.length ≤ 10 → (∀ x ∈ ms, x < n) → H q = none → H' q = some (.lst (natsV ms)) → Same H H' → Q (.ref q) H'
/-- the same whole numbers, the same lists of them -/
inductive Sam (H : Hp) : Nat → V → V → Prop
  | non {n : Nat} : Sam H (n + 1) .non .non
  | str {n : Nat} (x : Str) : Sam H (n + 1) (.str x) (.str x)
  | int {n : Nat} (i : Int) : Sam H (n + 1) (.int i) (.int i)
  | lst {n : Nat} {a b : Addr} {xs ys : List V} : H a = some (.lst xs) → H b = some (.lst ys) → xs.length = ys.length → xs.length ≤ 1000 → (∀ (i : Nat) x y, xs[i]? = some x → ys[i]? = some y → Sam H n x y) → Sam H (n + 1) (.ref a) (.ref b)
  | tup {n : Nat} {a b : Addr} {xs ys : List V} : H a = some (.tup xs) → H b = some (.tup ys) → xs.length = ys.length → xs.length ≤ 1000 → (∀ (i : Nat) x y, xs[i]? = some x → ys[i]? = some y → Sam H n x y) → Sam H (n + 1) (.ref a) (.ref b)
theorem Sam.same {H H' : Hp} (s : Same H H') {n : Nat} {x y : V} (h : Sam H n x y) : Sam H' n x y := by
  induction h with
  | non => exact .non
  | str x => exact .str x
  | int i => exact .int i
  | lst h1 h2 h3 h4 _ ih => exact .lst (s _ _ h1) (s _ _ h2) h3 h4 ih
  | tup h1 h2 h3 h4 _ ih => exact .tup (s _ _ h1) (s _ _ h2) h3 h4 ih
def spSame (n : Nat) : Sp := fun vs H Q _ => ∃ x y, vs = [x, y] ∧ Sam H n x y ∧ ∀ H', Same H H' → Q (.bl true) H'
theorem uSame {n : Nat} {x y : V} {H : Hp} {Q : VK} {E : XK} (h : Sam H n x y) (k : ∀ H', Same H H' → Q (.bl true) H') : spSame n ([x, y] ++ []) H Q E := ⟨x, y, rfl, h, k⟩
theorem r_eqSame {H : Hp} {Q : VK} {K : PySem.W.Frag} {a b : Addr} {xs : List V} (h1 : SqL K H a xs) (h2 : SqL K H b xs) (hf : xs.all flatOk = true) (k : Q (.bl true) H) : rEqD K (.ref a) (.ref b) H Q := by
  refine ⟨.list (xs.map vD), .list (xs.map vD), .lst h1 (dp_flat xs hf), .lst h2 (dp_flat xs hf), shaped_flat xs, shaped_flat xs, ?_⟩
  rw [SeqAt.eqv_refl _ (SeqAt.canLay_of_shaped (shaped_flat xs))]
  exact k
section
variable {P : Program} {w : World} {K : PySem.W.Frag} {mg : Str → Option Value} {base : Heap}
end
theorem cut_from {l : List V} {b : Int} (h0 : 0 ≤ b) : cutV l (some b) none = l.drop b.toNat := by
  unfold cutV
  have e2 : HT.sIx l.length 0 (some b) = min b.toNat l.length := by
    show (if b < 0 then _ else min b.toNat l.length) = _
    rw [if_neg (by omega)]
  rw [e2]
  show (l.drop (min b.toNat l.length)).take (l.length - min b.toNat l.length) = _
  rw [List.take_of_length_le (by rw [List.length_drop]; omega)]
  by_cases h : b.toNat ≤ l.length
  · rw [Nat.min_eq_left h]
  · rw [Nat.min_eq_right (by omega), List.drop_length, List.drop_eq_nil_of_le (by omega)]
theorem flatV_oV (ps : List (Option Nat)) : (ps.map oV).all flatV = true := by
  rw [List.all_map, List.all_eq_true]
  intro o _
  cases o <;> rfl
/-- the walk amid: as many told as steps, and something waits till all are told -/
theorem wk_ok {ps : List (Option Nat)} {ks : List Nat} {r : Nat} (ht : IsTr ps ks) (hr : ks[0]? = some r) : ∀ k, k ≤ ps.length → ∃ o S, wk ps r k = (o, S) ∧ WI ps r o S ∧ o.length = k
  | 0, _ => ⟨[], [r], rfl, WI.start (ht.ltp hr), rfl⟩
  | k + 1, h => by
    obtain ⟨o, S, e, hw, hl⟩ := wk_ok ht hr k (by omega)
    cases S with
    | nil =>
      have := (hw.all ht.perm hr ht.up).length_eq
      rw [List.length_range] at this
      omega
    | cons x S => exact ⟨_, _, wk_step e, hw.step (ht.root r hr), by simp [hl]⟩
theorem wk_end {ps : List (Option Nat)} {ks : List Nat} {r : Nat} (ht : IsTr ps ks) (hr : ks[0]? = some r) : ∃ o, wk ps r ps.length = (o, []) ∧ o.length = ps.length := by
  obtain ⟨o, S, e, hw, hl⟩ := wk_ok ht hr ps.length (Nat.le_refl _)
  have := hw.le
  cases S with
  | nil => exact ⟨o, e, hl⟩
  | cons x S => rw [List.length_cons] at this; omega
section
variable {P : Program} {w : World} {K : PySem.W.Frag} {mg : Str → Option Value} {base : Heap}
theorem r_isiS {K : PySem.W.Frag} {H : Hp} {Q : VK} {x : Str} {n : String} {c : Bool} (e : PySem.W.kitOne K (.type "str") (.type n) = some c) (k : Q (.bl c) H) : rIsi K [.str x, .ty n] H Q := r_isi (.str x) e k
theorem r_neB {x y : Bool} {H : Hp} {Q : VK} (k : Q (.bl (x != y)) H) : rNe (.bl x) (.bl y) H Q := by
  refine ⟨rfl, ?_⟩
  have e : (!decide (V.bl x = V.bl y)) = (x != y) := by cases x <;> cases y <;> simp
  rw [e]
  exact k
end
def spLaw (K : PySem.W.Frag) : Sp := fun vs H Q _ => ∃ (a : Addr) (ns : List Int), vs = [.ref a] ∧ SqL K H a (ns.map V.int) ∧ ns.length ≤ 63 ∧ ∀ H', Q (.bl true) H'
section
variable {H : Hp} {Q : VK} {E : XK} {a : Addr} {ns : List Int} {c m k : Int} {K : PySem.W.Frag} {ps : List (Option Nat)} {ks : List Nat} {n x : Nat}
theorem uCells (h : SqL K H a (ns.map V.int)) (hl : ns.length ≤ 1000) (h0 : 1 ≤ m) (h1 : m ≤ 100) (k : ∀ (cs : List Int) q H', cs.length ≤ m.toNat → H q = none → H' q = some (.lst (cs.map V.int)) → Same H H' → Q (.ref q) H') : spCells K ([.ref a, .int m] ++ []) H Q E := ⟨a, ns, m, rfl, h, hl, h0, h1, k⟩
theorem uTree (h0 : 1 ≤ m) (h1 : m ≤ 200) (k : ∀ (ps : List (Option Nat)) (ks : List Nat) q H', IsTr ps ks → ps.length ≤ m.toNat → H q = none → H' q = some (.lst (ps.map oV)) → Same H H' → Q (.ref q) H') : spTree ([.int c, .int m] ++ []) H Q E := ⟨c, m, rfl, h0, h1, k⟩
end
theorem flat_opts (ps : List (Option Nat)) : (ps.map oV).all flatOk = true := by
  rw [List.all_map, List.all_eq_true]
  intro o _
  cases o <;> rfl
theorem int_mem {ns : List Int} {i : Nat} {x : V} (hx : (ns.map V.int)[i]? = some x) : ∃ n, x = .int n := by
  rw [List.getElem?_map] at hx
  cases e : ns[i]? with
  | none => rw [e] at hx; cases hx
  | some z => rw [e] at hx; exact ⟨z, (Option.some.inj hx).symm⟩
theorem tr1 : IsTr [none] [0] := ⟨.refl _, by decide, fun r e => by simp at e; subst e; rfl, fun k x hk e => by have := (List.getElem?_eq_some_iff.mp e).1; simp at this; omega⟩
section
variable {P : Program} {w : World} {K : PySem.W.Frag} {mg : Str → Option Value} {base : Heap}
end
end Hb

set_option Elab.async false
set_option linter.all false
set_option maxRecDepth 100000
set_option maxHeartbeats 4000000

namespace Hb
open PySem L2
/-- from a place up to the root, parent by parent -/
inductive UpL (ps : List (Option Nat)) : Nat → List Nat → Prop
  | root {x : Nat} : ps[x]? = some none → UpL ps x [x]
  | step {x y : Nat} {us : List Nat} : ps[x]? = some (some y) → UpL ps y us → UpL ps x (x :: us)
section
variable {ps : List (Option Nat)} {ks : List Nat} {x y z : Nat} {us vs : List Nat}
theorem UpL.det (h : UpL ps x us) : ∀ {vs}, UpL ps x vs → us = vs := by
  induction h with
  | root e => intro vs h2; cases h2 with
    | root _ => rfl
    | step e2 _ => rw [e] at e2; cases e2
  | step e _ ih => intro vs h2; cases h2 with
    | root e2 => rw [e] at e2; cases e2
    | step e2 h3 => rw [e] at e2; cases e2; rw [ih h3]
theorem UpL.hd (h : UpL ps x us) : ∃ t, us = x :: t := by cases h <;> exact ⟨_, rfl⟩
theorem UpL.suf {R : List Nat} : ∀ {A : List Nat} {x : Nat}, UpL ps x (A ++ z :: R) → UpL ps z (z :: R)
  | [], x, h => by
    obtain ⟨t, e⟩ := h.hd
    rw [List.nil_append] at e h
    cases e
    exact h
  | b :: A, x, h => by
    rw [List.cons_append] at h
    generalize e : A ++ z :: R = l at h
    cases h with
    | root _ => cases A <;> cases e
    | step _ h2 => rw [← e] at h2; exact UpL.suf h2
theorem UpL.last (h : UpL ps x us) : ∃ A r, us = A ++ [r] ∧ ps[r]? = some none := by
  induction h with
  | root e => exact ⟨[], _, rfl, e⟩
  | step _ _ ih => obtain ⟨A, r, e, h⟩ := ih; exact ⟨_ :: A, r, by rw [e]; rfl, h⟩
theorem UpL.lt (h : UpL ps x us) : ∀ y ∈ us, y < ps.length := by
  induction h with
  | @root x e => intro y hy; have : y = x := by simpa using hy
                 rw [this]; exact (List.getElem?_eq_some_iff.mp e).1
  | step e _ ih => intro y hy; rcases List.mem_cons.mp hy with rfl | hy
                   · exact (List.getElem?_eq_some_iff.mp e).1
                   · exact ih y hy
theorem UpL.nodup (h : UpL ps x us) : us.Nodup := by
  suffices ∀ {us x}, UpL ps x us → us.Pairwise (· ≠ ·) from this h
  intro us x h
  induction h with
  | root e => simp
  | @step x y us e h2 ih =>
    refine List.pairwise_cons.mpr ⟨fun z hz ez => ?_, ih⟩
    subst ez
    obtain ⟨A, B, e3⟩ := List.append_of_mem hz
    have h3 := h2
    rw [e3] at h3
    have h4 := h3.suf.det (UpL.step e h2)
    have := congrArg List.length h4
    rw [e3] at this
    simp at this
    omega
theorem IsTr.uplAt (ht : IsTr ps ks) : ∀ (k x : Nat), ks[k]? = some x → ∃ us, UpL ps x us := by
  intro k
  induction k using Nat.strongRecOn with
  | ind k ih =>
    intro x e
    cases ho : ps[x]? with
    | none => have := ht.ltp e; rw [List.getElem?_eq_none_iff] at ho; omega
    | some o =>
      cases o with
      | none => exact ⟨[x], .root ho⟩
      | some y =>
        obtain ⟨j, hj, ey⟩ := ht.upAt e ho
        obtain ⟨us, hu⟩ := ih j hj y ey
        exact ⟨x :: us, .step ho hu⟩
theorem IsTr.upl (ht : IsTr ps ks) (hx : x < ps.length) : ∃ us, UpL ps x us ∧ us.length ≤ ps.length := by
  obtain ⟨k, _, e⟩ := ht.at hx
  obtain ⟨us, hu⟩ := ht.uplAt k x e
  exact ⟨us, hu, nodup_le hu.nodup hu.lt⟩
theorem IsTr.root1 (ht : IsTr ps ks) (h1 : ps[x]? = some none) (h2 : ps[y]? = some none) : x = y := by
  obtain ⟨r, _, er⟩ := ht.roots
  have m : ∀ z, ps[z]? = some none → z = r := fun z hz => by
    have : z ∈ rootsTo ps ps.length := by
      unfold rootsTo
      rw [List.mem_filter, List.mem_range, decide_eq_true_eq]
      exact ⟨(List.getElem?_eq_some_iff.mp hz).1, hz⟩
    rw [er] at this
    simpa using this
  rw [m x h1, m y h2]
/-- the way from one place to another: up to the first that stands above both, and down -/
def WayL (ps : List (Option Nat)) (x y : Nat) (l : List Nat) : Prop := ∃ (A B : List Nat) (z : Nat) (C : List Nat), UpL ps x (A ++ z :: C) ∧ UpL ps y (B ++ z :: C) ∧ (∀ a ∈ A, a ∉ B ++ z :: C) ∧ (∀ b ∈ B, b ∉ A ++ z :: C) ∧ l = A ++ z :: B.reverse
theorem way_len {A B C A' B' C' : List Nat} {z z' : Nat} (e1 : A ++ z :: C = A' ++ z' :: C') (e2 : B ++ z :: C = B' ++ z' :: C') (n : ∀ a ∈ A', a ∉ B' ++ z' :: C') : A'.length ≤ A.length := by
  by_cases h : A'.length ≤ A.length
  · exact h
  · exfalso
    have hz : z ∈ A' := by
      have : (A ++ z :: C)[A.length]? = some z := by simp
      rw [e1, List.getElem?_append_left (by omega)] at this
      exact List.mem_of_getElem? this
    exact n z hz (by rw [← e2]; simp)
theorem WayL.det {l l' : List Nat} (h1 : WayL ps x y l) (h2 : WayL ps x y l') : l = l' := by
  obtain ⟨A, B, z, C, u1, u2, n1, n2, rfl⟩ := h1
  obtain ⟨A', B', z', C', v1, v2, m1, m2, rfl⟩ := h2
  have e1 := u1.det v1
  have e2 := u2.det v2
  have l1 := way_len e1 e2 m1
  have l2 := way_len e1.symm e2.symm n1
  obtain ⟨ea, eb⟩ := List.append_inj e1 (by omega)
  cases eb
  have e3 := List.append_cancel_right e2
  rw [ea, e3]
/-- where ends part, nothing ahead of the common end stands in both -/
theorem way_no {A B C : List Nat} (h1 : UpL ps x (A ++ z :: C)) (h2 : UpL ps y (B ++ z :: C)) (n : ∀ A' B' b, A = A' ++ [b] → B = B' ++ [b] → False) : ∀ a ∈ A, a ∉ B ++ z :: C := by
  intro a ha hm
  obtain ⟨A1, A2, rfl⟩ := List.append_of_mem ha
  rw [List.append_assoc, List.cons_append] at h1
  have u := h1.suf
  rcases List.mem_append.mp hm with hb | hc
  · obtain ⟨B1, B2, rfl⟩ := List.append_of_mem hb
    rw [List.append_assoc, List.cons_append] at h2
    have e := u.det h2.suf
    have e2 : A2 = B2 := by injection e with _ e; exact List.append_cancel_right e
    subst e2
    rcases List.eq_nil_or_concat A2 with rfl | ⟨A3, b, rfl⟩
    · exact n A1 B1 a rfl rfl
    · exact n (A1 ++ a :: A3) (B1 ++ a :: A3) b (by simp) (by simp)
  · obtain ⟨C1, C2, e⟩ := List.append_of_mem hc
    have u2 := h1.suf
    have u3 : UpL ps a (a :: C2) := by
      rw [e, ← List.append_assoc] at h2
      exact h2.suf
    have := congrArg List.length (u.det u3)
    have l2 := congrArg List.length e
    simp at this l2
    omega
def spUps : Sp := fun vs H Q _ => ∃ (a : Addr) (ps : List (Option Nat)) (ks : List Nat) (x : Nat), vs = [.ref a, .int x] ∧ H a = some (.lst (ps.map oV)) ∧ ps.length ≤ 200 ∧ IsTr ps ks ∧ x < ps.length ∧
  ∀ (us : List Nat) q H', UpL ps x us → us.length ≤ ps.length → H q = none → H' q = some (.lst (natsV us)) → Same H H' → Q (.ref q) H'
def spWay : Sp := fun vs H Q _ => ∃ (a : Addr) (ps : List (Option Nat)) (ks : List Nat) (x y : Nat), vs = [.ref a, .int x, .int y] ∧ H a = some (.lst (ps.map oV)) ∧ ps.length ≤ 200 ∧ IsTr ps ks ∧ x < ps.length ∧ y < ps.length ∧
  ∀ (l : List Nat) q H', WayL ps x y l → l.length ≤ 400 → H q = none → H' q = some (.lst (natsV l)) → Same H H' → Q (.ref q) H'
def spDepth : Sp := fun vs H Q _ => ∃ (a : Addr) (ps : List (Option Nat)) (ks : List Nat) (x : Nat), vs = [.ref a, .int x] ∧ H a = some (.lst (ps.map oV)) ∧ ps.length ≤ 200 ∧ IsTr ps ks ∧ x < ps.length ∧
  ∀ (us : List Nat) H', UpL ps x us → us.length ≤ ps.length → Same H H' → Q (.int ((us.length : Int) - 1)) H'
end
section
variable {H : Hp} {Q : VK} {E : XK} {a : Addr} {ps : List (Option Nat)} {ks : List Nat} {x y : Nat}
end
end Hb
namespace Hb
open PySem L2
section
variable {ps : List (Option Nat)} {ks : List Nat} {x y : Nat} {us vs : List Nat}
/-- two ways up have a common end, and nothing ahead of it stands in both -/
theorem list_snoc {P : List Nat → Prop} (nil : P []) (snoc : ∀ l x, P l → P (l ++ [x])) (l : List Nat) : P l := by
  have : ∀ n (l : List Nat), l.length = n → P l := by
    intro n
    induction n with
    | zero => intro l h; rw [List.length_eq_zero_iff.mp h]; exact nil
    | succ n ih =>
      intro l h
      rcases List.eq_nil_or_concat l with rfl | ⟨l, x, rfl⟩
      · cases h
      · rw [List.concat_eq_append] at h ⊢
        exact snoc l x (ih l (by simpa using h))
  exact this _ l rfl
theorem suf_split : ∀ (us vs : List Nat), ∃ A B C, us = A ++ C ∧ vs = B ++ C ∧ ∀ A' B' b, A = A' ++ [b] → B = B' ++ [b] → False := by
  intro us
  induction us using list_snoc with
  | nil => exact fun vs => ⟨[], vs, [], rfl, by simp, fun A' B' b e _ => by cases A' <;> cases e⟩
  | snoc us u ih =>
    intro vs
    rcases List.eq_nil_or_concat vs with rfl | ⟨vs, v, rfl⟩
    · exact ⟨us ++ [u], [], [], by simp, rfl, fun A' B' b _ e => by cases B' <;> cases e⟩
    · by_cases h : u = v
      · subst h
        obtain ⟨A, B, C, e1, e2, n⟩ := ih vs
        exact ⟨A, B, C ++ [u], by rw [e1]; simp, by rw [e2]; simp, n⟩
      · refine ⟨us ++ [u], vs ++ [v], [], by simp, by simp, fun A' B' b e e' => ?_⟩
        have z1 := (List.append_inj' e rfl).2
        have z2 := (List.append_inj' e' rfl).2
        cases z1
        cases z2
        exact h rfl
theorem way_split (ht : IsTr ps ks) (hu : UpL ps x us) (hv : UpL ps y vs) : ∃ (A B : List Nat) (z : Nat) (C : List Nat), us = A ++ z :: C ∧ vs = B ++ z :: C ∧ (∀ a ∈ A, a ∉ B ++ z :: C) ∧ (∀ b ∈ B, b ∉ A ++ z :: C) := by
  obtain ⟨A, B, C, e1, e2, n⟩ := suf_split us vs
  cases C with
  | nil =>
    exfalso
    rw [List.append_nil] at e1 e2
    subst e1 e2
    obtain ⟨A1, r1, ea, h1⟩ := hu.last
    obtain ⟨A2, r2, eb, h2⟩ := hv.last
    rw [ht.root1 h1 h2] at ea
    exact n A1 A2 r2 ea eb
  | cons z C =>
    rw [e1] at hu
    rw [e2] at hv
    exact ⟨A, B, z, C, e1, e2, way_no hu hv n, way_no hv hu (fun A' B' b e3 e4 => n B' A' b e4 e3)⟩
end
section
variable {H : Hp} {Q : VK} {K : PySem.W.Frag} {a : Addr} {l : List Nat} {u j : Nat}
end
end Hb

set_option Elab.async false
set_option linter.all false
set_option maxRecDepth 100000
set_option maxHeartbeats 4000000

namespace Hb
open PySem L2
/-! ### what stands below a place, in the order of the walk -/
def preF (ps : List (Option Nat)) : Nat → Nat → List Nat
  | 0, _ => []
  | f + 1, x => x :: (kidsN ps x).flatMap (preF ps f)
abbrev pre (ps : List (Option Nat)) (x : Nat) : List Nat := preF ps ps.length x
def Suff (ps : List (Option Nat)) (f x : Nat) : Prop := ∃ us, UpL ps x us ∧ ps.length + 1 ≤ f + us.length
section
variable {ps : List (Option Nat)} {ks : List Nat} {x y z r : Nat} {us vs : List Nat}
theorem Suff.zero (h : Suff ps 0 x) : False := by
  obtain ⟨us, hu, h⟩ := h
  have := nodup_le hu.nodup hu.lt
  omega
theorem Suff.kid {f c : Nat} (h : Suff ps (f + 1) x) (hc : c ∈ kidsN ps x) : Suff ps f c := by
  obtain ⟨us, hu, h⟩ := h
  exact ⟨c :: us, .step (mem_kids.mp hc) hu, by rw [List.length_cons]; omega⟩
theorem UpL.suff (hu : UpL ps x us) : Suff ps ps.length x := ⟨us, hu, by obtain ⟨t, rfl⟩ := hu.hd; rw [List.length_cons]; omega⟩
theorem mem_preF : ∀ (f x y : Nat), Suff ps f x → (y ∈ preF ps f x ↔ ∃ us, UpL ps y us ∧ x ∈ us)
  | 0, _, _, h => h.zero.elim
  | f + 1, x, y, h => by
    show y ∈ x :: (kidsN ps x).flatMap (preF ps f) ↔ _
    rw [List.mem_cons, List.mem_flatMap]
    constructor
    · rintro (rfl | ⟨c, hc, hy⟩)
      · obtain ⟨us, hu, _⟩ := h
        obtain ⟨t, rfl⟩ := hu.hd
        exact ⟨_, hu, by simp⟩
      · obtain ⟨us, hu, hm⟩ := (mem_preF f c y (h.kid hc)).mp hy
        obtain ⟨A, R, rfl⟩ := List.append_of_mem hm
        have h2 := hu.suf
        have hp := mem_kids.mp hc
        generalize hR : (c :: R) = l at h2
        cases h2 with
        | root e => rw [hp] at e; cases e
        | @step _ y2 us2 e h3 =>
          rw [hp] at e
          cases e
          obtain ⟨t, rfl⟩ := h3.hd
          cases hR
          exact ⟨_, hu, by simp⟩
    · rintro ⟨us, hu, hm⟩
      obtain ⟨A, R, rfl⟩ := List.append_of_mem hm
      rcases List.eq_nil_or_concat A with rfl | ⟨A, c, rfl⟩
      · left
        obtain ⟨t, e⟩ := hu.hd
        rw [List.nil_append] at e
        cases e
        rfl
      · right
        rw [List.concat_eq_append, List.append_assoc] at hu
        have h2 : UpL ps c (c :: x :: R) := hu.suf
        have hc : c ∈ kidsN ps x := by
          cases h2 with
          | step e h3 =>
            obtain ⟨t, e3⟩ := h3.hd
            cases e3
            exact mem_kids.mpr e
        exact ⟨c, hc, (mem_preF f c y (h.kid hc)).mpr ⟨_, hu, by simp⟩⟩
theorem mem_pre (hu : UpL ps x us) : y ∈ pre ps x ↔ ∃ vs, UpL ps y vs ∧ x ∈ vs := mem_preF _ _ _ hu.suff
/-- the walk goes through what stands below a place at a stretch -/
theorem wk_preF : ∀ (f x : Nat), Suff ps f x → ∀ (k : Nat) (o S : List Nat), wk ps r k = (o, x :: S) → wk ps r (k + (preF ps f x).length) = (o ++ preF ps f x, S)
  | 0, _, h => h.zero.elim
  | f + 1, x, h => by
    intro k o S e
    have inner : ∀ (cs : List Nat), (∀ c ∈ cs, Suff ps f c) → ∀ (k : Nat) (o : List Nat), wk ps r k = (o, cs ++ S) → wk ps r (k + (cs.flatMap (preF ps f)).length) = (o ++ cs.flatMap (preF ps f), S) := by
      intro cs
      induction cs with
      | nil => intro _ k o e; simpa using e
      | cons c cs ih =>
        intro hs k o e
        have h1 := wk_preF f c (hs c (by simp)) k o (cs ++ S) e
        have h2 := ih (fun d hd => hs d (by simp [hd])) _ _ h1
        rw [List.flatMap_cons, List.length_append, ← Nat.add_assoc, ← List.append_assoc]
        exact h2
    have h1 := inner (kidsN ps x) (fun c hc => h.kid hc) (k + 1) (o ++ [x]) (wk_step e)
    have h2 : (preF ps (f + 1) x) = x :: (kidsN ps x).flatMap (preF ps f) := rfl
    rw [h2, List.length_cons, show k + (((kidsN ps x).flatMap (preF ps f)).length + 1) = k + 1 + ((kidsN ps x).flatMap (preF ps f)).length by omega, h1, List.append_assoc]
    rfl
abbrev walkN (ps : List (Option Nat)) (r : Nat) : List Nat := (wk ps r ps.length).1
theorem wk_ext (k : Nat) : ∀ j, ∃ T, (wk ps r (k + j)).1 = (wk ps r k).1 ++ T
  | 0 => ⟨[], by simp⟩
  | j + 1 => by
    obtain ⟨T, e⟩ := wk_ext k j
    cases h : wk ps r (k + j) with
    | mk o S =>
      rw [h] at e
      cases S with
      | nil => exact ⟨T, by show (match wk ps r (k + j) with | (o, []) => (o, []) | (o, x :: S) => (o ++ [x], kidsN ps x ++ S)).1 = _; rw [h]; exact e⟩
      | cons x S => exact ⟨T ++ [x], by rw [show k + (j + 1) = k + j + 1 by omega, wk_step h]; show o ++ [x] = _; rw [show o = _ from e, List.append_assoc]⟩
theorem wk_stay {o : List Nat} {k : Nat} (h : wk ps r k = (o, [])) : ∀ j, wk ps r (k + j) = (o, [])
  | 0 => h
  | j + 1 => by
    show (match wk ps r (k + j) with | (o, []) => (o, []) | (o, x :: S) => (o ++ [x], kidsN ps x ++ S)) = _
    rw [wk_stay h j]
theorem walk_len (ht : IsTr ps ks) (hr : ks[0]? = some r) : (walkN ps r).length = ps.length := by
  obtain ⟨o, e, hl⟩ := wk_end ht hr
  show (wk ps r ps.length).1.length = _
  rw [e]
  exact hl
theorem walk_perm (ht : IsTr ps ks) (hr : ks[0]? = some r) : (walkN ps r).Perm (List.range ps.length) := by
  obtain ⟨o, S, e, hw, hl⟩ := wk_ok ht hr ps.length (Nat.le_refl _)
  have hle := hw.le
  cases S with
  | nil =>
    show (wk ps r ps.length).1.Perm _
    rw [e]
    exact hw.all ht.perm hr ht.up
  | cons x S => rw [List.length_cons] at hle; omega
theorem walk_nodup (ht : IsTr ps ks) (hr : ks[0]? = some r) : (walkN ps r).Nodup := (walk_perm ht hr).nodup_iff.mpr List.nodup_range
theorem walk_pos (ht : IsTr ps ks) (hr : ks[0]? = some r) (h : x < ps.length) : ∃ i : Nat, (walkN ps r)[i]? = some x := by
  obtain ⟨i, hi, e⟩ := List.mem_iff_getElem.mp ((walk_perm ht hr).mem_iff.mpr (List.mem_range.mpr h))
  exact ⟨i, by rw [← e]; exact List.getElem?_eq_getElem hi⟩
theorem walk_span {i : Nat} (ht : IsTr ps ks) (hr : ks[0]? = some r) (h : (walkN ps r)[i]? = some x) : i + (pre ps x).length ≤ ps.length ∧ ((walkN ps r).drop i).take (pre ps x).length = pre ps x := by
  have hi : i < ps.length := by have := (List.getElem?_eq_some_iff.mp h).1; rwa [walk_len ht hr] at this
  obtain ⟨o, S, e, hw, hl⟩ := wk_ok ht hr i (by omega)
  cases S with
  | nil =>
    have := (hw.all ht.perm hr ht.up).length_eq
    rw [List.length_range] at this
    omega
  | cons x' S =>
    obtain ⟨T, eT⟩ := wk_ext (ps := ps) (r := r) (i + 1) (ps.length - (i + 1))
    rw [show i + 1 + (ps.length - (i + 1)) = ps.length by omega, wk_step e] at eT
    have eT : walkN ps r = o ++ [x'] ++ T := eT
    have ex : x' = x := by
      rw [eT, List.append_assoc, List.getElem?_append_right (by omega), hl, Nat.sub_self] at h
      simpa using h
    subst ex
    have hx : x' < ps.length := hw.lt x' (by simp)
    obtain ⟨us, hu, _⟩ := ht.upl hx
    have h2 := wk_preF ps.length x' hu.suff i o S e
    have hle : i + (pre ps x').length ≤ ps.length := by
      obtain ⟨w, ew, hwl⟩ := wk_end ht hr
      by_cases hc : i + (pre ps x').length ≤ ps.length
      · exact hc
      · exfalso
        have h3 := wk_stay ew (i + (pre ps x').length - ps.length)
        rw [show ps.length + (i + (pre ps x').length - ps.length) = i + (pre ps x').length by omega, h2] at h3
        have h4 := congrArg (fun p : List Nat × List Nat => p.1.length) h3
        have h4 : (o ++ preF ps ps.length x').length = w.length := h4
        rw [List.length_append, hl, hwl] at h4
        have : (preF ps ps.length x').length = (pre ps x').length := rfl
        omega
    refine ⟨hle, ?_⟩
    obtain ⟨T2, eT2⟩ := wk_ext (ps := ps) (r := r) (i + (pre ps x').length) (ps.length - (i + (pre ps x').length))
    rw [show i + (pre ps x').length + (ps.length - (i + (pre ps x').length)) = ps.length by omega, h2] at eT2
    have eT2 : walkN ps r = o ++ pre ps x' ++ T2 := eT2
    rw [eT2, List.append_assoc, List.drop_left' hl, List.take_left' rfl]
theorem pre_nodup (ht : IsTr ps ks) (hx : x < ps.length) : (pre ps x).Nodup := by
  obtain ⟨r, hr, _⟩ := ht.roots
  obtain ⟨i, hi⟩ := walk_pos ht hr hx
  rw [← (walk_span ht hr hi).2]
  exact ((walk_nodup ht hr).sublist (List.drop_sublist _ _)).sublist (List.take_sublist _ _)
/-- sizes as far as the places of D are counted -/
def szTo (ps : List (Option Nat)) (D : List Nat) (x : Nat) : Nat := 1 + (((kidsN ps x).filter fun c => decide (c ∈ D)).map fun c => (pre ps c).length).sum
end
end Hb
namespace Hb
open PySem L2
/-! ### rows of tuples in the ledger -/
def rowsT (as : List Addr) (cs : List (List V)) : List (Addr × HO) := as.zip (cs.map HO.tup)
/-- the places below, rising -/
def belN (ps : List (Option Nat)) (x n : Nat) : List Nat := (List.range n).filter fun y => decide (y ∈ pre ps x)
theorem belN_succ (ps : List (Option Nat)) (x n : Nat) : belN ps x (n + 1) = belN ps x n ++ if n ∈ pre ps x then [n] else [] := by
  unfold belN
  rw [List.range_succ, List.filter_append]
  by_cases h : n ∈ pre ps x
  · rw [if_pos h]; simp [h]
  · rw [if_neg h]; simp [h]
theorem pre_lt {ps : List (Option Nat)} {ks : List Nat} {x y : Nat} (ht : IsTr ps ks) (hx : x < ps.length) (h : y ∈ pre ps x) : y < ps.length := by
  obtain ⟨us, hu, _⟩ := ht.upl hx
  obtain ⟨vs, hv, _⟩ := (mem_pre hu).mp h
  exact hv.lt y (by obtain ⟨t, rfl⟩ := hv.hd; simp)
theorem up_below {ps : List (Option Nat)} {ks : List Nat} {x y : Nat} {us : List Nat} (ht : IsTr ps ks) (hx : x < ps.length) (hu : UpL ps y us) : x ∈ us ↔ y ∈ pre ps x := by
  obtain ⟨vs, hv, _⟩ := ht.upl hx
  rw [mem_pre hv]
  exact ⟨fun h => ⟨us, hu, h⟩, fun ⟨ws, hw, h⟩ => by rw [hu.det hw]; exact h⟩
def spSpans : Sp := fun vs H Q _ => ∃ (a : Addr) (ps : List (Option Nat)) (ks : List Nat), vs = [.ref a] ∧ H a = some (.lst (ps.map oV)) ∧ ps.length ≤ 200 ∧ IsTr ps ks ∧
  ∀ (r : Nat) (q : Addr) (as : List Addr) H', ks[0]? = some r → as.length = ps.length → H q = none → H' q = some (.lst (as.map V.ref)) → (∀ (i x : Nat) (b : Addr), (walkN ps r)[i]? = some x → as[x]? = some b → H b = none ∧ H' b = some (.tup [.int i, .int ((i : Int) + (pre ps x).length)])) → Same H H' → Q (.ref q) H'
def spSpan : Sp := fun vs H Q _ => ∃ (a : Addr) (ps : List (Option Nat)) (ks : List Nat) (x : Nat), vs = [.ref a, .int x] ∧ H a = some (.lst (ps.map oV)) ∧ ps.length ≤ 200 ∧ IsTr ps ks ∧ x < ps.length ∧
  ∀ (r i : Nat) (b : Addr) H', ks[0]? = some r → (walkN ps r)[i]? = some x → H b = none → H' b = some (.tup [.int i, .int ((i : Int) + (pre ps x).length)]) → Same H H' → Q (.ref b) H'
def spLBelow : Sp := fun vs H Q _ => ∃ (a : Addr) (ps : List (Option Nat)) (ks : List Nat) (x : Nat), vs = [.ref a, .int x] ∧ H a = some (.lst (ps.map oV)) ∧ ps.length ≤ 200 ∧ IsTr ps ks ∧ x < ps.length ∧
  ∀ (q : Addr) H', H q = none → H' q = some (.lst (natsV (belN ps x ps.length))) → Same H H' → Q (.ref q) H'
section
variable {H : Hp} {Q : VK} {E : XK} {a : Addr} {ps : List (Option Nat)} {ks : List Nat} {x y : Nat}
end
/-- sizes amid the count -/
abbrev szs (ps : List (Option Nat)) (D : List Nat) : List Nat := (List.range ps.length).map (szTo ps D)
theorem r_neDD {H : Hp} {Q : VK} {K : PySem.W.Frag} {x y : V} {d : PyData} (h1 : Dp K H x d) (h2 : Dp K H y d) (hs : SeqAt.shaped d = true) (k : Q (.bl false) H) : rNeD K x y H Q := by
  refine ⟨d, d, h1, h2, hs, hs, ?_⟩
  rw [SeqAt.eqv_refl _ (SeqAt.canLay_of_shaped hs)]
  exact k
theorem nodup_idx {l : List Nat} {i j x : Nat} (nd : l.Nodup) (h1 : l[i]? = some x) (h2 : l[j]? = some x) : i = j := (List.getElem?_inj (List.getElem?_eq_some_iff.mp h1).1 nd).mp (by rw [h1, h2])
end Hb

set_option Elab.async false
set_option linter.all false
set_option maxRecDepth 100000
set_option maxHeartbeats 4000000

namespace Hb
open PySem L2
/-- the two numbers of a reel -/
structure Rl where
  x : Int
  y : Int
  hx : 0 ≤ x
  hy : 0 ≤ y
  hy2 : y < 2147483647
abbrev reelO (ρ : Rl) : HO := .lst [.int ρ.x, .int ρ.y]
def spReel : Sp := fun vs H Q _ => ∃ c : Int, vs = [.int c] ∧ ∀ r ρ H', H r = none → H' r = some (reelO ρ) → Same H H' → Q (.ref r) H'
def spTake : Sp := fun vs H Q _ => ∃ (r : Addr) (ρ : Rl) (n : Int), vs = [.ref r, .int n] ∧ H r = some (reelO ρ) ∧ 0 < n ∧ n ≤ 1000000000 ∧
  ∀ ρ' z H', 0 ≤ z → z < n → H' = upd H r (reelO ρ') → Q (.int z) H'
def spRow : Sp := fun vs H Q _ => ∃ (r : Addr) (ρ : Rl) (m : Int), vs = [.ref r, .int m] ∧ H r = some (reelO ρ) ∧ 4 ≤ m ∧ m ≤ 200 ∧
  ∀ ρ' (ns : List Int) q H', ns.length ≤ 200 → H q = none → H' q = some (.lst (ns.map V.int)) → H' r = some (reelO ρ') → Kp r H H' → Q (.ref q) H'
section
variable {P : Program} {w : World} {K : PySem.W.Frag} {mg : Str → Option Value} {base : Heap}
end
/-- the last number below i that has the hue h -/
def lastIx (ns : List Int) (i : Nat) (h : Int) : Option Nat := ((List.range i).filter fun j => decide (ns[j]? = some h)).getLast?
def lastOf (ns : List Int) (i : Nat) : Option Nat := lastIx ns i (ns.getD i 0)
def lastsL (ns : List Int) (i : Nat) : List (Option Nat) := (List.range i).map (lastOf ns)
/-- has no last place in the stretch -/
def isFirst (f : Int) : Option Nat → Bool
  | none => true
  | some j => decide ((j : Int) < f)
def cntF (os : List (Option Nat)) (f b : Int) : Nat := (((os.drop f.toNat).take (b.toNat - f.toNat)).filter (isFirst f)).length
def spLast : Sp := fun vs H Q _ => ∃ (a : Addr) (ns : List Int), vs = [.ref a] ∧ H a = some (.lst (ns.map V.int)) ∧ ns.length ≤ 1000 ∧
  ∀ q H', H q = none → H' q = some (.lst ((lastsL ns ns.length).map oV)) → Same H H' → Q (.ref q) H'
def spCount : Sp := fun vs H Q _ => ∃ (a : Addr) (os : List (Option Nat)) (f b : Int), vs = [.ref a, .int f, .int b] ∧ H a = some (.lst (os.map oV)) ∧ os.length ≤ 1000 ∧ 0 ≤ f ∧ f ≤ b ∧ b ≤ os.length ∧
  ∀ H', Same H H' → Q (.int (cntF os f b : Nat)) H'
def spUnlike : Sp := fun vs H Q _ => ∃ (a t : Addr) (ns : List Int) (f b : Int), vs = [.ref a, .ref t] ∧ H a = some (.lst (ns.map V.int)) ∧ H t = some (.tup [.int f, .int b]) ∧ ns.length ≤ 1000 ∧ 0 ≤ f ∧ f < b ∧ b ≤ ns.length ∧
  ∀ H', Same H H' → Q (.int (cntF (lastsL ns ns.length) f b : Nat)) H'
section
variable {H : Hp} {Q : VK} {E : XK} {a t : Addr} {ns : List Int} {os : List (Option Nat)} {f b : Int}
end
section
variable {P : Program} {w : World} {K : PySem.W.Frag} {mg : Str → Option Value} {base : Heap}
end
section
variable {P : Program} {w : World} {K : PySem.W.Frag} {mg : Str → Option Value} {base : Heap}
end

/-! ### trees and hues of a reel -/
def spBTree : Sp := fun vs H Q _ => ∃ (r : Addr) (ρ : Rl) (m : Int), vs = [.ref r, .int m] ∧ H r = some (reelO ρ) ∧ 1 ≤ m ∧ m ≤ 200 ∧
  ∀ ρ' (ps : List (Option Nat)) (ks : List Nat) q H', IsTr ps ks → ps.length ≤ m.toNat → H q = none → H' q = some (.lst (ps.map oV)) → H' r = some (reelO ρ') → Kp r H H' → Q (.ref q) H'
def spBHues : Sp := fun vs H Q _ => ∃ (r : Addr) (ρ : Rl) (n : Nat), vs = [.ref r, .int n] ∧ H r = some (reelO ρ) ∧ n ≤ 200 ∧
  ∀ ρ' (hs : List Int) q H', hs.length = n → H q = none → H' q = some (.lst (hs.map V.int)) → H' r = some (reelO ρ') → Kp r H H' → Q (.ref q) H'
section
variable {H : Hp} {Q : VK} {E : XK} {r a : Addr} {ρ : Rl} {m : Int} {n : Nat} {xs : List V}
end
end Hb

set_option Elab.async false
set_option linter.all false
set_option maxRecDepth 100000
set_option maxHeartbeats 4000000

namespace Hb
open PySem L2
/-! ### rising lists without repeats -/
def insR (a : Int) : List Int → List Int
  | [] => [a]
  | b :: l => if a < b then a :: b :: l else if a = b then b :: l else b :: insR a l
def riseOf : List Int → List Int
  | [] => []
  | a :: l => insR a (riseOf l)
theorem mem_insR {a k : Int} : ∀ {l : List Int}, k ∈ insR a l ↔ k = a ∨ k ∈ l
  | [] => by simp [insR]
  | b :: l => by
    unfold insR
    split
    · simp
    · split
      · rename_i h; subst h; simp
      · rw [List.mem_cons, mem_insR, List.mem_cons]; exact ⟨fun h => by rcases h with h | h | h <;> simp [h], fun h => by rcases h with h | h | h <;> simp [h]⟩
theorem insR_rise {a : Int} : ∀ {l : List Int}, l.Pairwise (· < ·) → (insR a l).Pairwise (· < ·)
  | [], _ => by simp [insR]
  | b :: l, h => by
    unfold insR
    obtain ⟨h1, h2⟩ := List.pairwise_cons.mp h
    split
    · rename_i hab
      refine List.pairwise_cons.mpr ⟨fun x hx => ?_, h⟩
      rcases List.mem_cons.mp hx with rfl | hx
      · exact hab
      · have := h1 x hx; omega
    · split
      · exact h
      · rename_i h3 h4
        refine List.pairwise_cons.mpr ⟨fun x hx => ?_, insR_rise h2⟩
        rcases mem_insR.mp hx with rfl | hx
        · omega
        · exact h1 x hx
theorem mem_rise {k : Int} : ∀ {l : List Int}, k ∈ riseOf l ↔ k ∈ l
  | [] => by simp [riseOf]
  | a :: l => by unfold riseOf; rw [mem_insR, mem_rise, List.mem_cons]
theorem rise_rise : ∀ (l : List Int), (riseOf l).Pairwise (· < ·)
  | [] => .nil
  | a :: l => insR_rise (rise_rise l)
theorem rise_uniq : ∀ {l l' : List Int}, l.Pairwise (· < ·) → l'.Pairwise (· < ·) → (∀ k, k ∈ l ↔ k ∈ l') → l = l'
  | [], [], _, _, _ => rfl
  | [], b :: l', _, _, h => by have := (h b).mpr (by simp); simp at this
  | a :: l, [], _, _, h => by have := (h a).mp (by simp); simp at this
  | a :: l, b :: l', h1, h2, h => by
    obtain ⟨p1, q1⟩ := List.pairwise_cons.mp h1
    obtain ⟨p2, q2⟩ := List.pairwise_cons.mp h2
    have e : a = b := by
      rcases List.mem_cons.mp ((h a).mp (by simp)) with e | ha
      · exact e
      · rcases List.mem_cons.mp ((h b).mpr (by simp)) with e | hb
        · exact e.symm
        · have := p1 b hb; have := p2 a ha; omega
    subst e
    congr 1
    refine rise_uniq q1 q2 fun k => ⟨fun hk => ?_, fun hk => ?_⟩
    · rcases List.mem_cons.mp ((h k).mp (by simp [hk])) with e | hk'
      · have := p1 k hk; omega
      · exact hk'
    · rcases List.mem_cons.mp ((h k).mpr (by simp [hk])) with e | hk'
      · have := p2 k hk; omega
      · exact hk'
theorem rise_nodup (l : List Int) : (riseOf l).Nodup := (rise_rise l).imp fun h => by omega
theorem rise_le (l : List Int) : (riseOf l).length ≤ l.length := (rise_nodup l).length_le_of_subset fun k hk => mem_rise.mp hk
/-! ### hues of places -/
abbrev huesAt (hs : List Int) (l : List Nat) : List Int := l.map fun y => hs.getD y 0
abbrev intsV (ns : List Int) : List V := ns.map V.int
/-- the unlike hues below a place, rising -/
abbrev hbN (ps : List (Option Nat)) (hs : List Int) (x : Nat) : List Int := riseOf (huesAt hs (pre ps x))
theorem intsV_snoc (l : List Int) (x : Int) : intsV (l ++ [x]) = intsV l ++ [V.int x] := List.map_append ..
def spNeedH : Sp := fun vs H Q _ => ∃ (a b : Addr) (ps : List (Option Nat)) (ks : List Nat) (hs : List Int), vs = [.ref a, .ref b] ∧ H a = some (.lst (ps.map oV)) ∧ H b = some (.lst (intsV hs)) ∧ ps.length ≤ 200 ∧ IsTr ps ks ∧ hs.length = ps.length ∧ ∀ H', Same H H' → Q .non H'
def spWalkRow : Sp := fun vs H Q _ => ∃ (a b : Addr) (ps : List (Option Nat)) (ks : List Nat) (hs : List Int), vs = [.ref a, .ref b] ∧ H a = some (.lst (ps.map oV)) ∧ H b = some (.lst (intsV hs)) ∧ ps.length ≤ 200 ∧ IsTr ps ks ∧ hs.length = ps.length ∧
  ∀ (r : Nat) q H', ks[0]? = some r → H q = none → H' q = some (.lst (intsV (huesAt hs (walkN ps r)))) → Same H H' → Q (.ref q) H'
def spUnBelow : Sp := fun vs H Q _ => ∃ (a b : Addr) (ps : List (Option Nat)) (ks : List Nat) (hs : List Int) (x : Nat), vs = [.ref a, .ref b, .int x] ∧ H a = some (.lst (ps.map oV)) ∧ H b = some (.lst (intsV hs)) ∧ ps.length ≤ 200 ∧ IsTr ps ks ∧ hs.length = ps.length ∧ x < ps.length ∧
  ∀ H', Same H H' → Q (.int ((hbN ps hs x).length : Nat)) H'
def spUnAll : Sp := fun vs H Q _ => ∃ (a b : Addr) (ps : List (Option Nat)) (ks : List Nat) (hs : List Int), vs = [.ref a, .ref b] ∧ H a = some (.lst (ps.map oV)) ∧ H b = some (.lst (intsV hs)) ∧ ps.length ≤ 200 ∧ IsTr ps ks ∧ hs.length = ps.length ∧
  ∀ q H', H q = none → H' q = some (.lst (natsV ((List.range ps.length).map fun x => (hbN ps hs x).length))) → Same H H' → Q (.ref q) H'
def spHBelow : Sp := fun vs H Q _ => ∃ (a b : Addr) (ps : List (Option Nat)) (ks : List Nat) (hs : List Int) (x : Nat), vs = [.ref a, .ref b, .int x] ∧ H a = some (.lst (ps.map oV)) ∧ H b = some (.lst (intsV hs)) ∧ ps.length ≤ 200 ∧ IsTr ps ks ∧ hs.length = ps.length ∧ x < ps.length ∧
  ∀ q H', H q = none → H' q = some (.lst (intsV (hbN ps hs x))) → Same H H' → Q (.ref q) H'
section
variable {H : Hp} {Q : VK} {E : XK} {a b : Addr} {ps : List (Option Nat)} {ks : List Nat} {hs : List Int} {x : Nat}
theorem uNeedH (h : H a = some (.lst (ps.map oV))) (h2 : H b = some (.lst (intsV hs))) (hl : ps.length ≤ 200) (ht : IsTr ps ks) (hh : hs.length = ps.length) (k : ∀ H', Same H H' → Q .non H') : spNeedH ([.ref a, .ref b] ++ []) H Q E := ⟨a, b, ps, ks, hs, rfl, h, h2, hl, ht, hh, k⟩
end
/-! ### the law's lists of what stands below, place by place: amid the way up of place i, A already told -/
def belRow (ps : List (Option Nat)) (i : Nat) (A : List Nat) (x : Nat) : List Nat := belN ps x i ++ if x ∈ A then [i] else []
abbrev belRows (ps : List (Option Nat)) (i : Nat) (A : List Nat) : List (List V) := (List.range ps.length).map fun x => natsV (belRow ps i A x)
theorem belRow_nil (ps : List (Option Nat)) (i x : Nat) : belRow ps i [] x = belN ps x i := by unfold belRow; simp
theorem belRows_at {ps : List (Option Nat)} {i : Nat} {A : List Nat} {x : Nat} (h : x < ps.length) : (belRows ps i A)[x]? = some (natsV (belRow ps i A x)) := by
  rw [List.getElem?_map, List.getElem?_range h]
  rfl
theorem belRows_next {ps : List (Option Nat)} {ks : List Nat} {i : Nat} {us : List Nat} (ht : IsTr ps ks) (hi : i < ps.length) (hu : UpL ps i us) : belRows ps (i + 1) [] = belRows ps i us := by
  refine List.map_congr_left fun x hx => ?_
  have hx := List.mem_range.mp hx
  rw [belRow_nil, belN_succ]
  unfold belRow
  by_cases h : x ∈ us
  · rw [if_pos h, if_pos ((up_below ht hx hu).mp h)]
  · rw [if_neg h, if_neg (fun z => h ((up_below ht hx hu).mpr z))]
def spBBelow : Sp := fun vs H Q _ => ∃ (a : Addr) (ps : List (Option Nat)) (ks : List Nat), vs = [.ref a] ∧ H a = some (.lst (ps.map oV)) ∧ ps.length ≤ 200 ∧ IsTr ps ks ∧
  ∀ (q : Addr) (as : List Addr) H', as.length = ps.length → H q = none → H' q = some (.lst (as.map V.ref)) → (∀ (j : Nat) (x : Addr), as[j]? = some x → H x = none ∧ H' x = some (.lst (natsV (belN ps j ps.length)))) → Same H H' → Q (.ref q) H'
theorem shaped2 (xs ys : List V) : SeqAt.shaped (.list [.list (xs.map vD), .list (ys.map vD)]) = true := by
  obtain ⟨h1, h2⟩ := lay_flat xs
  obtain ⟨h3, h4⟩ := lay_flat ys
  simp [SeqAt.shaped, PyData.canLay0, PyData.canLayAll0, PyData.depth, PyData.depthAll, h1, h2, h3, h4]
theorem r_neTwo {H : Hp} {Q : VK} {K : PySem.W.Frag} {a b p1 p2 q1 q2 : Addr} {xs ys : List V} (ha : SqL K H a [.ref p1, .ref p2]) (hb : SqL K H b [.ref q1, .ref q2]) (h1 : SqL K H p1 xs) (h2 : SqL K H p2 ys) (h3 : SqL K H q1 xs) (h4 : SqL K H q2 ys) (hx : xs.all flatOk = true) (hy : ys.all flatOk = true) (k : Q (.bl false) H) : rNeD K (.ref a) (.ref b) H Q :=
  r_neDD (d := .list [.list (xs.map vD), .list (ys.map vD)]) (.lst ha (.cons (.lst h1 (dp_flat xs hx)) (.cons (.lst h2 (dp_flat ys hy)) .nil))) (.lst hb (.cons (.lst h3 (dp_flat xs hx)) (.cons (.lst h4 (dp_flat ys hy)) .nil))) (shaped2 xs ys) k
theorem Alk.ints {H : Hp} {a b : Addr} {l : List Int} (h1 : H a = some (.lst (intsV l))) (h2 : H b = some (.lst (intsV l))) (hl : l.length ≤ 1000) : Alk H 2 (.ref a) (.ref b) := by
  refine .lst h1 h2 rfl (by rw [intsV, List.length_map]; exact hl) fun i x y e1 e2 => ?_
  rw [e1] at e2
  cases e2
  obtain ⟨n, rfl⟩ := int_mem e1
  exact .int _
end Hb

set_option Elab.async false
set_option linter.all false
set_option maxRecDepth 100000
set_option maxHeartbeats 4000000

namespace Hb
open PySem L2
section
variable {ps : List (Option Nat)} {ks : List Nat} {hs : List Int} {x r : Nat}
end
section
variable {H : Hp} {Q : VK} {K : PySem.W.Frag} {a : Addr} {l : List Int} {u : Int}
end
end Hb

set_option Elab.async false
set_option linter.all false
set_option maxRecDepth 100000
set_option maxHeartbeats 4000000

namespace Hb
open PySem L2
/-! ### a tree whose places are called otherwise -/
abbrev cal (π : List Nat) (x : Nat) : Nat := π.getD x 0
structure Ren (ps : List (Option Nat)) (π : List Nat) (qs : List (Option Nat)) : Prop where
  len : qs.length = ps.length
  perm : π.Perm (List.range ps.length)
  to : ∀ (x : Nat) o, ps[x]? = some o → qs[cal π x]? = some (o.map (cal π))
section
variable {ps qs : List (Option Nat)} {ks π : List Nat} {x y r : Nat} {us l : List Nat}
theorem cal_at {n : Nat} (hp : π.Perm (List.range n)) (hx : x < n) : π[x]? = some (cal π x) := by
  have hl : π.length = n := by rw [hp.length_eq, List.length_range]
  rw [cal, List.getD_eq_getElem?_getD, List.getElem?_eq_getElem (by omega)]
  rfl
theorem cal_lt {n : Nat} (hp : π.Perm (List.range n)) (hx : x < n) : cal π x < n := List.mem_range.mp (hp.mem_iff.mp (List.mem_of_getElem? (cal_at hp hx)))
theorem cal_inj {n : Nat} (hp : π.Perm (List.range n)) (hx : x < n) (hy : y < n) (e : cal π x = cal π y) : x = y := nodup_idx (hp.nodup_iff.mpr List.nodup_range) (cal_at hp hx) (by rw [e]; exact cal_at hp hy)
theorem cal_all {n : Nat} (hp : π.Perm (List.range n)) (hy : y < n) : ∃ x, x < n ∧ cal π x = y := by
  obtain ⟨i, hi, e⟩ := List.mem_iff_getElem.mp (hp.mem_iff.mpr (List.mem_range.mpr hy))
  have hl : π.length = n := by rw [hp.length_eq, List.length_range]
  exact ⟨i, by omega, by rw [cal, List.getD_eq_getElem?_getD, List.getElem?_eq_getElem hi]; exact e⟩
theorem Ren.up (h : Ren ps π qs) (hu : UpL ps x us) : UpL qs (cal π x) (us.map (cal π)) := by
  induction hu with
  | root e => exact .root (h.to _ _ e)
  | step e _ ih => exact .step (h.to _ _ e) ih
theorem Ren.tr (h : Ren ps π qs) (ht : IsTr ps ks) : IsTr qs (ks.map (cal π)) := by
  have em : (List.range ps.length).map (cal π) = π := by
    have hl : π.length = ps.length := by rw [h.perm.length_eq, List.length_range]
    refine List.ext_getElem? fun i => ?_
    by_cases hi : i < ps.length
    · rw [List.getElem?_map, List.getElem?_range hi, cal_at h.perm hi]
      rfl
    · rw [List.getElem?_eq_none (by simp; omega), List.getElem?_eq_none (by omega)]
  refine ⟨?_, by rw [h.len]; exact ht.pos, fun r e => ?_, fun k x h0 e => ?_⟩
  · rw [h.len]
    have := ht.perm.map (cal π)
    rw [em] at this
    exact this.trans h.perm
  · rw [List.getElem?_map] at e
    cases e0 : ks[0]? with
    | none => rw [e0] at e; cases e
    | some z => rw [e0] at e; cases e; exact h.to _ _ (ht.root z e0)
  · rw [List.getElem?_map] at e
    cases e0 : ks[k]? with
    | none => rw [e0] at e; cases e
    | some z =>
      rw [e0] at e
      cases e
      obtain ⟨j, y, hj, ey, ez⟩ := ht.up k z h0 e0
      exact ⟨j, cal π y, hj, by rw [List.getElem?_map, ey]; rfl, h.to _ _ ez⟩
theorem Ren.pre (h : Ren ps π qs) (ht : IsTr ps ks) (hx : x < ps.length) : (pre qs (cal π x)).Perm ((pre ps x).map (cal π)) := by
  have ht' := h.tr ht
  have hx' : cal π x < qs.length := by rw [h.len]; exact cal_lt h.perm hx
  have nd : ((Hb.pre ps x).map (cal π)).Nodup := by
    refine List.pairwise_map.mpr ((pre_nodup ht hx).imp_of_mem fun ha hb hne e => hne (cal_inj h.perm (pre_lt ht hx ha) (pre_lt ht hx hb) e))
  refine (List.perm_ext_iff_of_nodup (pre_nodup ht' hx') nd).mpr fun y => ?_
  rw [List.mem_map]
  constructor
  · intro hy
    have hyl := pre_lt ht' hx' hy
    rw [h.len] at hyl
    obtain ⟨z, hz, rfl⟩ := cal_all h.perm hyl
    obtain ⟨us, hu, _⟩ := ht.upl hz
    obtain ⟨w, hw, e⟩ := List.mem_map.mp ((up_below ht' hx' (h.up hu)).mpr hy)
    have := cal_inj h.perm (hu.lt w hw) hx e
    subst this
    exact ⟨z, (up_below ht hx hu).mp hw, rfl⟩
  · rintro ⟨z, hz, rfl⟩
    obtain ⟨us, hu, _⟩ := ht.upl (pre_lt ht hx hz)
    exact (up_below ht' hx' (h.up hu)).mp (List.mem_map.mpr ⟨x, (up_below ht hx hu).mpr hz, rfl⟩)
theorem Ren.way (h : Ren ps π qs) (hw : WayL ps x y l) : WayL qs (cal π x) (cal π y) (l.map (cal π)) := by
  obtain ⟨A, B, z, C, u1, u2, n1, n2, rfl⟩ := hw
  refine ⟨A.map (cal π), B.map (cal π), cal π z, C.map (cal π), ?_, ?_, ?_, ?_, by simp⟩
  · have := h.up u1
    rwa [List.map_append, List.map_cons] at this
  · have := h.up u2
    rwa [List.map_append, List.map_cons] at this
  · intro a ha hm
    obtain ⟨a, ha', rfl⟩ := List.mem_map.mp ha
    have hm : cal π a ∈ (B ++ z :: C).map (cal π) := by rw [List.map_append, List.map_cons]; exact hm
    obtain ⟨b, hb, e⟩ := List.mem_map.mp hm
    have := cal_inj h.perm (u2.lt b hb) (u1.lt a (by simp [ha'])) e
    exact n1 a ha' (this ▸ hb)
  · intro a ha hm
    obtain ⟨a, ha', rfl⟩ := List.mem_map.mp ha
    have hm : cal π a ∈ (A ++ z :: C).map (cal π) := by rw [List.map_append, List.map_cons]; exact hm
    obtain ⟨b, hb, e⟩ := List.mem_map.mp hm
    have := cal_inj h.perm (u1.lt b hb) (u2.lt a (by simp [ha'])) e
    exact n2 a ha' (this ▸ hb)
/-! ### a leaf more -/
/-! ### below a new root -/
abbrev wid (ps : List (Option Nat)) (r : Nat) : List (Option Nat) := ps.set r (some ps.length) ++ [none]
end
end Hb

set_option Elab.async false
set_option linter.all false
set_option maxRecDepth 100000
set_option maxHeartbeats 4000000

namespace Hb
open PySem L2
/-! ### the walk, depths and ways, further -/
section
variable {ps : List (Option Nat)} {ks : List Nat} {x y z r i : Nat} {us vs wl : List Nat}
/-- where the children stand in the walk -/
def kidAt (ps : List (Option Nat)) (i : Nat) : List Nat → List Nat
  | [] => []
  | c :: cs => i :: kidAt ps (i + (pre ps c).length) cs
end
/-! ### children's spans follow one another -/
def kidEnd (ps : List (Option Nat)) (i : Nat) : List Nat → List Nat
  | [] => []
  | c :: cs => (i + (pre ps c).length) :: kidEnd ps (i + (pre ps c).length) cs
section
variable {ps : List (Option Nat)} {ks : List Nat} {x y z r i : Nat} {us vs wl : List Nat}
/-! ### ways -/
theorem way_rev (h : WayL ps x y wl) : WayL ps y x wl.reverse := by
  obtain ⟨A, B, z, C, u1, u2, n1, n2, rfl⟩ := h
  exact ⟨B, A, z, C, u2, u1, n2, n1, by simp⟩
theorem way_nodup (h : WayL ps x y wl) : wl.Nodup := by
  obtain ⟨A, B, z, C, u1, u2, n1, n2, rfl⟩ := h
  have d1 := u1.nodup
  have d2 := u2.nodup
  rw [List.nodup_append] at d1 d2 ⊢
  refine ⟨d1.1, List.nodup_cons.mpr ⟨fun hm => d2.2.2 z (List.mem_reverse.mp hm) z (by simp) rfl, (List.reverse_perm B).nodup_iff.mpr d2.1⟩, fun a ha b hb e => ?_⟩
  subst e
  rcases List.mem_cons.mp hb with e | hb
  · exact n1 a ha (by simp [e])
  · exact n1 a ha (by have := List.mem_reverse.mp hb; simp [this])
theorem up_edge {A R : List Nat} {k a b : Nat} (hu : UpL ps x us) (h1 : us[k]? = some a) (h2 : us[k + 1]? = some b) : ps[a]? = some (some b) := by
  have hk := (List.getElem?_eq_some_iff.mp h1).1
  have hk2 := (List.getElem?_eq_some_iff.mp h2).1
  have e : us = us.take k ++ a :: b :: us.drop (k + 2) := by
    conv => lhs; rw [← List.take_append_drop k us, List.drop_eq_getElem_cons hk, (List.getElem?_eq_some_iff.mp h1).2, List.drop_eq_getElem_cons hk2, (List.getElem?_eq_some_iff.mp h2).2]
  rw [e] at hu
  have h3 := hu.suf
  cases h3 with
  | step e2 h4 =>
    obtain ⟨t, e3⟩ := h4.hd
    cases e3
    exact e2
theorem way_edge {k a b : Nat} (h : WayL ps x y wl) (h1 : wl[k]? = some a) (h2 : wl[k + 1]? = some b) : ps[a]? = some (some b) ∨ ps[b]? = some (some a) := by
  obtain ⟨A, B, z, C, u1, u2, n1, n2, rfl⟩ := h
  by_cases hk : k < A.length
  · left
    rw [List.getElem?_append_left hk] at h1
    refine up_edge (A := []) (R := []) u1 (k := k) (by rw [List.getElem?_append_left hk]; exact h1) ?_
    by_cases hk2 : k + 1 < A.length
    · rw [List.getElem?_append_left hk2] at h2 ⊢
      exact h2
    · rw [List.getElem?_append_right (by omega), show k + 1 - A.length = 0 by omega] at h2 ⊢
      exact h2
  · right
    have hkl := (List.getElem?_eq_some_iff.mp h2).1
    rw [List.length_append, List.length_cons, List.length_reverse] at hkl
    have e : (A ++ z :: B.reverse) = A ++ (B ++ [z]).reverse := by simp
    rw [e, List.getElem?_append_right (by omega)] at h1 h2
    rw [List.getElem?_reverse (by simp; omega)] at h1 h2
    rw [List.length_append, List.length_singleton] at h1 h2
    have e1 : B.length + 1 - 1 - (k - A.length) = (B.length + 1 - 1 - (k + 1 - A.length)) + 1 := by omega
    rw [e1] at h1
    have up : ∀ m w, (B ++ [z])[m]? = some w → (B ++ z :: C)[m]? = some w := fun m w hm => by
      have hml := (List.getElem?_eq_some_iff.mp hm).1
      rw [show B ++ z :: C = (B ++ [z]) ++ C by simp, List.getElem?_append_left hml]
      exact hm
    exact up_edge (A := []) (R := []) u2 (up _ _ h2) (up _ _ h1)
end
/-! ### depths -/
def upF (ps : List (Option Nat)) : Nat → Nat → List Nat
  | 0, x => [x]
  | f + 1, x => match ps[x]? with
    | some (some y) => x :: upF ps f y
    | _ => [x]
def dpN (ps : List (Option Nat)) (x : Nat) : Nat := (upF ps ps.length x).length - 1
section
variable {ps : List (Option Nat)} {ks : List Nat} {x y z r i : Nat} {us vs wl : List Nat}
theorem UpL.upF (hu : UpL ps x us) : ∀ f, us.length ≤ f + 1 → Hb.upF ps f x = us := by
  induction hu with
  | root e =>
    intro f _
    cases f with
    | zero => rfl
    | succ f => simp [Hb.upF, e]
  | step e h ih =>
    intro f hf
    cases f with
    | zero =>
      obtain ⟨t, rfl⟩ := h.hd
      simp at hf
    | succ f =>
      simp only [Hb.upF, e]
      rw [ih f (by rw [List.length_cons] at hf; omega)]
theorem UpL.dp (hu : UpL ps x us) : us.length = dpN ps x + 1 := by
  unfold dpN
  rw [hu.upF _ (by have := nodup_le hu.nodup hu.lt; omega)]
  obtain ⟨t, rfl⟩ := hu.hd
  simp
/-- what a way shows of depths -/
structure WayD (ps : List (Option Nat)) (x y : Nat) (wl : List Nat) (z k d : Nat) : Prop where
  at' : wl[k]? = some z
  deep : dpN ps z = d
  all : ∀ j w, wl[j]? = some w → d ≤ dpN ps w ∧ (j ≠ k → d < dpN ps w)
  len : (wl.length : Int) = (dpN ps x : Int) + dpN ps y - 2 * d + 1
  one : ∀ us, UpL ps x us → z ∈ us
  two : ∀ us, UpL ps y us → z ∈ us
  first : wl[0]? = some x
  last : ∃ l, wl = l ++ [y]
theorem up_deep {k w : Nat} (hu : UpL ps x us) (h : us[k]? = some w) : dpN ps w + k + 1 = us.length := by
  have hk := (List.getElem?_eq_some_iff.mp h).1
  have e : us = us.take k ++ w :: us.drop (k + 1) := by
    conv => lhs; rw [← List.take_append_drop k us, List.drop_eq_getElem_cons hk, (List.getElem?_eq_some_iff.mp h).2]
  have hu2 := hu
  rw [e] at hu2
  have := hu2.suf.dp
  rw [List.length_cons, List.length_drop] at this
  omega
theorem up_first (hu : UpL ps x us) : us[0]? = some x := by obtain ⟨t, rfl⟩ := hu.hd; rfl
theorem WayL.deep (h : WayL ps x y wl) : ∃ z k d, WayD ps x y wl z k d := by
  obtain ⟨A, B, z, C, u1, u2, n1, n2, rfl⟩ := h
  have hz : dpN ps z = C.length := by
    have := u1.suf.dp
    rw [List.length_cons] at this
    omega
  have l1 := u1.dp
  have l2 := u2.dp
  rw [List.length_append, List.length_cons] at l1 l2
  refine ⟨z, A.length, C.length, ⟨by simp, hz, fun j w hj => ?_, ?_, fun us hu => ?_, fun us hu => ?_, ?_, ?_⟩⟩
  · by_cases h1 : j < A.length
    · rw [List.getElem?_append_left h1] at hj
      have := up_deep u1 (k := j) (w := w) (by rw [List.getElem?_append_left h1]; exact hj)
      rw [List.length_append, List.length_cons] at this
      exact ⟨by omega, fun _ => by omega⟩
    · rw [List.getElem?_append_right (by omega)] at hj
      by_cases h2 : j = A.length
      · subst h2
        rw [Nat.sub_self] at hj
        have : z = w := by simpa using hj
        subst this
        exact ⟨by omega, fun h => absurd rfl h⟩
      · obtain ⟨m, em⟩ : ∃ m, j - A.length = m + 1 := ⟨j - A.length - 1, by omega⟩
        rw [em, List.getElem?_cons_succ] at hj
        have hm := (List.getElem?_eq_some_iff.mp hj).1
        rw [List.length_reverse] at hm
        rw [List.getElem?_reverse hm] at hj
        have := up_deep u2 (k := B.length - 1 - m) (w := w) (by rw [List.getElem?_append_left (by omega)]; exact hj)
        rw [List.length_append, List.length_cons] at this
        exact ⟨by omega, fun _ => by omega⟩
  · rw [List.length_append, List.length_cons, List.length_reverse]
    omega
  · rw [hu.det u1]
    simp
  · rw [hu.det u2]
    simp
  · have := up_first u1
    cases A with
    | nil => simpa using this
    | cons a A => simpa using this
  · have := up_first u2
    cases B with
    | nil =>
      have e : z = y := by simpa using this
      exact ⟨A, by rw [e]; rfl⟩
    | cons b B =>
      have e : b = y := by simpa using this
      exact ⟨A ++ z :: B.reverse, by rw [e]; simp⟩
end
end Hb

set_option Elab.async false
set_option linter.all false
set_option maxRecDepth 100000
set_option maxHeartbeats 4000000

namespace Hb
open PySem L2
/-! ### places below which no hue stands that stands elsewhere, too -/
abbrev ClN (ps : List (Option Nat)) (hs : List Int) (x : Nat) : Prop := ∀ y, y < ps.length → hs.getD y 0 ∈ huesAt hs (pre ps x) → y ∈ pre ps x
open Classical in
noncomputable def clL (ps : List (Option Nat)) (hs : List Int) (n : Nat) : List Nat := (List.range n).filter fun x => decide (ClN ps hs x)
section
variable {ps : List (Option Nat)} {ks : List Nat} {hs : List Int} {x y r i : Nat}
def spClosed : Sp := fun vs H Q _ => ∃ (a b : Addr) (ps : List (Option Nat)) (ks : List Nat) (hs : List Int), vs = [.ref a, .ref b] ∧ H a = some (.lst (ps.map oV)) ∧ H b = some (.lst (intsV hs)) ∧ ps.length ≤ 200 ∧ IsTr ps ks ∧ hs.length = ps.length ∧
  ∀ q H', H q = none → H' q = some (.lst (natsV (clL ps hs ps.length))) → Same H H' → Q (.ref q) H'
/-- the first of a way up that stands in a list -/
def spFClosed : Sp := fun vs H Q _ => ∃ (a b : Addr) (ps : List (Option Nat)) (ks : List Nat) (hs : List Int) (x : Nat), vs = [.ref a, .ref b, .int x] ∧ H a = some (.lst (ps.map oV)) ∧ H b = some (.lst (intsV hs)) ∧ ps.length ≤ 200 ∧ IsTr ps ks ∧ hs.length = ps.length ∧ x < ps.length ∧
  ∀ (us : List Nat) (f : Nat) H', UpL ps x us → (us.filter fun u => decide (u ∈ clL ps hs ps.length))[0]? = some f → Same H H' → Q (.int (f : Nat)) H'
end
section
variable {H : Hp} {Q : VK} {E : XK} {a b : Addr} {ps : List (Option Nat)} {ks : List Nat} {hs : List Int} {x : Nat}
end
/-- a reel's hues for a tree -/
def spSomeHues : Sp := fun vs H Q _ => ∃ (r a : Addr) (ρ : Rl) (ps : List (Option Nat)) (ks : List Nat), vs = [.ref r, .ref a] ∧ H r = some (reelO ρ) ∧ H a = some (.lst (ps.map oV)) ∧ a ≠ r ∧ ps.length ≤ 200 ∧ IsTr ps ks ∧
  ∀ ρ' (hs : List Int) q H', hs.length = ps.length → H q = none → H' q = some (.lst (intsV hs)) → H' r = some (reelO ρ') → Kp r H H' → Q (.ref q) H'
theorem int_at {l : List Int} {i : Nat} {x : V} (hx : (intsV l)[i]? = some x) : ∃ n : Int, l[i]? = some n ∧ x = .int n := by
  rw [List.getElem?_map] at hx
  cases e : l[i]? with
  | none => rw [e] at hx; cases hx
  | some z => rw [e] at hx; exact ⟨z, rfl, (Option.some.inj hx).symm⟩
end Hb

set_option Elab.async false
set_option linter.all false
set_option maxRecDepth 100000
set_option maxHeartbeats 4000000

namespace Hb
open PySem L2
/-! ### how many steps beneath a place -/
section
variable {ps : List (Option Nat)} {ks : List Nat} {x y z r i e p : Nat} {us : List Nat}
/-- the steps as far as the walk is gone -/
def stI (ps : List (Option Nat)) (w : List Nat) (x i y : Nat) : Option Nat := if y = x then some 0 else if y ∈ w.take i ∧ y ∈ pre ps x then some (dpN ps y - dpN ps x) else none
/-- how many steps beneath a place, none where it stands elsewhere -/
def stN (ps : List (Option Nat)) (x y : Nat) : Option Nat := if y ∈ pre ps x then some (dpN ps y - dpN ps x) else none
abbrev stRow (ps : List (Option Nat)) (w : List Nat) (x i : Nat) : List V := (List.range ps.length).map fun y => oV (stI ps w x i y)
end
def spBeneath : Sp := fun vs H Q _ => ∃ (a b : Addr) (ps : List (Option Nat)) (ks : List Nat) (r x : Nat), vs = [.ref a, .ref b, .int x] ∧ H a = some (.lst (ps.map oV)) ∧ H b = some (.lst (natsV (walkN ps r))) ∧ ks[0]? = some r ∧ ps.length ≤ 200 ∧ IsTr ps ks ∧ x < ps.length ∧
  ∀ q H', H q = none → H' q = some (.lst ((List.range ps.length).map fun y => oV (stN ps x y))) → Same H H' → Q (.ref q) H'
def spDepths : Sp := fun vs H Q _ => ∃ (a : Addr) (ps : List (Option Nat)) (ks : List Nat), vs = [.ref a] ∧ H a = some (.lst (ps.map oV)) ∧ ps.length ≤ 200 ∧ IsTr ps ks ∧
  ∀ q H', H q = none → H' q = some (.lst (natsV ((List.range ps.length).map (dpN ps)))) → Same H H' → Q (.ref q) H'
section
variable {H : Hp} {Q : VK} {E : XK} {a b : Addr} {ps : List (Option Nat)} {ks : List Nat} {hs : List Int} {x r : Nat}
end
/-! ### places below which all wanted hues stand -/
def hoB (ps : List (Option Nat)) (hs ws : List Int) (x : Nat) : Bool := ws.all fun k => decide (k ∈ huesAt hs (pre ps x))
abbrev hoL (ps : List (Option Nat)) (hs ws : List Int) (n : Nat) : List Nat := (List.range n).filter (hoB ps hs ws)
section
variable {ps : List (Option Nat)} {ks : List Nat} {hs ws : List Int} {x y r i n : Nat}
/-- of these the deepest, of the deepest the least -/
abbrev rkD (ps : List (Option Nat)) (y : Nat) : Int × Int := (-(dpN ps y : Int), (y : Int))
def Low (ps : List (Option Nat)) (l : List Nat) : Option Nat → Prop
  | none => l = []
  | some x => x ∈ l ∧ ∀ y ∈ l, le2 (rkD ps x) (rkD ps y)
theorem Low.det {l : List Nat} {o o' : Option Nat} (h : Low ps l o) (h' : Low ps l o') : o = o' := by
  match o, o', h, h' with
  | none, none, _, _ => rfl
  | none, some x, h, h' => have h : l = [] := h; subst h; cases h'.1
  | some x, none, h, h' => have h' : l = [] := h'; subst h'; cases h.1
  | some x, some y, h, h' =>
    have h1 := h.2 y h'.1
    have h2 := h'.2 x h.1
    unfold le2 at h1 h2
    simp only at h1 h2
    have : x = y := by omega
    rw [this]
end
/-- the pair that lies there -/
def pairF (H : Hp) (t : Addr) : Int × Int := match H t with
  | some (.tup [.int x, .int y]) => (x, y)
  | _ => (0, 0)
def spHolding : Sp := fun vs H Q _ => ∃ (a b c : Addr) (ps : List (Option Nat)) (ks : List Nat) (hs ws : List Int), vs = [.ref a, .ref b, .ref c] ∧ H a = some (.lst (ps.map oV)) ∧ H b = some (.lst (intsV hs)) ∧ H c = some (.lst (intsV ws)) ∧ ps.length ≤ 200 ∧ IsTr ps ks ∧ hs.length = ps.length ∧ ws.length ≤ 1000 ∧
  ∀ q H', H q = none → H' q = some (.lst (natsV (hoL ps hs ws ps.length))) → Same H H' → Q (.ref q) H'
def spLowest : Sp := fun vs H Q _ => ∃ (a b c : Addr) (ps : List (Option Nat)) (ks : List Nat) (hs ws : List Int), vs = [.ref a, .ref b, .ref c] ∧ H a = some (.lst (ps.map oV)) ∧ H b = some (.lst (intsV hs)) ∧ H c = some (.lst (intsV ws)) ∧ ps.length ≤ 200 ∧ IsTr ps ks ∧ hs.length = ps.length ∧ ws.length ≤ 1000 ∧
  ∀ o H', Low ps (hoL ps hs ws ps.length) o → Same H H' → Q (oV o) H'
section
variable {H : Hp} {Q : VK} {E : XK} {a b c : Addr} {ps : List (Option Nat)} {ks : List Nat} {hs ws : List Int}
end
/-- hues by a cell -/
def spLHues : Sp := fun vs H Q _ => ∃ (c : Int) (n : Nat), vs = [.int c, .int n] ∧ n ≤ 200 ∧ ∀ (hs : List Int) q H', hs.length = n → H q = none → H' q = some (.lst (intsV hs)) → Same H H' → Q (.ref q) H'
/-! ### the law's own looking for them -/
section
variable {ps : List (Option Nat)} {ks : List Nat} {hs ws : List Int} {x y n : Nat} {k : Int}
/-- the places above such a hue, as far as j places are looked at -/
def Abv (ps : List (Option Nat)) (hs : List Int) (k : Int) (j : Nat) (kvs : List (Key × V)) : Prop := ∀ y : Nat, (valV kvs (Sum.inl (y : Int))).isSome = true ↔ ∃ z, z < j ∧ hs.getD z 0 = k ∧ ∃ us, UpL ps z us ∧ y ∈ us
theorem Abv.start : Abv ps hs k 0 [] := fun y => by
  rw [valV_nil]
  constructor
  · intro z; cases z
  · rintro ⟨z, hz, _⟩; omega
theorem Abv.skip {j : Nat} {kvs : List (Key × V)} (h : Abv ps hs k j kvs) (hj : hs.getD j 0 ≠ k) : Abv ps hs k (j + 1) kvs := fun y => by
  rw [h y]
  constructor
  · rintro ⟨z, h1, h2⟩; exact ⟨z, by omega, h2⟩
  · rintro ⟨z, h1, h2, h3⟩
    refine ⟨z, ?_, h2, h3⟩
    by_cases e : z = j
    · subst e; exact absurd h2 hj
    · omega
theorem Abv.put {j : Nat} {kvs : List (Key × V)} {us : List Nat} (h : Abv ps hs k j kvs) (hj : hs.getD j 0 = k) (hu : UpL ps j us) : Abv ps hs k (j + 1) (mergeK kvs (mergeK [] (us.map fun (y : Nat) => ((Sum.inl (y : Int), V.bl true) : Key × V)))) := fun y => by
  have e2 : (Sum.inl (y : Int) : Key) ∈ (mergeK [] (us.map fun (y : Nat) => ((Sum.inl (y : Int), V.bl true) : Key × V))).map (fun (kv : Key × V) => kv.1) ↔ y ∈ us := by
    have q := valV_merge (us.map fun (y : Nat) => ((Sum.inl (y : Int), V.bl true) : Key × V)) [] (Sum.inl (y : Int))
    rw [valV_nil, List.map_map] at q
    have q2 : (valV (mergeK [] (us.map fun (y : Nat) => ((Sum.inl (y : Int), V.bl true) : Key × V))) (Sum.inl (y : Int))).isSome = true ↔ (Sum.inl (y : Int) : Key) ∈ (mergeK [] (us.map fun (y : Nat) => ((Sum.inl (y : Int), V.bl true) : Key × V))).map (fun (kv : Key × V) => kv.1) := by
      constructor
      · intro z
        obtain ⟨v, hv⟩ := Option.isSome_iff_exists.mp z
        exact valV_in hv
      · intro z
        cases hv : valV (mergeK [] (us.map fun (y : Nat) => ((Sum.inl (y : Int), V.bl true) : Key × V))) (Sum.inl (y : Int)) with
        | some v => rfl
        | none => exact absurd z (valV_not hv)
    rw [← q2, q]
    constructor
    · rintro (z | z)
      · cases z
      · obtain ⟨w, hw, e⟩ := List.mem_map.mp z
        have := Sum.inl.inj e
        have : w = y := by omega
        rw [← this]; exact hw
    · intro z
      exact .inr (List.mem_map.mpr ⟨y, z, rfl⟩)
  rw [valV_merge, h y, e2]
  constructor
  · rintro (⟨z, h1, h2⟩ | z)
    · exact ⟨z, by omega, h2⟩
    · exact ⟨j, by omega, hj, us, hu, z⟩
  · rintro ⟨z, h1, h2, vs, hv, hm⟩
    by_cases e : z = j
    · subst e
      rw [hv.det hu] at hm
      exact .inr hm
    · exact .inl ⟨z, by omega, h2, vs, hv, hm⟩
theorem Abv.end {kvs : List (Key × V)} (ht : IsTr ps ks) (h : Abv ps hs k ps.length kvs) (hx : x < ps.length) : (valV kvs (Sum.inl (x : Int))).isSome = decide (k ∈ huesAt hs (pre ps x)) := by
  obtain ⟨ux, hux, _⟩ := ht.upl hx
  rw [Bool.eq_iff_iff, h x, decide_eq_true_iff, List.mem_map]
  constructor
  · rintro ⟨z, h1, h2, us, hu, hm⟩
    exact ⟨z, (mem_pre hux).mpr ⟨us, hu, hm⟩, h2⟩
  · rintro ⟨z, h1, h2⟩
    obtain ⟨us, hu, hm⟩ := (mem_pre hux).mp h1
    exact ⟨z, hu.lt z (by obtain ⟨t, rfl⟩ := hu.hd; simp), h2, us, hu, hm⟩
end
end Hb

set_option Elab.async false
set_option linter.all false
set_option maxRecDepth 100000
set_option maxHeartbeats 4000000

namespace Hb
open PySem L2
/-! ### pots -/
structure Pt where
  x : Int
  y : Int
abbrev potO (ρ : Pt) : HO := .lst [.int ρ.x, .int ρ.y]
def spNext : Sp := fun vs H Q _ => ∃ (r : Addr) (ρ : Pt) (n : Int), vs = [.ref r, .int n] ∧ H r = some (potO ρ) ∧ 0 < n ∧ n ≤ 1000000000 ∧
  ∀ ρ' z H', 0 ≤ z → z < n → H' = upd H r (potO ρ') → Q (.int z) H'
/-- the pots of a script: each a list of two whole numbers of its own -/
def spPots (K : PySem.W.Frag) : Sp := fun vs H Q _ => ∃ (a : Addr) (ns : List Int), vs = [.ref a] ∧ SqL K H a (ns.map V.int) ∧ ns.length ≤ 63 ∧
  ∀ (as : List Addr) (ρs : List Pt) q H', as.length = ρs.length → as.Nodup → (∀ (j : Nat) b ρ, as[j]? = some b → ρs[j]? = some ρ → H b = none ∧ b ≠ q ∧ H' b = some (potO ρ)) → H q = none → H' q = some (.lst (as.map V.ref)) → Same H H' → Q (.ref q) H'
/-- what is drawn of a pot: places in some order, a tree, hues -/
def spPOrder : Sp := fun vs H Q _ => ∃ (r : Addr) (ρ : Pt) (n : Nat), vs = [.ref r, .int n] ∧ H r = some (potO ρ) ∧ n ≤ 200 ∧
  ∀ ρ' (ks : List Nat) q H', ks.Perm (List.range n) → H q = none → H' q = some (.lst (natsV ks)) → H' r = some (potO ρ') → Kp r H H' → Q (.ref q) H'
def spPTree : Sp := fun vs H Q _ => ∃ (r : Addr) (ρ : Pt) (m : Int), vs = [.ref r, .int m] ∧ H r = some (potO ρ) ∧ 1 ≤ m ∧ m ≤ 200 ∧
  ∀ ρ' (ps : List (Option Nat)) (ks : List Nat) q H', IsTr ps ks → ps.length ≤ m.toNat → H q = none → H' q = some (.lst (ps.map oV)) → H' r = some (potO ρ') → Kp r H H' → Q (.ref q) H'
def spPHues : Sp := fun vs H Q _ => ∃ (r : Addr) (ρ : Pt) (n : Nat), vs = [.ref r, .int n] ∧ H r = some (potO ρ) ∧ n ≤ 200 ∧
  ∀ ρ' (hs : List Int) q H', hs.length = n → H q = none → H' q = some (.lst (intsV hs)) → H' r = some (potO ρ') → Kp r H H' → Q (.ref q) H'
section
variable {H : Hp} {Q : VK} {E : XK} {r : Addr} {ρ : Pt} {m : Int} {n : Nat}
end
/-! ### how often -/
structure Cnt (l : List Int) (prs : List (Int × Int)) : Prop where
  nd : (prs.map fun p => p.1).Nodup
  mem : ∀ k c, (k, c) ∈ prs ↔ k ∈ l ∧ c = (l.count k : Nat)
abbrev cF (p : Int × Int) : Key × V := (Sum.inl p.1, V.int p.2)
theorem Cnt.nil : Cnt [] [] := ⟨List.nodup_nil, fun k c => by simp⟩
theorem Cnt.perm {l : List Int} {prs qs : List (Int × Int)} (h : Cnt l prs) (p : qs.Perm prs) : Cnt l qs := ⟨(p.map _).nodup_iff.mpr h.nd, fun k c => by rw [p.mem_iff]; exact h.mem k c⟩
theorem Cnt.congr {l l' : List Int} {prs : List (Int × Int)} (h : Cnt l prs) (p : l.Perm l') : Cnt l' prs := ⟨h.nd, fun k c => by rw [h.mem, p.mem_iff, p.count_eq]⟩
theorem valV_cF : ∀ (prs : List (Int × Int)) (k : Int), (∀ c, (k, c) ∉ prs) → valV (prs.map cF) (Sum.inl k) = none
  | [], k, _ => rfl
  | p :: prs, k, h => by
    rw [List.map_cons, valV_neg (fun z => h p.2 (by rw [← show p.1 = k from Sum.inl.inj z]; exact List.mem_cons_self))]
    exact valV_cF prs k fun c hc => h c (List.mem_cons_of_mem _ hc)
theorem valV_cF' : ∀ (prs : List (Int × Int)) (k c : Int), (prs.map fun p => p.1).Nodup → (k, c) ∈ prs → valV (prs.map cF) (Sum.inl k) = some (V.int c)
  | p :: prs, k, c, nd, h => by
    rw [List.map_cons] at nd
    obtain ⟨n1, n2⟩ := List.nodup_cons.mp nd
    rcases List.mem_cons.mp h with e | e
    · subst e; rw [List.map_cons, valV_pos rfl]
    · rw [List.map_cons, valV_neg (fun z => n1 (List.mem_map.mpr ⟨(k, c), e, (Sum.inl.inj z).symm⟩))]
      exact valV_cF' prs k c n2 e
theorem Cnt.get {l : List Int} {prs : List (Int × Int)} (h : Cnt l prs) (k : Int) : (valV (prs.map cF) (Sum.inl k)).getD (V.int 0) = V.int ((l.count k : Nat) : Int) := by
  by_cases hk : k ∈ l
  · rw [valV_cF' prs k _ h.nd ((h.mem k _).mpr ⟨hk, rfl⟩)]; rfl
  · rw [valV_cF prs k fun c hc => hk ((h.mem k c).mp hc).1, List.count_eq_zero_of_not_mem hk]; rfl
theorem Cnt.len {l : List Int} {prs : List (Int × Int)} (h : Cnt l prs) : prs.length ≤ l.length := by
  have := h.nd.length_le_of_subset (l₂ := l) fun k hk => by
    obtain ⟨⟨j, c⟩, hm, rfl⟩ := List.mem_map.mp hk
    exact ((h.mem j c).mp hm).1
  rwa [List.length_map] at this
/-- the most frequent one, of these the least -/
structure MostR (l : List Int) (m k : Int) : Prop where
  mem : k ∈ l
  many : m = (l.count k : Nat)
  best : ∀ j ∈ l, ((l.count j : Nat) : Int) < m ∨ (((l.count j : Nat) : Int) = m ∧ k ≤ j)
theorem MostR.det {l : List Int} {m k m' k' : Int} (h : MostR l m k) (h' : MostR l m' k') : m = m' ∧ k = k' := by
  have h1 := h.best k' h'.mem
  have h2 := h'.best k h.mem
  have h3 := h.many
  have h4 := h'.many
  omega
theorem MostR.congr {l l' : List Int} {m k : Int} (h : MostR l m k) (p : l.Perm l') : MostR l' m k := ⟨p.mem_iff.mp h.mem, by rw [← p.count_eq]; exact h.many, fun j hj => by rw [← p.count_eq]; exact h.best j (p.mem_iff.mpr hj)⟩
/-- the best one as far as it is gone -/
structure BestP (qs : List (Int × Int)) (m k : Int) : Prop where
  mem : (k, m) ∈ qs
  best : ∀ j c, (j, c) ∈ qs → c < m ∨ (c = m ∧ k ≤ j)
theorem BestP.most {l : List Int} {qs : List (Int × Int)} {m k : Int} (hc : Cnt l qs) (h : BestP qs m k) : MostR l m k :=
  ⟨((hc.mem k m).mp h.mem).1, ((hc.mem k m).mp h.mem).2, fun j hj => h.best j _ ((hc.mem j _).mpr ⟨hj, rfl⟩)⟩
theorem BestP.more {qs : List (Int × Int)} {m k j c : Int} (h : BestP qs m k) (hc : m < c) : BestP (qs ++ [(j, c)]) c j := by
  refine ⟨by simp, fun j' c' hm => ?_⟩
  rcases List.mem_append.mp hm with hm | hm
  · have := h.best j' c' hm; omega
  · cases List.mem_singleton.mp hm; exact .inr ⟨rfl, Int.le_refl _⟩
theorem BestP.stay {qs : List (Int × Int)} {m k j c : Int} (h : BestP qs m k) (hc : ¬ m < c) (hr : ∀ p ∈ qs, p.1 < j) : BestP (qs ++ [(j, c)]) m k := by
  refine ⟨List.mem_append_left _ h.mem, fun j' c' hm => ?_⟩
  rcases List.mem_append.mp hm with hm | hm
  · exact h.best j' c' hm
  · cases List.mem_singleton.mp hm
    have : k < j := hr (k, m) h.mem
    omega
def spCount21 : Sp := fun vs H Q _ => ∃ (a : Addr) (l : List Int), vs = [.ref a] ∧ H a = some (.lst (intsV l)) ∧ l.length ≤ 1000 ∧
  ∀ (us : List Addr) (qs : List (Int × Int)) q H', us.length = qs.length → Cnt l qs → qs.Pairwise (fun p q => p.1 < q.1) → (∀ (j : Nat) u pq, us[j]? = some u → qs[j]? = some pq → H u = none ∧ H' u = some (.tup [.int pq.1, .int pq.2])) → H q = none → H' q = some (.lst (us.map V.ref)) → Same H H' → Q (.ref q) H'
def spMostIn : Sp := fun vs H Q _ => ∃ (a : Addr) (l : List Int), vs = [.ref a] ∧ H a = some (.lst (intsV l)) ∧ l.length ≤ 1000 ∧
  (l = [] → ∀ H', Same H H' → Q .non H') ∧ ∀ t m k H', MostR l m k → H t = none → H' t = some (.tup [.int m, .int k]) → Same H H' → Q (.ref t) H'
def spMostAll : Sp := fun vs H Q _ => ∃ (a b : Addr) (ps : List (Option Nat)) (ks : List Nat) (hs : List Int), vs = [.ref a, .ref b] ∧ H a = some (.lst (ps.map oV)) ∧ H b = some (.lst (intsV hs)) ∧ ps.length ≤ 200 ∧ IsTr ps ks ∧ hs.length = ps.length ∧
  ∀ (as : List Addr) q H', as.length = ps.length → (∀ (x : Nat) t, as[x]? = some t → H t = none ∧ t ≠ q ∧ ∃ m k, MostR (huesAt hs (pre ps x)) m k ∧ H' t = some (.tup [.int m, .int k])) → H q = none → H' q = some (.lst (as.map V.ref)) → Same H H' → Q (.ref q) H'
section
variable {H : Hp} {Q : VK} {E : XK} {a b : Addr} {l : List Int} {ps : List (Option Nat)} {ks : List Nat} {hs : List Int}
end
def spAlikeS (n : Nat) : Sp := fun vs H Q _ => ∃ x y, vs = [x, y] ∧ Alk H n x y ∧ ∀ H', Same H H' → Q (.bl true) H'
/-! ### rows of dicts -/
def rowsD (as : List Addr) (pss : List (List (Int × Int))) : List (Addr × HO) := as.zip (pss.map fun prs => HO.dK (prs.map cF))
/-- the counts of each place, amid the way up of place i, A already told -/
def CntR (ps : List (Option Nat)) (hs : List Int) (i : Nat) (A : List Nat) (pss : List (List (Int × Int))) : Prop := pss.length = ps.length ∧ ∀ (x : Nat) prs, pss[x]? = some prs → Cnt (huesAt hs (belRow ps i A x)) prs
theorem CntR.start {ps : List (Option Nat)} {hs : List Int} : CntR ps hs 0 [] (List.replicate ps.length []) := by
  refine ⟨List.length_replicate, fun x prs e => ?_⟩
  have h := (List.getElem?_eq_some_iff.mp e).2
  rw [List.getElem_replicate] at h
  subst h
  rw [belRow_nil]
  exact Cnt.nil
theorem CntR.put {ps : List (Option Nat)} {hs : List Int} {i z : Nat} {A : List Nat} {pss : List (List (Int × Int))} {prs' : List (Int × Int)} (h : CntR ps hs i A pss) (hz : z ∉ A) (hc : Cnt (huesAt hs (belRow ps i A z) ++ [hs.getD i 0]) prs') : CntR ps hs i (A ++ [z]) (pss.set z prs') := by
  refine ⟨by rw [List.length_set]; exact h.1, fun x prs e => ?_⟩
  by_cases c : z = x
  · subst c
    have hl := (List.getElem?_eq_some_iff.mp e).1
    rw [List.length_set] at hl
    rw [List.getElem?_set_self hl] at e
    cases e
    have : huesAt hs (belRow ps i (A ++ [z]) z) = huesAt hs (belRow ps i A z) ++ [hs.getD i 0] := by
      unfold belRow
      rw [if_pos (by simp), if_neg hz, List.append_nil, huesAt, huesAt, List.map_append]
      rfl
    rw [this]
    exact hc
  · rw [List.getElem?_set_ne c] at e
    have : belRow ps i (A ++ [z]) x = belRow ps i A x := by
      unfold belRow
      have : x ∈ A ++ [z] ↔ x ∈ A := by simp [Ne.symm c]
      simp only [this]
    rw [this]
    exact h.2 x prs e
theorem CntR.next {ps : List (Option Nat)} {ks : List Nat} {hs : List Int} {i : Nat} {us : List Nat} {pss : List (List (Int × Int))} (ht : IsTr ps ks) (hi : i < ps.length) (hu : UpL ps i us) (h : CntR ps hs i us pss) : CntR ps hs (i + 1) [] pss := by
  refine ⟨h.1, fun x prs e => ?_⟩
  have hx : x < ps.length := by have := (List.getElem?_eq_some_iff.mp e).1; rw [h.1] at this; exact this
  have := congrArg (fun l => l[x]?) (belRows_next ht hi hu)
  rw [belRows_at hx, belRows_at hx] at this
  have e2 : belRow ps (i + 1) [] x = belRow ps i us x := by
    have e3 := Option.some.inj this
    have inj : ∀ (a b : List Nat), natsV a = natsV b → a = b := fun a => by
      induction a with
      | nil => intro b e; cases b with | nil => rfl | cons _ _ => cases e
      | cons x a ih =>
        intro b e
        cases b with
        | nil => cases e
        | cons y b =>
          rw [natsV, natsV, List.map_cons, List.map_cons] at e
          injection e with e1 e2
          injection e1 with e1
          rw [ih b e2, show x = y by omega]
    exact inj _ _ e3
  rw [e2]
  exact h.2 x prs e
def spDue21 : Sp := fun vs H Q _ => ∃ (a b : Addr) (ps : List (Option Nat)) (ks : List Nat) (hs : List Int), vs = [.ref a, .ref b] ∧ H a = some (.lst (ps.map oV)) ∧ H b = some (.lst (intsV hs)) ∧ ps.length ≤ 200 ∧ IsTr ps ks ∧ hs.length = ps.length ∧
  ∀ (as : List Addr) q H', as.length = ps.length → (∀ (x : Nat) t, as[x]? = some t → H t = none ∧ t ≠ q ∧ ∃ m k, MostR (huesAt hs (pre ps x)) m k ∧ H' t = some (.tup [.int m, .int k])) → H q = none → H' q = some (.lst (as.map V.ref)) → Same H H' → Q (.ref q) H'
end Hb

set_option Elab.async false
set_option linter.all false
set_option maxRecDepth 100000
set_option maxHeartbeats 4000000

namespace Hb
open PySem L2
/-! ### parts -/
inductive Jn where
  | both | either | but
def Jn.word : Jn → Str
  | .both => "both"
  | .either => "either"
  | .but => "but"
def Jn.op : Jn → Prop → Prop → Prop
  | .both, a, b => a ∧ b
  | .either, a, b => a ∨ b
  | .but, a, b => a ∧ ¬ b
inductive Prt where
  | bel (x : Nat)
  | tod (x : Nat) (d : Int)
  | way (x y : Nat)
  | stretch (i j : Nat)
  | jn (w : Jn) (p q : Prt)
/-- a part as it lies in the heap -/
def PtA (H : Hp) : Prt → Addr → Prop
  | .bel x, a => H a = some (.tup [.str "below", .int (x : Nat)])
  | .tod x d, a => H a = some (.tup [.str "to", .int (x : Nat), .int d])
  | .way x y, a => H a = some (.tup [.str "way", .int (x : Nat), .int (y : Nat)])
  | .stretch i j, a => H a = some (.tup [.str "stretch", .int (i : Nat), .int (j : Nat)])
  | .jn w p q, a => ∃ b c, H a = some (.tup [.str w.word, .ref b, .ref c]) ∧ PtA H p b ∧ PtA H q c
theorem PtA.same {H H' : Hp} (s : Same H H') : ∀ {p : Prt} {a : Addr}, PtA H p a → PtA H' p a
  | .bel _, _, h => s _ _ h
  | .tod _ _, _, h => s _ _ h
  | .way _ _, _, h => s _ _ h
  | .stretch _ _, _, h => s _ _ h
  | .jn _ _ _, _, ⟨b, c, h, h1, h2⟩ => ⟨b, c, s _ _ h, h1.same s, h2.same s⟩
/-- what a part tells of is there -/
def Prt.Ok (n : Nat) : Prt → Prop
  | .bel x => x < n
  | .tod x d => x < n ∧ 0 ≤ d
  | .way x y => x < n ∧ y < n
  | .stretch i j => i < j ∧ j ≤ n
  | .jn _ p q => p.Ok n ∧ q.Ok n
/-- the places of a part -/
def Prt.inn (ps : List (Option Nat)) : Prt → Nat → Prop
  | .bel x, z => z ∈ pre ps x
  | .tod x d, z => z ∈ pre ps x ∧ ((dpN ps z - dpN ps x : Nat) : Int) ≤ d
  | .way x y, z => ∃ l, WayL ps x y l ∧ z ∈ l
  | .stretch i j, z => ∃ r k, ps[r]? = some none ∧ i ≤ k ∧ k < j ∧ (walkN ps r)[k]? = some z
  | .jn w p q, z => w.op (p.inn ps z) (q.inn ps z)
open Classical in
noncomputable def plP (ps : List (Option Nat)) (p : Prt) : List Nat := (List.range ps.length).filter fun z => decide (p.inn ps z)
/-! a part and all within it -/
def Prt.nodesR : Prt → List Prt
  | .jn w p q => p.nodesR ++ (q.nodesR ++ [.jn w p q])
  | x => [x]
def Prt.nodesF : Prt → List Prt
  | .jn w p q => .jn w p q :: (q.nodesF ++ p.nodesF)
  | x => [x]
def Prt.plain : Prt → Bool
  | .jn _ _ _ => false
  | _ => true
/-- the stack, gone through backwards -/
def stepP (S : List Prt) (x : Prt) : List Prt := if x.plain = true then S ++ [x] else S.dropLast.dropLast ++ [x]
def runP (l : List Prt) (S : List Prt) : List Prt := List.foldl stepP S l
/-- addresses of all within a part -/
def AtP (H : Hp) (es : List (Addr × Prt)) : Prop := ∀ e ∈ es, PtA H e.2 e.1
/-! the words -/
abbrev kLen : List (Key × V) := [(Sum.inr "below", .int 2), (Sum.inr "to", .int 3), (Sum.inr "way", .int 3), (Sum.inr "stretch", .int 3), (Sum.inr "both", .int 3), (Sum.inr "either", .int 3), (Sum.inr "but", .int 3)]
abbrev kPlain (f1 f2 f3 f4 : Addr) : List (Key × V) := [(Sum.inr "below", .ref f1), (Sum.inr "to", .ref f2), (Sum.inr "way", .ref f3), (Sum.inr "stretch", .ref f4)]
def Prt.word : Prt → Str
  | .bel _ => "below"
  | .tod _ _ => "to"
  | .way _ _ => "way"
  | .stretch _ _ => "stretch"
  | .jn w _ _ => w.word
/-- what stands behind the word -/
def PtB (H : Hp) : Prt → List V → Prop
  | .bel x, l => l = [.int (x : Nat)]
  | .tod x d, l => l = [.int (x : Nat), .int d]
  | .way x y, l => l = [.int (x : Nat), .int (y : Nat)]
  | .stretch i j, l => l = [.int (i : Nat), .int (j : Nat)]
  | .jn w p q, l => ∃ b c, l = [.ref b, .ref c] ∧ PtA H p b ∧ PtA H q c
theorem PtA.tup {H : Hp} : ∀ {p : Prt} {a : Addr}, PtA H p a → ∃ l, H a = some (.tup (.str p.word :: l)) ∧ PtB H p l ∧ valV kLen (Sum.inr p.word) = some (.int ((l.length : Nat) + 1)) ∧ l.length ≤ 2
  | .bel _, _, h => ⟨_, h, rfl, by rfl, by simp⟩
  | .tod _ _, _, h => ⟨_, h, rfl, by rfl, by simp⟩
  | .way _ _, _, h => ⟨_, h, rfl, by rfl, by simp⟩
  | .stretch _ _, _, h => ⟨_, h, rfl, by rfl, by simp⟩
  | .jn w p q, _, ⟨b, c, h, h1, h2⟩ => ⟨_, h, ⟨b, c, rfl, h1, h2⟩, by cases w <;> rfl, by simp⟩
/-! the defs -/
def spForm (K : PySem.W.Frag) : Sp := fun vs H Q _ => ∃ (a : Addr) (p : Prt), vs = [.ref a] ∧ PtA H p a ∧ Q (.bl true) H
def spWithin : Sp := fun vs H Q _ => ∃ (a : Addr) (p : Prt), vs = [.ref a] ∧ PtA H p a ∧ p.nodesF.length ≤ 50000 ∧
  ∀ (es : List (Addr × Prt)) q H', es.map (fun e => e.2) = p.nodesF → AtP H es → H q = none → H' q = some (.lst (es.map fun e => V.ref e.1)) → Same H H' → Q (.ref q) H'
def spPlaces : Sp := fun vs H Q _ => ∃ (a b : Addr) (ps : List (Option Nat)) (ks : List Nat) (p : Prt), vs = [.ref a, .ref b] ∧ H a = some (.lst (ps.map oV)) ∧ PtA H p b ∧ ps.length ≤ 200 ∧ IsTr ps ks ∧ p.Ok ps.length ∧ p.nodesF.length ≤ 50000 ∧
  ∀ q H', H q = none → H' q = some (.lst (natsV (plP ps p))) → Same H H' → Q (.ref q) H'
theorem r_eqS {x y : Str} {b : Bool} {H : Hp} {Q : VK} (e : decide (x = y) = b) (k : Q (.bl b) H) : rEq (.str x) (.str y) H Q := by
  refine ⟨rfl, ?_⟩
  have e2 : decide (V.str x = V.str y) = b := by
    rw [← e]
    by_cases h : x = y
    · subst h; simp
    · rw [decide_eq_false h, decide_eq_false (fun z => h (V.str.inj z))]
  rw [e2]
  exact k
/-- the places of one plain part -/
def spPl (f : Prt → Prop) : Sp := fun vs H Q _ => ∃ (a b c : Addr) (ps : List (Option Nat)) (ks : List Nat) (r : Nat) (p : Prt) (l : List V), vs = [.ref a, .ref b, .ref c] ∧ f p ∧ H a = some (.lst (ps.map oV)) ∧ H b = some (.lst (natsV (walkN ps r))) ∧ ks[0]? = some r ∧ ps.length ≤ 200 ∧ IsTr ps ks ∧ p.Ok ps.length ∧ H c = some (.tup l) ∧ PtB H p l ∧
  ∀ q H', H q = none → H' q = some (.lst (natsV (plP ps p))) → Same H H' → Q (.ref q) H'
def spNeedPt : Sp := fun vs H Q _ => ∃ (a : Addr) (ps : List (Option Nat)) (x : Nat), vs = [.ref a, .int (x : Nat)] ∧ H a = some (.lst (ps.map oV)) ∧ ps.length ≤ 200 ∧ x < ps.length ∧ Q .non H
open Classical in
noncomputable def plI (ps : List (Option Nat)) (p : Prt) (n : Nat) : List Nat := (List.range n).filter fun z => decide (p.inn ps z)
def spIsWhole : Sp := fun vs H Q _ => ∃ i : Int, vs = [.int i] ∧ Q (.bl true) H
theorem Df.at {P : Program} {w : World} {K : PySem.W.Frag} {mg : Str → Option Value} {base : Heap} {x : Str} {ps : List Str} {k : Nat} {sp : Sp} {f : Addr} (G : Df P w K mg base x ps k sp) (h : mg x = some (.ref f)) : DfAt P w K mg base f ps k sp := by
  obtain ⟨f', fd, hm, hk, hb, F⟩ := G.ex
  rw [h] at hm
  cases hm
  exact ⟨fd, hk, hb, F⟩
/-- the defs that look a plain part up -/
def LookD (f1 f2 f3 f4 : Addr) (f : Addr) (sp : Sp) : Prop := (f = f1 ∧ sp = spPl fun p => ∃ x, p = .bel x) ∨ (f = f2 ∧ sp = spPl fun p => ∃ x d, p = .tod x d) ∨ (f = f3 ∧ sp = spPl fun p => ∃ x y, p = .way x y) ∨ (f = f4 ∧ sp = spPl fun p => ∃ i j, p = .stretch i j)
def spPlain : Sp := fun vs H Q _ => ∃ (a b c : Addr) (ps : List (Option Nat)) (ks : List Nat) (r : Nat) (p : Prt), vs = [.ref a, .ref b, .ref c] ∧ p.plain = true ∧ H a = some (.lst (ps.map oV)) ∧ H b = some (.lst (natsV (walkN ps r))) ∧ ks[0]? = some r ∧ ps.length ≤ 200 ∧ IsTr ps ks ∧ p.Ok ps.length ∧ PtA H p c ∧
  ∀ q H', H q = none → H' q = some (.lst (natsV (plP ps p))) → Same H H' → Q (.ref q) H'
def spJoined : Sp := fun vs H Q _ => ∃ (a b : Addr) (ps : List (Option Nat)) (w : Jn) (p q : Prt), vs = [.str w.word, .ref a, .ref b] ∧ H a = some (.lst (natsV (plP ps p))) ∧ H b = some (.lst (natsV (plP ps q))) ∧ ps.length ≤ 200 ∧
  ∀ r H', H r = none → H' r = some (.lst (natsV (plP ps (.jn w p q)))) → Same H H' → Q (.ref r) H'
section
variable {H : Hp} {Q : VK} {E : XK} {a b : Addr} {p : Prt} {ps : List (Option Nat)} {ks : List Nat} {K : PySem.W.Frag}
end
/-! what is held -/
def HeldP (ps : List (Option Nat)) (R : List (Addr × HO)) (as : List Addr) (S : List Prt) : Prop := as.length = S.length ∧ ∀ (x : Nat) (b : Addr) (q : Prt), as[x]? = some b → S[x]? = some q → (b, HO.lst (natsV (plP ps q))) ∈ R
theorem HeldP.nil {ps : List (Option Nat)} : HeldP ps [] [] [] := ⟨rfl, fun x b q h => by simp at h⟩
theorem HeldP.snoc {ps : List (Option Nat)} {R : List (Addr × HO)} {as : List Addr} {S : List Prt} {b : Addr} {q : Prt} (h : HeldP ps R as S) : HeldP ps ((b, .lst (natsV (plP ps q))) :: R) (as ++ [b]) (S ++ [q]) := by
  refine ⟨by simp [h.1], fun x c r h1 h2 => ?_⟩
  by_cases hx : x < as.length
  · rw [List.getElem?_append_left hx] at h1
    rw [List.getElem?_append_left (by rw [← h.1]; exact hx)] at h2
    exact List.mem_cons_of_mem _ (h.2 x c r h1 h2)
  · rw [List.getElem?_append_right (by omega)] at h1
    rw [List.getElem?_append_right (by rw [← h.1]; omega), ← h.1] at h2
    have e0 : x - as.length = 0 := by have := (List.getElem?_eq_some_iff.mp h1).1; simp at this; omega
    rw [e0] at h1 h2
    cases h1
    cases h2
    exact List.Mem.head _
theorem HeldP.last {ps : List (Option Nat)} {R : List (Addr × HO)} {as : List Addr} {S : List Prt} {q : Prt} (h : HeldP ps R as (S ++ [q])) : ∃ as' b, as = as' ++ [b] ∧ HeldP ps R as' S ∧ (b, HO.lst (natsV (plP ps q))) ∈ R := by
  rcases List.eq_nil_or_concat as with e | ⟨as', b, e⟩
  · subst e
    have := h.1
    simp at this
  · rw [List.concat_eq_append] at e
    subst e
    have hl : as'.length = S.length := by have := h.1; simpa using this
    refine ⟨as', b, rfl, ⟨hl, fun x c r h1 h2 => ?_⟩, ?_⟩
    · exact h.2 x c r (by rw [List.getElem?_append_left (List.getElem?_eq_some_iff.mp h1).1]; exact h1) (by rw [List.getElem?_append_left (List.getElem?_eq_some_iff.mp h2).1]; exact h2)
    · exact h.2 as'.length b q (by simp) (by rw [hl]; simp)
end Hb

set_option Elab.async false
set_option linter.all false
set_option maxRecDepth 100000
set_option maxHeartbeats 4000000

namespace Hb
open PySem L2
/-! ### the hues of parts -/
noncomputable abbrev rowP (ps : List (Option Nat)) (hs : List Int) (p : Prt) : List Int := huesAt hs (plP ps p)
def spHued : Sp := fun vs H Q _ => ∃ (a b c : Addr) (ps : List (Option Nat)) (ks : List Nat) (hs : List Int) (p : Prt), vs = [.ref a, .ref b, .ref c] ∧ H a = some (.lst (ps.map oV)) ∧ H b = some (.lst (intsV hs)) ∧ PtA H p c ∧ ps.length ≤ 200 ∧ IsTr ps ks ∧ hs.length = ps.length ∧ p.Ok ps.length ∧ p.nodesF.length ≤ 50000 ∧
  ∀ q H', H q = none → H' q = some (.lst (natsV (plP ps p))) → Same H H' → Q (.ref q) H'
def spPRow : Sp := fun vs H Q _ => ∃ (a b c : Addr) (ps : List (Option Nat)) (ks : List Nat) (hs : List Int) (p : Prt), vs = [.ref a, .ref b, .ref c] ∧ H a = some (.lst (ps.map oV)) ∧ H b = some (.lst (intsV hs)) ∧ PtA H p c ∧ ps.length ≤ 200 ∧ IsTr ps ks ∧ hs.length = ps.length ∧ p.Ok ps.length ∧ p.nodesF.length ≤ 50000 ∧
  ∀ q H', H q = none → H' q = some (.lst (intsV (rowP ps hs p))) → Same H H' → Q (.ref q) H'
def spUnOf : Sp := fun vs H Q _ => ∃ (a b c : Addr) (ps : List (Option Nat)) (ks : List Nat) (hs : List Int) (p : Prt), vs = [.ref a, .ref b, .ref c] ∧ H a = some (.lst (ps.map oV)) ∧ H b = some (.lst (intsV hs)) ∧ PtA H p c ∧ ps.length ≤ 200 ∧ IsTr ps ks ∧ hs.length = ps.length ∧ p.Ok ps.length ∧ p.nodesF.length ≤ 50000 ∧
  ∀ H', Same H H' → Q (.int ((riseOf (rowP ps hs p)).length : Nat)) H'
def spHuOf : Sp := fun vs H Q _ => ∃ (a b c : Addr) (ps : List (Option Nat)) (ks : List Nat) (hs : List Int) (p : Prt), vs = [.ref a, .ref b, .ref c] ∧ H a = some (.lst (ps.map oV)) ∧ H b = some (.lst (intsV hs)) ∧ PtA H p c ∧ ps.length ≤ 200 ∧ IsTr ps ks ∧ hs.length = ps.length ∧ p.Ok ps.length ∧ p.nodesF.length ≤ 50000 ∧
  ∀ q H', H q = none → H' q = some (.lst (intsV (riseOf (rowP ps hs p)))) → Same H H' → Q (.ref q) H'
section
variable {H : Hp} {Q : VK} {E : XK} {a b c : Addr} {ps : List (Option Nat)} {ks : List Nat} {hs : List Int} {p : Prt}
end
def Prt.ht : Prt → Nat
  | .jn _ p q => max p.ht q.ht + 1
  | _ => 1
theorem PtA.kp {H H' : Hp} {r : Addr} {xs : List V} (hr : H r = some (.lst xs)) (k : Kp r H H') : ∀ {p : Prt} {a : Addr}, PtA H p a → PtA H' p a
  | .bel _, _, h => k _ _ h (by rintro rfl; rw [show H _ = _ from h] at hr; cases hr)
  | .tod _ _, _, h => k _ _ h (by rintro rfl; rw [show H _ = _ from h] at hr; cases hr)
  | .way _ _, _, h => k _ _ h (by rintro rfl; rw [show H _ = _ from h] at hr; cases hr)
  | .stretch _ _, _, h => k _ _ h (by rintro rfl; rw [show H _ = _ from h] at hr; cases hr)
  | .jn _ _ _, _, ⟨b, c, h, h1, h2⟩ => ⟨b, c, k _ _ h (by rintro rfl; rw [h] at hr; cases hr), h1.kp hr k, h2.kp hr k⟩
/-! a drawn part: so deep -/
def spLPart (n : Nat) : Sp := fun vs H Q _ => ∃ (r : Addr) (ρ : Rl) (m : Nat) (d : Int), vs = [.ref r, .int (m : Nat), .int d] ∧ 0 ≤ d ∧ d < n ∧ H r = some (reelO ρ) ∧ 0 < m ∧ m ≤ 200 ∧
  ∀ ρ' (p : Prt) q H', H q = none → PtA H' p q → p.Ok m → (p.nodesF.length < 2 ^ n ∧ (p.ht : Int) ≤ d + 1) → H' r = some (reelO ρ') → Kp r H H' → Q (.ref q) H'
/-! parts put together -/
/-! many new things, row by row -/
def HeldF {α : Type} (f : α → HO) (R : List (Addr × HO)) (as : List Addr) (S : List α) : Prop := as.length = S.length ∧ ∀ (x : Nat) (b : Addr) (q : α), as[x]? = some b → S[x]? = some q → (b, f q) ∈ R
theorem HeldF.nil {α : Type} {f : α → HO} {R : List (Addr × HO)} : HeldF f R [] [] := ⟨rfl, fun x b q h => by simp at h⟩
theorem HeldF.mono {α : Type} {f : α → HO} {R R' : List (Addr × HO)} {as : List Addr} {S : List α} (h : HeldF f R as S) (m : ∀ q ∈ R, q ∈ R') : HeldF f R' as S := ⟨h.1, fun x b q h1 h2 => m _ (h.2 x b q h1 h2)⟩
theorem HeldF.snoc {α : Type} {f : α → HO} {R : List (Addr × HO)} {as : List Addr} {S : List α} {b : Addr} {q : α} (h : HeldF f R as S) : HeldF f ((b, f q) :: R) (as ++ [b]) (S ++ [q]) := by
  refine ⟨by simp [h.1], fun x c r h1 h2 => ?_⟩
  by_cases hx : x < as.length
  · rw [List.getElem?_append_left hx] at h1
    rw [List.getElem?_append_left (by rw [← h.1]; exact hx)] at h2
    exact List.mem_cons_of_mem _ (h.2 x c r h1 h2)
  · rw [List.getElem?_append_right (by omega)] at h1
    rw [List.getElem?_append_right (by rw [← h.1]; omega), ← h.1] at h2
    have e0 : x - as.length = 0 := by have := (List.getElem?_eq_some_iff.mp h1).1; simp at this; omega
    rw [e0] at h1 h2
    cases h1
    cases h2
    exact List.Mem.head _
theorem HeldF.step {α : Type} {f : α → HO} {R : List (Addr × HO)} {as : List Addr} {S : List α} {i : Nat} {b : Addr} {q : α} (h : HeldF f R as (S.take i)) (e : S[i]? = some q) : HeldF f ((b, f q) :: R) (as ++ [b]) (S.take (i + 1)) := by
  rw [List.take_add_one, e]
  exact h.snoc
theorem HeldF.len {α : Type} {f : α → HO} {R : List (Addr × HO)} {as : List Addr} {S : List α} {i : Nat} (h : HeldF f R as (S.take i)) : as.length ≤ S.length := by
  rw [h.1, List.length_take]
  omega
/-! the law's side -/
def spOnWay : Sp := fun vs H Q _ => ∃ (a : Addr) (ps : List (Option Nat)) (ks : List Nat) (x y : Nat), vs = [.ref a, .int (x : Nat), .int (y : Nat)] ∧ H a = some (.lst (ps.map oV)) ∧ ps.length ≤ 200 ∧ IsTr ps ks ∧ x < ps.length ∧ y < ps.length ∧
  ∀ q H', H q = none → H' q = some (.lst (natsV (plP ps (.way x y)))) → Same H H' → Q (.ref q) H'
/-- a part's places, by the words: so deep -/
def spLPlaces (n : Nat) : Sp := fun vs H Q _ => ∃ (a b : Addr) (ps : List (Option Nat)) (ks : List Nat) (p : Prt), vs = [.ref a, .ref b] ∧ H a = some (.lst (ps.map oV)) ∧ PtA H p b ∧ ps.length ≤ 200 ∧ IsTr ps ks ∧ p.Ok ps.length ∧ p.ht ≤ n ∧
  ∀ q H', H q = none → H' q = some (.lst (natsV (plP ps p))) → Same H H' → Q (.ref q) H'
/-! drawn parts, put together -/
def spLComb : Sp := fun vs H Q _ => ∃ (r b : Addr) (ρ : Rl) (m t : Nat) (p : Prt), vs = [.ref r, .int (m : Nat), .ref b, .int (t : Nat)] ∧ H r = some (reelO ρ) ∧ PtA H p b ∧ 0 < m ∧ m ≤ 200 ∧ p.Ok m ∧ p.ht ≤ 2 ∧ t ≤ 11 ∧
  ∀ ρ' (p : Prt) q H', PtA H' p q → p.Ok m → p.ht ≤ 13 → H' r = some (reelO ρ') → Kp r H H' → Q (.ref q) H'
/-- a list of parts -/
def PtsA (H : Hp) (m : Nat) (as : List Addr) : Prop := ∀ b ∈ as, ∃ p, PtA H p b ∧ p.Ok m ∧ p.ht ≤ 13
theorem PtsA.nil {H : Hp} {m : Nat} : PtsA H m [] := fun b h => nomatch h
theorem PtsA.snoc {H : Hp} {m : Nat} {as : List Addr} {b : Addr} {p : Prt} (h : PtsA H m as) (h1 : PtA H p b) (h2 : p.Ok m) (h3 : p.ht ≤ 13) : PtsA H m (as ++ [b]) := fun c hc => by
  rcases List.mem_append.mp hc with hc | hc
  · exact h c hc
  · rw [List.mem_singleton.mp hc]; exact ⟨p, h1, h2, h3⟩
theorem PtsA.same {H H' : Hp} {m : Nat} {as : List Addr} (s : Same H H') (h : PtsA H m as) : PtsA H' m as := fun b hb => by
  obtain ⟨p, h1, h2, h3⟩ := h b hb
  exact ⟨p, h1.same s, h2, h3⟩
theorem PtsA.kp {H H' : Hp} {m : Nat} {as : List Addr} {r : Addr} {xs : List V} (h : PtsA H m as) (hr : H r = some (.lst xs)) (k : Kp r H H') : PtsA H' m as := fun b hb => by
  obtain ⟨p, h1, h2, h3⟩ := h b hb
  exact ⟨p, h1.kp hr k, h2, h3⟩
theorem ref_mem {as : List Addr} {i : Nat} {v : V} (h : (as.map V.ref)[i]? = some v) : ∃ b ∈ as, v = .ref b := by
  rw [List.getElem?_map] at h
  obtain ⟨b, hb, rfl⟩ := Option.map_eq_some_iff.mp h
  exact ⟨b, List.mem_of_getElem? hb, rfl⟩
/-! the ledger begun anew: what is in it may change, parts stay -/
theorem Led.join {H0 H H' : Hp} {S : List Addr} {l l' : List (Addr × HO)} (L0 : Led H0 S H l) (L : Led H (l.map fun q => q.1) H' l') (hS : ∀ a ∈ S, a ∈ l.map fun q => q.1) : Led H0 S H' l' := by
  refine ⟨L.nd, L.has, fun b o h n => ?_, fun q hq u hu => ?_⟩
  · refine L.keep b o (L0.keep b o h n) fun m => ?_
    obtain ⟨q, hq, e⟩ := List.mem_map.mp m
    exact n (by have := L0.own q hq o (by rw [e]; exact h); rwa [e] at this)
  · by_cases hs : q.1 ∈ S
    · exact hs
    · have h1 := L0.keep q.1 u hu hs
      have h2 := L.own q hq u h1
      obtain ⟨q', hq', e⟩ := List.mem_map.mp h2
      have := L0.own q' hq' u (by rw [e]; exact hu)
      rwa [e] at this
theorem PtA.keep {H H' : Hp} {S : List Addr} (hS : ∀ a ∈ S, ∃ xs, H a = some (.lst xs)) (k : ∀ b u, H b = some u → b ∉ S → H' b = some u) : ∀ {p : Prt} {a : Addr}, PtA H p a → PtA H' p a
  | .bel _, _, h => k _ _ h (fun m => by obtain ⟨xs, e⟩ := hS _ m; rw [show H _ = _ from h] at e; cases e)
  | .tod _ _, _, h => k _ _ h (fun m => by obtain ⟨xs, e⟩ := hS _ m; rw [show H _ = _ from h] at e; cases e)
  | .way _ _, _, h => k _ _ h (fun m => by obtain ⟨xs, e⟩ := hS _ m; rw [show H _ = _ from h] at e; cases e)
  | .stretch _ _, _, h => k _ _ h (fun m => by obtain ⟨xs, e⟩ := hS _ m; rw [show H _ = _ from h] at e; cases e)
  | .jn _ _ _, _, ⟨b, c, h, h1, h2⟩ => ⟨b, c, k _ _ h (fun m => by obtain ⟨xs, e⟩ := hS _ m; rw [h] at e; cases e), h1.keep hS k, h2.keep hS k⟩
theorem PtA.led {H0 H H' : Hp} {S : List Addr} {l l' : List (Addr × HO)} {p : Prt} {a : Addr} (L0 : Led H0 S H l) (L : Led H (l.map fun q => q.1) H' l') (hl : ∀ q ∈ l, ∃ xs, q.2 = HO.lst xs) (h : PtA H p a) : PtA H' p a :=
  h.keep (S := l.map fun q => q.1) (fun a ha => by
    obtain ⟨q, hq, rfl⟩ := List.mem_map.mp ha
    obtain ⟨xs, e⟩ := hl q hq
    exact ⟨xs, by rw [← e]; exact L0.has q hq⟩) L.keep
theorem PtsA.led {H0 H H' : Hp} {S : List Addr} {l l' : List (Addr × HO)} {m : Nat} {as : List Addr} (L0 : Led H0 S H l) (L : Led H (l.map fun q => q.1) H' l') (hl : ∀ q ∈ l, ∃ xs, q.2 = HO.lst xs) (h : PtsA H m as) : PtsA H' m as := fun b hb => by
  obtain ⟨p, h1, h2, h3⟩ := h b hb
  exact ⟨p, h1.led L0 L hl, h2, h3⟩
/-- a list of parts, so deep -/
def PtsH (H : Hp) (m h : Nat) (as : List Addr) : Prop := ∀ b ∈ as, ∃ p, PtA H p b ∧ p.Ok m ∧ p.ht ≤ h
theorem PtsH.nil {H : Hp} {m h : Nat} : PtsH H m h [] := fun b h => nomatch h
theorem PtsH.app {H : Hp} {m h : Nat} {as bs : List Addr} (h1 : PtsH H m h as) (h2 : PtsH H m h bs) : PtsH H m h (as ++ bs) := fun c hc => by
  rcases List.mem_append.mp hc with hc | hc
  · exact h1 c hc
  · exact h2 c hc
theorem PtsH.snoc {H : Hp} {m h : Nat} {as : List Addr} {b : Addr} {p : Prt} (h0 : PtsH H m h as) (h1 : PtA H p b) (h2 : p.Ok m) (h3 : p.ht ≤ h) : PtsH H m h (as ++ [b]) := h0.app fun c hc => by rw [List.mem_singleton.mp hc]; exact ⟨p, h1, h2, h3⟩
theorem PtsH.mono {H : Hp} {m h h' : Nat} {as : List Addr} (h0 : PtsH H m h as) (e : h ≤ h') : PtsH H m h' as := fun b hb => by
  obtain ⟨p, h1, h2, h3⟩ := h0 b hb
  exact ⟨p, h1, h2, Nat.le_trans h3 e⟩
theorem PtsH.drop {H : Hp} {m h : Nat} {as : List Addr} (h0 : PtsH H m h as) (k : Nat) : PtsH H m h (as.drop k) := fun b hb => h0 b (List.mem_of_mem_drop hb)
theorem PtsH.kp {H H' : Hp} {m h : Nat} {as : List Addr} {r : Addr} {xs : List V} (h0 : PtsH H m h as) (hr : H r = some (.lst xs)) (k : Kp r H H') : PtsH H' m h as := fun b hb => by
  obtain ⟨p, h1, h2, h3⟩ := h0 b hb
  exact ⟨p, h1.kp hr k, h2, h3⟩
theorem PtsH.led {H0 H H' : Hp} {S : List Addr} {l l' : List (Addr × HO)} {m h : Nat} {as : List Addr} (L0 : Led H0 S H l) (L : Led H (l.map fun q => q.1) H' l') (hl : ∀ q ∈ l, ∃ xs, q.2 = HO.lst xs) (h0 : PtsH H m h as) : PtsH H' m h as := fun b hb => by
  obtain ⟨p, h1, h2, h3⟩ := h0 b hb
  exact ⟨p, h1.led L0 L hl, h2, h3⟩
def spLHeap : Sp := fun vs H Q _ => ∃ (r : Addr) (ρ : Rl) (m : Nat), vs = [.ref r, .int (m : Nat)] ∧ H r = some (reelO ρ) ∧ 0 < m ∧ m ≤ 200 ∧
  ∀ ρ' (p : Prt) q H', PtA H' p q → p.Ok m → p.ht ≤ 13 → H' r = some (reelO ρ') → Kp r H H' → Q (.ref q) H'
end Hb

set_option Elab.async false
set_option linter.all false
set_option maxRecDepth 100000
set_option maxHeartbeats 4000000

namespace Hb
open PySem L2
/-! ### parts and trees -/
theorem WayL.swap {ps : List (Option Nat)} {x y : Nat} {l : List Nat} (h : WayL ps x y l) : ∃ l', WayL ps y x l' ∧ ∀ z, z ∈ l → z ∈ l' := by
  obtain ⟨A, B, z, C, u1, u2, n1, n2, rfl⟩ := h
  refine ⟨B ++ z :: A.reverse, ⟨B, A, z, C, u2, u1, n2, n1, rfl⟩, fun w hw => ?_⟩
  simp only [List.mem_append, List.mem_cons, List.mem_reverse] at hw ⊢
  rcases hw with h | h | h
  · exact .inr (.inr h)
  · exact .inr (.inl h)
  · exact .inl h
section
variable {H : Hp} {Q : VK} {E : XK} {a : Addr} {ps : List (Option Nat)} {ks : List Nat} {x : Nat}
end
theorem way_ex {ps : List (Option Nat)} {ks : List Nat} {x y : Nat} (ht : IsTr ps ks) (hx : x < ps.length) (hy : y < ps.length) : ∃ l, WayL ps x y l := by
  obtain ⟨us, hu, _⟩ := ht.upl hx
  obtain ⟨vs, hv, _⟩ := ht.upl hy
  obtain ⟨A, B, z, C, e1, e2, n1, n2⟩ := way_split ht hu hv
  exact ⟨_, A, B, z, C, by rw [← e1]; exact hu, by rw [← e2]; exact hv, n1, n2, rfl⟩
end Hb

set_option Elab.async false
set_option linter.all false
set_option maxRecDepth 100000
set_option maxHeartbeats 4000000

namespace Hb
open PySem L2
/-! ### parts drawn of pots -/
def spBelP : Sp := fun vs H Q _ => ∃ (a : Addr) (ps : List (Option Nat)) (ks : List Nat) (x : Nat), vs = [.ref a, .int (x : Nat)] ∧ H a = some (.lst (ps.map oV)) ∧ ps.length ≤ 200 ∧ IsTr ps ks ∧ x < ps.length ∧
  ∀ q H', H q = none → H' q = some (.lst (natsV (plP ps (.bel x)))) → Same H H' → Q (.ref q) H'
abbrev bF (z : Nat) : Int × V := ((z : Int), V.bl true)
/-- a drawn part, by the tree -/
def spPPart (n : Nat) : Sp := fun vs H Q _ => ∃ (r a : Addr) (ρ : Pt) (ps : List (Option Nat)) (ks : List Nat) (d : Int), vs = [.ref r, .ref a, .int d] ∧ 0 ≤ d ∧ d < n ∧ H r = some (potO ρ) ∧ H a = some (.lst (ps.map oV)) ∧ a ≠ r ∧ ps.length ≤ 200 ∧ IsTr ps ks ∧
  ∀ ρ' (p : Prt) q H', H q = none → PtA H' p q → p.Ok ps.length → (p.ht : Int) ≤ d + 1 → H' r = some (potO ρ') → Kp r H H' → Q (.ref q) H'
def spPDeep : Sp := fun vs H Q _ => ∃ (r a : Addr) (ρ : Pt) (ps : List (Option Nat)) (ks : List Nat), vs = [.ref r, .ref a] ∧ H r = some (potO ρ) ∧ H a = some (.lst (ps.map oV)) ∧ a ≠ r ∧ ps.length ≤ 200 ∧ IsTr ps ks ∧
  ∀ ρ' (p : Prt) q H', PtA H' p q → p.Ok ps.length → p.ht ≤ 13 → H' r = some (potO ρ') → Kp r H H' → Q (.ref q) H'
/-- how often, by the law -/
def spOften : Sp := fun vs H Q _ => ∃ (a b : Addr) (hs : List Int) (l : List Nat), vs = [.ref a, .ref b] ∧ H a = some (.lst (intsV hs)) ∧ H b = some (.lst (natsV l)) ∧ l.length ≤ 1000 ∧ (∀ z ∈ l, z < hs.length) ∧
  ∀ (us : List Addr) (qs : List (Int × Int)) q H', us.length = qs.length → Cnt (huesAt hs l) qs → qs.Pairwise (fun p q => p.1 < q.1) → (∀ (j : Nat) u pq, us[j]? = some u → qs[j]? = some pq → H u = none ∧ H' u = some (.tup [.int pq.1, .int pq.2])) → H q = none → H' q = some (.lst (us.map V.ref)) → Same H H' → Q (.ref q) H'
end Hb

set_option Elab.async false
set_option linter.all false
set_option maxRecDepth 100000
set_option maxHeartbeats 4000000

namespace Hb
open PySem L2
/-! ### how often, in parts -/
abbrev tD (p : Int × Int) : PyData := .tuple [.int p.1, .int p.2]
def spMostFq : Sp := fun vs H Q _ => ∃ (a b c : Addr) (ps : List (Option Nat)) (ks : List Nat) (hs : List Int) (p : Prt), vs = [.ref a, .ref b, .ref c] ∧ H a = some (.lst (ps.map oV)) ∧ H b = some (.lst (intsV hs)) ∧ PtA H p c ∧ ps.length ≤ 200 ∧ IsTr ps ks ∧ hs.length = ps.length ∧ p.Ok ps.length ∧ p.nodesF.length ≤ 50000 ∧
  (rowP ps hs p = [] → ∀ H', Same H H' → Q .non H') ∧ ∀ t m k H', MostR (rowP ps hs p) m k → H t = none → H' t = some (.tup [.int m, .int k]) → Same H H' → Q (.ref t) H'
def spDue20 : Sp := fun vs H Q _ => ∃ (a b : Addr) (hs : List Int) (l : List Nat), vs = [.ref a, .ref b] ∧ H a = some (.lst (intsV hs)) ∧ H b = some (.lst (natsV l)) ∧ l.length ≤ 1000 ∧ (∀ z ∈ l, z < hs.length) ∧
  (huesAt hs l = [] → ∀ H', Same H H' → Q .non H') ∧ ∀ t m k H', MostR (huesAt hs l) m k → H t = none → H' t = some (.tup [.int m, .int k]) → Same H H' → Q (.ref t) H'
theorem MostR.ne {l : List Int} {m k : Int} (h : MostR l m k) : l ≠ [] := fun e => by have := h.mem; rw [e] at this; cases this
theorem Alk.pair {H : Hp} {a b : Addr} {i j : Int} (h1 : H a = some (.tup [.int i, .int j])) (h2 : H b = some (.tup [.int i, .int j])) : Alk H 2 (.ref a) (.ref b) := by
  refine .tup h1 h2 rfl (by simp) fun k x y e1 e2 => ?_
  rw [e1] at e2
  cases e2
  match k with
  | 0 => cases e1; exact .int _
  | 1 => cases e1; exact .int _
  | k + 2 => cases e1
theorem PtsA.app {H : Hp} {m : Nat} {as bs : List Addr} (h1 : PtsA H m as) (h2 : PtsA H m bs) : PtsA H m (as ++ bs) := fun c hc => by
  rcases List.mem_append.mp hc with hc | hc
  · exact h1 c hc
  · exact h2 c hc
end Hb

set_option Elab.async false
set_option linter.all false
set_option maxRecDepth 100000
set_option maxHeartbeats 4000000

namespace Hb
open PySem L2
def spHowO : Sp := fun vs H Q _ => ∃ (a b c : Addr) (ps : List (Option Nat)) (ks : List Nat) (hs : List Int) (p : Prt), vs = [.ref a, .ref b, .ref c] ∧ H a = some (.lst (ps.map oV)) ∧ H b = some (.lst (intsV hs)) ∧ PtA H p c ∧ ps.length ≤ 200 ∧ IsTr ps ks ∧ hs.length = ps.length ∧ p.Ok ps.length ∧ p.nodesF.length ≤ 50000 ∧
  ∀ (us : List Addr) (qs : List (Int × Int)) q H', us.length = qs.length → Cnt (rowP ps hs p) qs → qs.Pairwise (fun p q => p.1 < q.1) → (∀ (j : Nat) u pq, us[j]? = some u → qs[j]? = some pq → H u = none ∧ H' u = some (.tup [.int pq.1, .int pq.2])) → H q = none → H' q = some (.lst (us.map V.ref)) → Same H H' → Q (.ref q) H'
def spPWide : Sp := fun vs H Q _ => ∃ (r a : Addr) (ρ : Pt) (ps : List (Option Nat)) (ks : List Nat), vs = [.ref r, .ref a] ∧ H r = some (potO ρ) ∧ H a = some (.lst (ps.map oV)) ∧ a ≠ r ∧ ps.length ≤ 200 ∧ IsTr ps ks ∧
  ∀ ρ' (p : Prt) q H', PtA H' p q → p.Ok ps.length → p.ht ≤ 13 → H' r = some (potO ρ') → Kp r H H' → Q (.ref q) H'
end Hb

set_option Elab.async false
set_option linter.all false
set_option maxRecDepth 100000
set_option maxHeartbeats 4000000

namespace Hb
open PySem L2
/-! ### by how often: the most frequent first -/
def OrdR (l : List Int) (a b : Int) : Prop := l.count b < l.count a ∨ (l.count b = l.count a ∧ a < b)
structure RankR (l rs : List Int) : Prop where
  mem : ∀ k, k ∈ rs ↔ k ∈ l
  ord : rs.Pairwise (OrdR l)
theorem OrdR.irrefl {l : List Int} {a : Int} (h : OrdR l a a) : False := by
  rcases h with h | ⟨_, h⟩ <;> omega
theorem OrdR.asymm {l : List Int} {a b : Int} (h : OrdR l a b) (h' : OrdR l b a) : False := by
  rcases h with h | ⟨h1, h2⟩ <;> rcases h' with h' | ⟨h3, h4⟩ <;> omega
theorem ord_uniq {l : List Int} : ∀ {rs ss : List Int}, rs.Pairwise (OrdR l) → ss.Pairwise (OrdR l) → (∀ k, k ∈ rs ↔ k ∈ ss) → rs = ss
  | [], [], _, _, _ => rfl
  | [], b :: ss, _, _, h => by have := (h b).mpr (by simp); cases this
  | a :: rs, [], _, _, h => by have := (h a).mp (by simp); cases this
  | a :: rs, b :: ss, h1, h2, h => by
    rw [List.pairwise_cons] at h1 h2
    have e : a = b := by
      by_cases e : a = b
      · exact e
      · have ha : a ∈ ss := by
          rcases List.mem_cons.mp ((h a).mp (by simp)) with z | z
          · exact absurd z e
          · exact z
        have hb : b ∈ rs := by
          rcases List.mem_cons.mp ((h b).mpr (by simp)) with z | z
          · exact absurd z.symm e
          · exact z
        exact absurd (h2.1 a ha) fun z => (h1.1 b hb).asymm z
    subst e
    rw [ord_uniq h1.2 h2.2 fun k => ?_]
    constructor
    · intro hk
      rcases List.mem_cons.mp ((h k).mp (List.mem_cons_of_mem _ hk)) with z | z
      · subst z; exact absurd (h1.1 k hk) fun z => z.irrefl
      · exact z
    · intro hk
      rcases List.mem_cons.mp ((h k).mpr (List.mem_cons_of_mem _ hk)) with z | z
      · subst z; exact absurd (h2.1 k hk) fun z => z.irrefl
      · exact z
theorem RankR.det {l rs ss : List Int} (h : RankR l rs) (h' : RankR l ss) : rs = ss := ord_uniq h.ord h'.ord fun k => by rw [h.mem, h'.mem]
theorem RankR.nodup {l rs : List Int} (h : RankR l rs) : rs.Nodup := h.ord.imp fun z e => by subst e; exact z.irrefl
theorem RankR.len {l rs : List Int} (h : RankR l rs) : rs.length = (riseOf l).length := ((List.perm_ext_iff_of_nodup h.nodup (rise_nodup l)).mpr fun k => by rw [h.mem, mem_rise]).length_eq
/-- how many hues stand at least so often -/
def soN (l : List Int) (m : Int) : Nat := ((riseOf l).filter fun k => decide (m ≤ ((l.count k : Nat) : Int))).length
def spFrom1 : Sp := fun vs H Q _ => ∃ n : Int, vs = [.int n] ∧ 1 ≤ n ∧ Q .non H
def spSoOf : Sp := fun vs H Q _ => ∃ (a b c : Addr) (ps : List (Option Nat)) (ks : List Nat) (hs : List Int) (p : Prt) (m : Int), vs = [.ref a, .ref b, .ref c, .int m] ∧ H a = some (.lst (ps.map oV)) ∧ H b = some (.lst (intsV hs)) ∧ PtA H p c ∧ ps.length ≤ 200 ∧ IsTr ps ks ∧ hs.length = ps.length ∧ p.Ok ps.length ∧ p.nodesF.length ≤ 50000 ∧ 1 ≤ m ∧
  ∀ H', Same H H' → Q (.int (soN (rowP ps hs p) m : Nat)) H'
def spSoMan : Sp := fun vs H Q _ => ∃ (a b c : Addr) (ps : List (Option Nat)) (ks : List Nat) (hs : List Int) (p : Prt) (m : Int), vs = [.ref a, .ref b, .ref c, .int m] ∧ H a = some (.lst (ps.map oV)) ∧ H b = some (.lst (intsV hs)) ∧ PtA H p c ∧ ps.length ≤ 200 ∧ IsTr ps ks ∧ hs.length = ps.length ∧ p.Ok ps.length ∧ p.nodesF.length ≤ 50000 ∧ 1 ≤ m ∧
  (m > (riseOf (rowP ps hs p)).length → ∀ H', Same H H' → Q .non H') ∧ (∀ rs h H', RankR (rowP ps hs p) rs → rs[(m - 1).toNat]? = some h → Same H H' → Q (.int h) H')
end Hb

set_option Elab.async false
set_option linter.all false
set_option maxRecDepth 100000
set_option maxHeartbeats 4000000

namespace Hb
open PySem L2
/-! ### one by one, the most frequent first -/
abbrev ZP := Addr × (Int × Int)
abbrev zR (zs : List ZP) : List V := zs.map fun e => V.ref e.1
def ZOk (H : Hp) (zs : List ZP) : Prop := ∀ e ∈ zs, H e.1 = some (.tup [.int e.2.1, .int e.2.2])
structure RkI (l : List Int) (qs : List (Int × Int)) (zs : List ZP) (fs : List Int) : Prop where
  mem : ∀ p, p ∈ (zs.map fun e => e.2) ↔ p ∈ qs ∧ p.1 ∉ fs
  ord : fs.Pairwise (OrdR l)
  inl : ∀ k ∈ fs, k ∈ l
  bef : ∀ k ∈ fs, ∀ e ∈ zs, OrdR l k e.2.1
theorem RkI.start {l : List Int} {us : List Addr} {qs : List (Int × Int)} (h : us.length = qs.length) : RkI l qs (us.zip qs) [] := by
  refine ⟨fun p => ?_, List.Pairwise.nil, (fun k h => by cases h), (fun k h => by cases h)⟩
  rw [List.map_snd_zip (by omega)]
  simp
theorem RkI.step {l : List Int} {qs : List (Int × Int)} {zs : List ZP} {fs : List Int} {mx k0 : Int} (hc : Cnt l qs) (h : RkI l qs zs fs) (hk : ∃ e ∈ zs, e.2 = (k0, mx)) (hmx : ∀ e ∈ zs, e.2.2 ≤ mx) (hmn : ∀ e ∈ zs, e.2.2 = mx → k0 ≤ e.2.1) : RkI l qs (zs.filter fun e => !decide (e.2.1 = k0)) (fs ++ [k0]) := by
  obtain ⟨e0, he0, ee⟩ := hk
  have hq : ∀ e ∈ zs, e.2.1 ∈ l ∧ e.2.2 = ((l.count e.2.1 : Nat) : Int) := fun e he => (hc.mem e.2.1 e.2.2).mp ((h.mem e.2).mp (List.mem_map.mpr ⟨e, he, rfl⟩)).1
  have h0 := hq e0 he0
  rw [ee] at h0
  refine ⟨fun p => ?_, ?_, fun k hk => ?_, fun k hk e he => ?_⟩
  · rw [List.mem_map]
    constructor
    · rintro ⟨e, he, rfl⟩
      rw [List.mem_filter] at he
      have h1 := (h.mem e.2).mp (List.mem_map.mpr ⟨e, he.1, rfl⟩)
      refine ⟨h1.1, fun z => ?_⟩
      rcases List.mem_append.mp z with z | z
      · exact h1.2 z
      · have := List.mem_singleton.mp z
        simp [this] at he
    · rintro ⟨h1, h2⟩
      rw [List.mem_append, not_or] at h2
      obtain ⟨e, he, rfl⟩ := List.mem_map.mp ((h.mem p).mpr ⟨h1, h2.1⟩)
      refine ⟨e, List.mem_filter.mpr ⟨he, ?_⟩, rfl⟩
      have : e.2.1 ≠ k0 := fun z => h2.2 (by rw [z]; simp)
      simp [this]
  · rw [List.pairwise_append]
    refine ⟨h.ord, by simp, fun a ha b hb => ?_⟩
    rw [List.mem_singleton.mp hb]
    have := h.bef a ha e0 he0
    rw [ee] at this
    exact this
  · rcases List.mem_append.mp hk with hk | hk
    · exact h.inl k hk
    · rw [List.mem_singleton.mp hk]; exact h0.1
  · rw [List.mem_filter] at he
    rcases List.mem_append.mp hk with hk | hk
    · exact h.bef k hk e he.1
    · rw [List.mem_singleton.mp hk]
      have h1 := hq e he.1
      have h2 := hmx e he.1
      have h3 := hmn e he.1
      have h4 : e.2.1 ≠ k0 := by simpa using he.2
      show l.count e.2.1 < l.count k0 ∨ _
      by_cases hx : e.2.2 = mx
      · right
        have := h3 hx
        have h5 := h0.2
        have h6 := h1.2
        simp only at h5
        constructor <;> omega
      · left
        have h5 := h0.2
        have h6 := h1.2
        simp only at h5
        omega
theorem RkI.done {l : List Int} {qs : List (Int × Int)} {fs : List Int} (hc : Cnt l qs) (h : RkI l qs [] fs) : RankR l fs := by
  refine ⟨fun k => ⟨h.inl k, fun hk => ?_⟩, h.ord⟩
  by_cases z : k ∈ fs
  · exact z
  · have := (h.mem (k, _)).mpr ⟨(hc.mem k _).mpr ⟨hk, rfl⟩, z⟩
    simp at this
end Hb

set_option Elab.async false
set_option linter.all false
set_option maxRecDepth 100000
set_option maxHeartbeats 4000000

namespace Hb
open PySem L2
/-! ### papers -/
/-- the first place of a row with a hue -/
def fstP (hs : List Int) (l : List Nat) (k : Int) : Option Nat := l.find? fun x => decide (hs.getD x 0 = k)
theorem fst_snoc {hs : List Int} {l : List Nat} {y : Nat} {k : Int} : fstP hs (l ++ [y]) k = (fstP hs l k).or (if hs.getD y 0 = k then some y else none) := by
  unfold fstP
  rw [List.find?_append]
  congr 1
  by_cases h : hs.getD y 0 = k
  · rw [if_pos h]; simp only [List.find?, h, decide_true]
  · rw [if_neg h]; simp only [List.find?, h, decide_false]
theorem fst_some {hs : List Int} {l : List Nat} {k : Int} {x : Nat} (h : fstP hs l k = some x) : x ∈ l ∧ hs.getD x 0 = k := ⟨List.mem_of_find?_eq_some h, by have := List.find?_some h; simpa using this⟩
theorem fst_ex {hs : List Int} {l : List Nat} {k : Int} (h : k ∈ huesAt hs l) : ∃ x, fstP hs l k = some x := by
  obtain ⟨y, hy, e⟩ := List.mem_map.mp h
  cases hf : fstP hs l k with
  | some x => exact ⟨x, rfl⟩
  | none =>
    have := List.find?_eq_none.mp hf y hy
    simp at this
    exact absurd e (by simpa using this)
structure Fst (hs : List Int) (l : List Nat) (prs : List (Int × Int)) : Prop where
  nd : (prs.map fun p => p.1).Nodup
  mem : ∀ k c, (k, c) ∈ prs ↔ ∃ x : Nat, fstP hs l k = some x ∧ c = (x : Int)
theorem Fst.nil {hs : List Int} : Fst hs [] [] := ⟨List.nodup_nil, fun k c => by simp [fstP]⟩
theorem Fst.perm {hs : List Int} {l : List Nat} {prs qs : List (Int × Int)} (h : Fst hs l prs) (p : qs.Perm prs) : Fst hs l qs := ⟨(p.map _).nodup_iff.mpr h.nd, fun k c => by rw [p.mem_iff]; exact h.mem k c⟩
theorem Fst.get {hs : List Int} {l : List Nat} {prs : List (Int × Int)} (h : Fst hs l prs) (k : Int) : valV (prs.map cF) (Sum.inl k) = (fstP hs l k).map fun (x : Nat) => V.int (x : Int) := by
  cases hf : fstP hs l k with
  | some x => exact valV_cF' prs k _ h.nd ((h.mem k _).mpr ⟨x, hf, rfl⟩)
  | none => exact valV_cF prs k fun c hc => by obtain ⟨x, e, _⟩ := (h.mem k c).mp hc; rw [hf] at e; cases e
theorem Fst.keep {hs : List Int} {l : List Nat} {prs : List (Int × Int)} {y x : Nat} (h : Fst hs l prs) (e : fstP hs l (hs.getD y 0) = some x) : Fst hs (l ++ [y]) prs := ⟨h.nd, fun k c => by
  rw [h.mem, fst_snoc]
  by_cases hk : hs.getD y 0 = k
  · subst hk; rw [e]; rfl
  · rw [if_neg hk, Option.or_none]⟩
theorem Fst.more {hs : List Int} {l : List Nat} {prs : List (Int × Int)} {y : Nat} (h : Fst hs l prs) (e : fstP hs l (hs.getD y 0) = none) : putK (prs.map cF) (Sum.inl (hs.getD y 0)) (V.int (y : Int)) = (prs ++ [(hs.getD y 0, (y : Int))]).map cF ∧ Fst hs (l ++ [y]) (prs ++ [(hs.getD y 0, (y : Int))]) := by
  have hno : ∀ c, (hs.getD y 0, c) ∉ prs := fun c hc => by obtain ⟨x, e2, _⟩ := (h.mem _ c).mp hc; rw [e] at e2; cases e2
  refine ⟨by rw [putK_new _ (valV_cF prs _ hno), List.map_append]; rfl, ?_, fun k c => ?_⟩
  · rw [List.map_append, List.nodup_append]
    refine ⟨h.nd, by simp, fun a ha b hb => ?_⟩
    rintro rfl
    have hb := List.mem_singleton.mp hb
    obtain ⟨⟨j, c⟩, hm, ej⟩ := List.mem_map.mp ha
    have ej : j = hs.getD y 0 := ej.trans hb
    exact hno c (by rw [← ej]; exact hm)
  · rw [List.mem_append, h.mem, fst_snoc]
    by_cases hk : hs.getD y 0 = k
    · subst hk
      rw [e, if_pos rfl]
      simp
    · rw [if_neg hk, Option.or_none]
      constructor
      · rintro (h1 | h1)
        · exact h1
        · simp at h1
          exact absurd h1.1.symm (by simpa using hk)
      · exact .inl
theorem Fst.len {hs : List Int} {l : List Nat} {prs : List (Int × Int)} (h : Fst hs l prs) : prs.length ≤ l.length := by
  have := h.nd.length_le_of_subset (l₂ := huesAt hs l) fun k hk => by
    obtain ⟨⟨j, c⟩, hm, rfl⟩ := List.mem_map.mp hk
    obtain ⟨x, e, _⟩ := (h.mem j c).mp hm
    obtain ⟨h1, h2⟩ := fst_some e
    exact List.mem_map.mpr ⟨x, h1, h2⟩
  rwa [List.length_map, List.length_map] at this
/-- the right paper of a row of places -/
def papP (hs : List Int) (l : List Nat) : List (Int × Int) := (riseOf (huesAt hs l)).map fun k => (k, (((fstP hs l k).getD 0 : Nat) : Int))
theorem pairs_eq : ∀ {qs qs' : List (Int × Int)}, qs.Pairwise (fun p q => p.1 < q.1) → qs'.Pairwise (fun p q => p.1 < q.1) → (∀ p, p ∈ qs ↔ p ∈ qs') → qs = qs' := by
  intro qs qs' h h' m
  have a : ∀ {l : List (Int × Int)}, l.Pairwise (fun p q => p.1 < q.1) → l.Nodup := fun h => h.imp fun {p q} h => by rintro rfl; omega
  refine List.Perm.eq_of_pairwise (le := fun p q => p.1 < q.1) (fun p q _ _ h1 h2 => absurd (Int.lt_trans h1 h2) (Int.lt_irrefl _)) h h' ((List.perm_ext_iff_of_nodup (a h) (a h')).mpr m)
theorem Fst.eq {hs : List Int} {l : List Nat} {qs : List (Int × Int)} (h : Fst hs l qs) (hr : qs.Pairwise (fun p q => p.1 < q.1)) : qs = papP hs l := by
  refine pairs_eq hr ?_ fun p => ?_
  · exact List.pairwise_map.mpr (rise_rise _)
  · obtain ⟨k, c⟩ := p
    rw [h.mem]
    unfold papP
    rw [List.mem_map]
    constructor
    · rintro ⟨x, e, rfl⟩
      obtain ⟨h1, h2⟩ := fst_some e
      exact ⟨k, mem_rise.mpr (List.mem_map.mpr ⟨x, h1, h2⟩), by rw [e]; rfl⟩
    · rintro ⟨k', hk, e⟩
      injection e with e1 e2
      subst e1
      obtain ⟨x, ex⟩ := fst_ex (mem_rise.mp hk)
      exact ⟨x, ex, by rw [← e2, ex]; rfl⟩
def spFirsts : Sp := fun vs H Q _ => ∃ (a b : Addr) (hs : List Int) (l : List Nat), vs = [.ref a, .ref b] ∧ H a = some (.lst (intsV hs)) ∧ H b = some (.lst (natsV l)) ∧ l.length ≤ 1000 ∧ (∀ z ∈ l, z < hs.length) ∧
  ∀ d prs H', Fst hs l prs → H d = none → H' d = some (.dK (prs.map cF)) → Same H H' → Q (.ref d) H'
/-- the rows of a paper, each laid as a tuple -/
def LaidP (H H' : Hp) (us : List Addr) (qs : List (Int × Int)) : Prop := us.length = qs.length ∧ ∀ (j : Nat) u pq, us[j]? = some u → qs[j]? = some pq → H u = none ∧ H' u = some (.tup [.int pq.1, .int pq.2])
def spPaper : Sp := fun vs H Q _ => ∃ (a b c : Addr) (ps : List (Option Nat)) (ks : List Nat) (hs : List Int) (p : Prt), vs = [.ref a, .ref b, .ref c] ∧ H a = some (.lst (ps.map oV)) ∧ H b = some (.lst (intsV hs)) ∧ PtA H p c ∧ ps.length ≤ 200 ∧ IsTr ps ks ∧ hs.length = ps.length ∧ p.Ok ps.length ∧ p.nodesF.length ≤ 50000 ∧
  ∀ (us : List Addr) q H', LaidP H H' us (papP hs (plP ps p)) → H q = none → H' q = some (.lst (us.map V.ref)) → Same H H' → Q (.ref q) H'
def spLPaper : Sp := fun vs H Q _ => ∃ (a b : Addr) (hs : List Int) (l : List Nat), vs = [.ref a, .ref b] ∧ H a = some (.lst (intsV hs)) ∧ H b = some (.lst (natsV l)) ∧ l.length ≤ 1000 ∧ (∀ z ∈ l, z < hs.length) ∧ l.Pairwise (· < ·) ∧
  ∀ (us : List Addr) q H', LaidP H H' us (papP hs l) → H q = none → H' q = some (.lst (us.map V.ref)) → Same H H' → Q (.ref q) H'
/-- the least places of two rows that have a hue alike -/
def alkP (hs : List Int) (l m : List Nat) : Option (Nat × Nat) := (l.find? fun x => (fstP hs m (hs.getD x 0)).isSome).bind fun x => (fstP hs m (hs.getD x 0)).map fun y => (x, y)
/-- None, or a tuple of two -/
def rPairO (H : Hp) (Q : VK) : Option (Nat × Nat) → Prop
  | none => ∀ H', Same H H' → Q .non H'
  | some (x, y) => ∀ t H', H t = none → H' t = some (.tup [.int (x : Int), .int (y : Int)]) → Same H H' → Q (.ref t) H'
def spAlikeIn : Sp := fun vs H Q _ => ∃ (a b c d : Addr) (ps : List (Option Nat)) (ks : List Nat) (hs : List Int) (p p2 : Prt), vs = [.ref a, .ref b, .ref c, .ref d] ∧ H a = some (.lst (ps.map oV)) ∧ H b = some (.lst (intsV hs)) ∧ PtA H p c ∧ PtA H p2 d ∧ ps.length ≤ 200 ∧ IsTr ps ks ∧ hs.length = ps.length ∧ p.Ok ps.length ∧ p.nodesF.length ≤ 50000 ∧ p2.Ok ps.length ∧ p2.nodesF.length ≤ 50000 ∧
  rPairO H Q (alkP hs (plP ps p) (plP ps p2))
def spLAlike : Sp := fun vs H Q _ => ∃ (a b c : Addr) (hs : List Int) (l m : List Nat), vs = [.ref a, .ref b, .ref c] ∧ H a = some (.lst (intsV hs)) ∧ H b = some (.lst (natsV l)) ∧ H c = some (.lst (natsV m)) ∧ l.length ≤ 1000 ∧ m.length ≤ 1000 ∧ (∀ z ∈ l, z < hs.length) ∧ (∀ z ∈ m, z < hs.length) ∧
  rPairO H Q (alkP hs l m)
theorem rPairO.some {H : Hp} {Q : VK} {o : Option (Nat × Nat)} {x y : Nat} (e : o = .some (x, y)) (h : rPairO H Q o) : ∀ t H', H t = none → H' t = .some (.tup [.int (x : Int), .int (y : Int)]) → Same H H' → Q (.ref t) H' := by subst e; exact h
theorem rPairO.non {H : Hp} {Q : VK} {o : Option (Nat × Nat)} (e : o = none) (h : rPairO H Q o) : ∀ H', Same H H' → Q .non H' := by subst e; exact h
def spRight26 : Sp := fun vs H Q _ => ∃ (a b c d : Addr) (ps : List (Option Nat)) (ks : List Nat) (hs : List Int) (p p2 : Prt), vs = [.ref a, .ref b, .ref c, .ref d] ∧ H a = some (.lst (ps.map oV)) ∧ H b = some (.lst (intsV hs)) ∧ PtA H p c ∧ PtA H p2 d ∧ ps.length ≤ 200 ∧ IsTr ps ks ∧ hs.length = ps.length ∧ p.Ok ps.length ∧ p.ht ≤ 13 ∧ p2.Ok ps.length ∧ p2.ht ≤ 13 ∧
  ∀ H', Same H H' → Q (.bl true) H'
end Hb

set_option Elab.async false
set_option linter.all false
set_option maxRecDepth 100000
set_option maxHeartbeats 4000000

namespace Hb
open PySem L2
/-! ### papers that are judged -/
def Ris (ns : List Int) : Prop := ∀ (j : Nat) p q, ns[j]? = some p → ns[j + 1]? = some q → p < q
def StP (hs : List Int) (l : List Nat) (q : Int × Int) : Prop := q.2 ∈ (l.map fun (k : Nat) => (k : Int)) ∧ hs.getD q.2.toNat 0 = q.1
structure Lets (hs : List Int) (l : List Nat) (qs : List (Int × Int)) : Prop where
  ris : Ris (qs.map fun q => q.1)
  st : ∀ q ∈ qs, StP hs l q
  all : ∀ z ∈ l, hs.getD z 0 ∈ qs.map fun q => q.1
abbrev zQ (zs : List ZP) : List (Int × Int) := zs.map fun e => e.2
theorem ZOk.kp {H H' : Hp} {D : Addr} {ys : List V} {zs : List ZP} (h : ZOk H zs) (hD : H D = some (.lst ys)) (kp : Kp D H H') : ZOk H' zs := fun e he => kp _ _ (h e he) fun z => by have := h e he; rw [z, hD] at this; cases this
theorem ZOk.same {H H' : Hp} {zs : List ZP} (h : ZOk H zs) (s : Same H H') : ZOk H' zs := fun e he => s _ _ (h e he)
theorem ZOk.led {H H' : Hp} {S : List Addr} {l : List (Addr × HO)} {zs : List ZP} (h : ZOk H zs) (L : Led H S H' l) (hS : ∀ s ∈ S, ∃ xs, H s = some (.lst xs)) : ZOk H' zs := fun e he => L.keep _ _ (h e he) fun m => by
  obtain ⟨xs, ex⟩ := hS _ m
  have := h e he
  rw [ex] at this
  cases this
theorem ZOk.app {H : Hp} {zs ys : List ZP} (h : ZOk H zs) (h2 : ZOk H ys) : ZOk H (zs ++ ys) := fun e he => (List.mem_append.mp he).elim (h e) (h2 e)
theorem ZOk.take {H : Hp} {zs : List ZP} (n : Nat) (h : ZOk H zs) : ZOk H (zs.take n) := fun e he => h e (List.mem_of_mem_take he)
theorem ZOk.drop {H : Hp} {zs : List ZP} (n : Nat) (h : ZOk H zs) : ZOk H (zs.drop n) := fun e he => h e (List.mem_of_mem_drop he)
theorem ZOk.one {H : Hp} {a : Addr} {q : Int × Int} (h : H a = some (.tup [.int q.1, .int q.2])) : ZOk H [(a, q)] := fun e he => by rw [List.mem_singleton.mp he]; exact h
def spRising : Sp := fun vs H Q _ => ∃ (a : Addr) (ns : List Int), vs = [.ref a] ∧ H a = some (.lst (intsV ns)) ∧ ns.length ≤ 1000 ∧ ∀ b H', (b = true ↔ Ris ns) → Same H H' → Q (.bl b) H'
def spShows : Sp := fun vs H Q _ => ∃ (a b c d : Addr) (ps : List (Option Nat)) (ks : List Nat) (hs : List Int) (p : Prt) (zs : List ZP), vs = [.ref a, .ref b, .ref c, .ref d] ∧ H a = some (.lst (ps.map oV)) ∧ H b = some (.lst (intsV hs)) ∧ PtA H p c ∧ H d = some (.lst (zR zs)) ∧ ZOk H zs ∧ zs.length ≤ 1000 ∧ ps.length ≤ 200 ∧ IsTr ps ks ∧ hs.length = ps.length ∧ p.Ok ps.length ∧ p.nodesF.length ≤ 50000 ∧
  ∀ b H', (b = true ↔ Lets hs (plP ps p) (zQ zs)) → Same H H' → Q (.bl b) H'
def spLets : Sp := fun vs H Q _ => ∃ (a b c : Addr) (hs : List Int) (l : List Nat) (zs : List ZP), vs = [.ref a, .ref b, .ref c] ∧ H a = some (.lst (intsV hs)) ∧ H b = some (.lst (natsV l)) ∧ H c = some (.lst (zR zs)) ∧ ZOk H zs ∧ zs.length ≤ 1000 ∧ l.length ≤ 1000 ∧ (∀ z ∈ l, z < hs.length) ∧
  ∀ b H', (b = true ↔ Lets hs l (zQ zs)) → Same H H' → Q (.bl b) H'
def spFar : Sp := fun vs H Q _ => ∃ (r : Addr) (ρ : Pt), vs = [.ref r] ∧ H r = some (potO ρ) ∧ ∀ ρ' (n : Int) H', 0 ≤ n → H' r = some (potO ρ') → Kp r H H' → Q (.int n) H'
def spGood : Sp := fun vs H Q _ => ∃ (r b c : Addr) (ρ : Pt) (hs : List Int) (l : List Nat), vs = [.ref r, .ref b, .ref c] ∧ H r = some (potO ρ) ∧ H b = some (.lst (intsV hs)) ∧ H c = some (.lst (natsV l)) ∧ b ≠ r ∧ c ≠ r ∧ l.length ≤ 1000 ∧ (∀ z ∈ l, z < hs.length) ∧
  ∀ ρ' (zs : List ZP) q H', H q = none → H' q = some (.lst (zR zs)) → ZOk H' zs → zs.length ≤ l.length → H' r = some (potO ρ') → Kp r H H' → Q (.ref q) H'
def spBent : Sp := fun vs H Q _ => ∃ (r b c : Addr) (ρ : Pt) (hs : List Int) (zs : List ZP), vs = [.ref r, .ref b, .ref c] ∧ H r = some (potO ρ) ∧ H b = some (.lst (intsV hs)) ∧ H c = some (.lst (zR zs)) ∧ b ≠ r ∧ c ≠ r ∧ ZOk H zs ∧ zs.length ≤ 500 ∧ 1 ≤ hs.length ∧ hs.length ≤ 500 ∧
  ∀ ρ' (zs' : List ZP) q H', H q = none → H' q = some (.lst (zR zs')) → ZOk H' zs' → zs'.length ≤ zs.length + 1 → H' r = some (potO ρ') → Kp r H H' → Q (.ref q) H'
/-- papers in a list, apart from two others -/
def PapsA (H : Hp) (D r : Addr) (n : Nat) (as : List Addr) : Prop := ∀ a ∈ as, a ≠ D ∧ a ≠ r ∧ ∃ zs : List ZP, H a = some (.lst (zR zs)) ∧ ZOk H zs ∧ zs.length ≤ n
theorem PapsA.same {H H' : Hp} {D r : Addr} {n : Nat} {as : List Addr} (h : PapsA H D r n as) (s : Same H H') : PapsA H' D r n as := fun a ha => by
  obtain ⟨h1, h2, zs, h3, h4, h5⟩ := h a ha
  exact ⟨h1, h2, zs, s _ _ h3, h4.same s, h5⟩
theorem PapsA.other {H : Hp} {D E r : Addr} {n : Nat} {as : List Addr} (h : PapsA H D r n as) (hE : H E = none) : PapsA H E r n as := fun a ha => by
  obtain ⟨h1, h2, zs, h3, h4, h5⟩ := h a ha
  exact ⟨(fun e => by rw [e, hE] at h3; cases h3), h2, zs, h3, h4, h5⟩
theorem PapsA.up {H : Hp} {D r : Addr} {n m : Nat} {as : List Addr} (h : PapsA H D r n as) (hm : n ≤ m) : PapsA H D r m as := fun a ha => by
  obtain ⟨h1, h2, zs, h3, h4, h5⟩ := h a ha
  exact ⟨h1, h2, zs, h3, h4, Nat.le_trans h5 hm⟩
theorem PapsA.cons {H : Hp} {D r : Addr} {n : Nat} {as : List Addr} {a : Addr} {zs : List ZP} (h : PapsA H D r n as) (h1 : a ≠ D) (h2 : a ≠ r) (h3 : H a = some (.lst (zR zs))) (h4 : ZOk H zs) (h5 : zs.length ≤ n) : PapsA H D r n (a :: as) := fun b hb => by
  rcases List.mem_cons.mp hb with rfl | hb
  · exact ⟨h1, h2, zs, h3, h4, h5⟩
  · exact h b hb
theorem PapsA.nil {H : Hp} {D r : Addr} {n : Nat} : PapsA H D r n [] := fun a h => by cases h
theorem PapsA.snoc {H : Hp} {D r : Addr} {n : Nat} {as : List Addr} {a : Addr} {zs : List ZP} (h : PapsA H D r n as) (h1 : a ≠ D) (h2 : a ≠ r) (h3 : H a = some (.lst (zR zs))) (h4 : ZOk H zs) (h5 : zs.length ≤ n) : PapsA H D r n (as ++ [a]) := fun b hb => by
  rcases List.mem_append.mp hb with hb | hb
  · exact h b hb
  · rw [List.mem_singleton.mp hb]; exact ⟨h1, h2, zs, h3, h4, h5⟩
end Hb

set_option Elab.async false
set_option linter.all false
set_option maxRecDepth 100000
set_option maxHeartbeats 4000000

namespace Hb
open PySem L2
/-! ### often and papers together -/
def spRight3 : Sp := fun vs H Q _ => ∃ (a b c : Addr) (ps : List (Option Nat)) (ks : List Nat) (hs : List Int) (p : Prt), vs = [.ref a, .ref b, .ref c] ∧ H a = some (.lst (ps.map oV)) ∧ H b = some (.lst (intsV hs)) ∧ PtA H p c ∧ ps.length ≤ 60 ∧ IsTr ps ks ∧ hs.length = ps.length ∧ p.Ok ps.length ∧ p.ht ≤ 5 ∧ ∀ H', Same H H' → Q (.bl true) H'
def spTwo24 : Sp := fun vs H Q _ => ∃ (a b c d : Addr) (ps : List (Option Nat)) (ks : List Nat) (hs : List Int) (p p2 : Prt), vs = [.ref a, .ref b, .ref c, .ref d] ∧ H a = some (.lst (ps.map oV)) ∧ H b = some (.lst (intsV hs)) ∧ PtA H p c ∧ PtA H p2 d ∧ ps.length ≤ 60 ∧ IsTr ps ks ∧ hs.length = ps.length ∧ p.Ok ps.length ∧ p.ht ≤ 5 ∧ p2.Ok ps.length ∧ p2.ht ≤ 5 ∧ ∀ H', Same H H' → Q (.bl true) H'
end Hb

set_option Elab.async false
set_option linter.all false
set_option maxRecDepth 100000
set_option maxHeartbeats 4000000

namespace Hb
open PySem L2
/-! ### lists that may be no trees -/
/-- a list of None and whole numbers, whatever they are -/
def oJ : Option Int → V
  | none => .non
  | some i => .int i
def emb (ps : List (Option Nat)) : List (Option Int) := ps.map (Option.map fun (n : Nat) => (n : Int))
theorem emb_len (ps : List (Option Nat)) : (emb ps).length = ps.length := List.length_map _
theorem map_emb (ps : List (Option Nat)) : (emb ps).map oJ = ps.map oV := by
  unfold emb
  rw [List.map_map]
  refine List.map_congr_left fun o _ => ?_
  cases o <;> rfl
theorem emb_none {ps : List (Option Nat)} {i : Nat} : (emb ps)[i]? = some none ↔ ps[i]? = some none := by
  unfold emb
  rw [List.getElem?_map]
  cases e : ps[i]? with
  | none => simp
  | some o => cases o <;> simp
theorem emb_some {ps : List (Option Nat)} {i : Nat} {y : Int} : (emb ps)[i]? = some (some y) ↔ ∃ z : Nat, y = z ∧ ps[i]? = some (some z) := by
  unfold emb
  rw [List.getElem?_map]
  cases e : ps[i]? with
  | none => simp
  | some o =>
    cases o with
    | none => simp
    | some z =>
      simp only [Option.map_some, Option.some.injEq]
      exact ⟨fun h => ⟨z, h.symm, rfl⟩, fun ⟨z', h1, h2⟩ => by rw [h1, h2]⟩
/-- it is a tree -/
def IsT (qs : List (Option Int)) : Prop := ∃ ps ks, qs = emb ps ∧ IsTr ps ks
def rootsI (qs : List (Option Int)) (i : Nat) : List Nat := (List.range i).filter fun j => decide (qs[j]? = some none)
theorem rootsI_succ (qs : List (Option Int)) (i : Nat) : rootsI qs (i + 1) = rootsI qs i ++ if qs[i]? = some none then [i] else [] := by
  unfold rootsI
  rw [List.range_succ, List.filter_append]
  by_cases h : qs[i]? = some none
  · rw [if_pos h]; simp [h]
  · rw [if_neg h]; simp [h]
theorem IsTr.rootsJ {ps : List (Option Nat)} {ks : List Nat} (h : IsTr ps ks) : ∃ r, ks[0]? = some r ∧ rootsI (emb ps) (emb ps).length = [r] := by
  have hl : ks.length = ps.length := by rw [h.perm.length_eq, List.length_range]
  have hp := h.pos
  refine ⟨ks[0], List.getElem?_eq_getElem (by omega), ?_⟩
  have e0 : ks[0]? = some ks[0] := List.getElem?_eq_getElem (by omega)
  have p : (rootsI (emb ps) (emb ps).length).Perm [ks[0]] := by
    refine (List.perm_ext_iff_of_nodup (List.nodup_range.filter _) (by simp)).mpr fun x => ?_
    rw [List.mem_filter, List.mem_range, decide_eq_true_eq, List.mem_singleton, emb_len, emb_none]
    refine ⟨fun ⟨hx, e⟩ => ?_, fun e => ?_⟩
    · obtain ⟨k, hk, ek⟩ := h.at hx
      by_cases k0 : k = 0
      · subst k0
        rw [e0] at ek
        exact (Option.some.inj ek).symm
      · obtain ⟨j, y, _, _, e2⟩ := h.up k x (by omega) ek
        rw [e2] at e
        cases e
    · subst e
      exact ⟨h.ltp e0, h.root _ e0⟩
  exact List.perm_singleton.mp p
theorem optI_at {qs : List (Option Int)} {i : Nat} {x : V} (hx : (qs.map oJ)[i]? = some x) : ∃ o, qs[i]? = some o ∧ x = oJ o := by
  rw [List.getElem?_map] at hx
  cases e : qs[i]? with
  | none => rw [e] at hx; cases hx
  | some o => rw [e] at hx; exact ⟨o, rfl, (Option.some.inj hx).symm⟩
def spPlaceJ : Sp := fun vs H Q _ => ∃ (a : Addr) (ps : List V) (x : Int), vs = [.ref a, .int x] ∧ H a = some (.lst ps) ∧ ps.length ≤ 1000 ∧ Q (.bl (decide (0 ≤ x ∧ x < ps.length))) H
theorem uPlaceJ {H : Hp} {Q : VK} {E : XK} {a : Addr} {ps : List V} {x : Int} (h : H a = some (.lst ps)) (hl : ps.length ≤ 1000) (k : Q (.bl (decide (0 ≤ x ∧ x < ps.length))) H) : spPlaceJ ([.ref a, .int x] ++ []) H Q E := ⟨a, ps, x, rfl, h, hl, k⟩
def spRootJ (C : Addr) : Sp := fun vs H Q E => ∃ (a : Addr) (qs : List (Option Int)), vs = [.ref a] ∧ H a = some (.lst (qs.map oJ)) ∧ qs.length ≤ 250 ∧
  (∀ (r : Nat) H', rootsI qs qs.length = [r] → Same H H' → Q (.int r) H') ∧ ((rootsI qs qs.length).length ≠ 1 → ∀ H', Same H H' → E (.ref C) none H')
def kidsI (qs : List (Option Int)) (i j : Nat) : List Nat := (List.range i).filter fun x => decide (qs[x]? = some (some (j : Int)))
theorem kidsI_succ (qs : List (Option Int)) (i j : Nat) : kidsI qs (i + 1) j = kidsI qs i j ++ if qs[i]? = some (some (j : Int)) then [i] else [] := by
  unfold kidsI
  rw [List.range_succ, List.filter_append]
  by_cases h : qs[i]? = some (some (j : Int))
  · rw [if_pos h]; simp [h]
  · rw [if_neg h]; simp [h]
theorem kidsI_len (qs : List (Option Int)) (i j : Nat) : (kidsI qs i j).length ≤ i := by
  unfold kidsI
  exact Nat.le_trans (List.length_filter_le _ _) (by simp)
theorem kidsI_emb (ps : List (Option Nat)) (j : Nat) : kidsI (emb ps) (emb ps).length j = kidsN ps j := by
  unfold kidsI kidsN
  rw [emb_len]
  refine List.filter_congr fun x _ => decide_eq_decide.mpr ?_
  rw [emb_some]
  exact ⟨fun ⟨z, h1, h2⟩ => by rw [h2]; congr; omega, fun h => ⟨j, rfl, h⟩⟩
def rowsJ (qs : List (Option Int)) (i : Nat) : List (List V) := (List.range qs.length).map fun j => natsV (kidsI qs i j)
theorem rowsJ_zero (qs : List (Option Int)) : rowsJ qs 0 = List.replicate qs.length [] := by
  unfold rowsJ kidsI
  rw [List.eq_replicate_iff]
  refine ⟨by simp, fun x hx => ?_⟩
  obtain ⟨j, _, rfl⟩ := List.mem_map.mp hx
  rfl
theorem rowsJ_at {qs : List (Option Int)} {i j : Nat} (h : j < qs.length) : (rowsJ qs i)[j]? = some (natsV (kidsI qs i j)) := by
  unfold rowsJ
  rw [List.getElem?_map, List.getElem?_range h]
  rfl
theorem rowsJ_none {qs : List (Option Int)} {i : Nat} (h : qs[i]? = some none) : rowsJ qs (i + 1) = rowsJ qs i := by
  unfold rowsJ
  refine List.map_congr_left fun j _ => ?_
  rw [kidsI_succ, if_neg (by rw [h]; intro z; cases z), List.append_nil]
theorem rowsJ_some {qs : List (Option Int)} {i y : Nat} (h : qs[i]? = some (some (y : Int))) : rowsJ qs (i + 1) = (rowsJ qs i).set y (natsV (kidsI qs i y) ++ [V.int (i : Nat)]) := by
  refine List.ext_getElem? fun j => ?_
  rw [List.getElem?_set]
  have hl : (rowsJ qs i).length = qs.length := by simp [rowsJ]
  by_cases hj : j < qs.length
  · rw [rowsJ_at hj, kidsI_succ, h]
    by_cases e : y = j
    · subst e
      rw [if_pos rfl, if_pos rfl, if_pos (by rw [hl]; exact hj), natsV, List.map_append]
      rfl
    · rw [if_neg (fun z => e (by injection z with z; injection z with z; omega)), List.append_nil, if_neg e, rowsJ_at hj]
  · have h1 : (rowsJ qs (i + 1))[j]? = none := List.getElem?_eq_none (by simp [rowsJ]; omega)
    have h2 : (rowsJ qs i)[j]? = none := List.getElem?_eq_none (by simp [rowsJ]; omega)
    rw [h1, h2]
    split
    · rw [if_neg (by rw [hl]; omega)]
    · rfl
/-- all parents so far are places -/
def UpsI (qs : List (Option Int)) (i : Nat) : Prop := ∀ (j : Nat) (y : Int), j < i → qs[j]? = some (some y) → 0 ≤ y ∧ y < qs.length
theorem UpsI.emb {qs : List (Option Int)} (h : UpsI qs qs.length) : ∃ ps, qs = emb ps ∧ Ups ps := by
  refine ⟨qs.map (Option.map Int.toNat), ?_, ?_⟩
  · unfold Hb.emb
    rw [List.map_map]
    refine (List.map_id qs).symm.trans (List.map_congr_left fun o ho => ?_)
    cases o with
    | none => rfl
    | some y =>
      obtain ⟨j, hj, e⟩ := List.mem_iff_getElem.mp ho
      have := h j y hj (by rw [List.getElem?_eq_getElem hj, e])
      show some y = some ((y.toNat : Nat) : Int)
      congr 1
      omega
  · intro i y e
    rw [List.getElem?_map] at e
    cases e1 : qs[i]? with
    | none => rw [e1] at e; cases e
    | some o =>
      rw [e1] at e
      cases o with
      | none => cases e
      | some z =>
        have hz := h i z (List.getElem?_eq_some_iff.mp e1).1 e1
        have : z.toNat = y := by simpa using e
        rw [List.length_map]
        omega
def spKidsJ (C : Addr) : Sp := fun vs H Q E => ∃ (a : Addr) (qs : List (Option Int)), vs = [.ref a] ∧ H a = some (.lst (qs.map oJ)) ∧ qs.length ≤ 250 ∧
  (∀ (ps : List (Option Nat)) (q : Addr) (as : List Addr) H', qs = emb ps → Ups ps → as.length = ps.length → H q = none → H' q = some (.lst (as.map V.ref)) → (∀ (j : Nat) (x : Addr), as[j]? = some x → H x = none ∧ H' x = some (.lst (natsV (kidsN ps j)))) → Same H H' → Q (.ref q) H') ∧
  ((¬ ∃ ps, qs = emb ps ∧ Ups ps) → ∀ H', Same H H' → E (.ref C) none H')
/-- amid the walk, and each that is told has its parent ahead of it -/
structure WA (ps : List (Option Nat)) (r : Nat) (o S : List Nat) : Prop where
  wi : WI ps r o S
  ah : ∀ (i x : Nat), o[i]? = some x → x = r ∨ ∃ (j p : Nat), j < i ∧ o[j]? = some p ∧ ps[x]? = some (some p)
theorem WA.start {ps : List (Option Nat)} {r : Nat} (h : r < ps.length) : WA ps r [] [r] := ⟨WI.start h, fun i x e => by simp at e⟩
theorem WA.step {ps : List (Option Nat)} {r p : Nat} {o S : List Nat} (hr : ps[r]? = some none) (h : WA ps r o (p :: S)) : WA ps r (o ++ [p]) (kidsN ps p ++ S) := by
  refine ⟨h.wi.step hr, fun i x e => ?_⟩
  by_cases hi : i < o.length
  · rw [List.getElem?_append_left hi] at e
    rcases h.ah i x e with h | ⟨j, q, hj, e1, e2⟩
    · exact .inl h
    · exact .inr ⟨j, q, hj, by rw [List.getElem?_append_left (by omega)]; exact e1, e2⟩
  · have hi2 : i = o.length := by
      have := (List.getElem?_eq_some_iff.mp e).1
      rw [List.length_append] at this
      simp at this
      omega
    subst hi2
    have ex : x = p := by simpa using e.symm
    subst ex
    by_cases hx : x = r
    · exact .inl hx
    · obtain ⟨q, hq, e2⟩ := h.wi.par x (by simp) hx
      obtain ⟨j, hj, e1⟩ := List.mem_iff_getElem.mp hq
      exact .inr ⟨j, q, hj, by rw [List.getElem?_append_left hj, List.getElem?_eq_getElem hj, e1], e2⟩
/-- a whole walk is an order that makes the list a tree -/
theorem WA.tr {ps : List (Option Nat)} {r : Nat} {o : List Nat} (hr : ps[r]? = some none) (h : WA ps r o []) (hl : o.length = ps.length) : IsTr ps o := by
  have nd : o.Nodup := by have := h.wi.nd; rwa [List.append_nil] at this
  have lt : ∀ x ∈ o, x < ps.length := fun x hx => h.wi.lt x (by simpa using hx)
  have perm : o.Perm (List.range ps.length) := by
    refine (List.perm_ext_iff_of_nodup nd List.nodup_range).mpr fun x => ⟨fun hx => List.mem_range.mpr (lt x hx), fun hx => Classical.byContradiction fun hn => ?_⟩
    have hx := List.mem_range.mp hx
    have := nodup_le (l := x :: o) (n := ps.length) (List.nodup_cons.mpr ⟨hn, nd⟩) fun y hy => by
      rcases List.mem_cons.mp hy with rfl | hy
      · exact hx
      · exact lt y hy
    rw [List.length_cons] at this
    omega
  have pos : 0 < ps.length := Nat.lt_of_le_of_lt (Nat.zero_le _) (List.getElem?_eq_some_iff.mp hr).1
  have o0 : ∀ x, o[0]? = some x → x = r := fun x e => by
    rcases h.ah 0 x e with h | ⟨j, p, hj, _⟩
    · exact h
    · omega
  refine ⟨perm, pos, fun x e => by rw [o0 x e]; exact hr, fun k x hk e => ?_⟩
  rcases h.ah k x e with hx | ⟨j, p, hj, e1, e2⟩
  · have h0 : o[0]? = some o[0] := List.getElem?_eq_getElem (by omega)
    have := o0 _ h0
    have e3 : o[0]? = o[k]? := by rw [h0, this, e, hx]
    have := (List.getElem?_inj (by omega) nd).mp e3
    omega
  · exact ⟨j, p, hj, e1, e2⟩
theorem IsTr.emb_inj {ps ps' : List (Option Nat)} (h : emb ps = emb ps') : ps = ps' := by
  refine List.ext_getElem? fun i => ?_
  have e : (emb ps)[i]? = (emb ps')[i]? := by rw [h]
  unfold emb at e
  rw [List.getElem?_map, List.getElem?_map] at e
  cases h1 : ps[i]? with
  | none =>
    cases h2 : ps'[i]? with
    | none => rfl
    | some o => rw [h1, h2] at e; cases e
  | some o =>
    cases h2 : ps'[i]? with
    | none => rw [h1, h2] at e; cases e
    | some o2 =>
      rw [h1, h2] at e
      cases o with
      | none => cases o2 with
        | none => rfl
        | some z => simp at e
      | some y => cases o2 with
        | none => simp at e
        | some z =>
          simp at e
          have : y = z := by omega
          rw [this]
theorem rootsI_mem {qs : List (Option Int)} {r : Nat} (h : rootsI qs qs.length = [r]) : qs[r]? = some none := by
  have : r ∈ rootsI qs qs.length := by rw [h]; simp
  unfold rootsI at this
  rw [List.mem_filter, decide_eq_true_eq] at this
  exact this.2
def spWalkJ (C : Addr) : Sp := fun vs H Q E => ∃ (a : Addr) (qs : List (Option Int)), vs = [.ref a] ∧ H a = some (.lst (qs.map oJ)) ∧ qs.length ≤ 250 ∧
  (∀ (ps : List (Option Nat)) (o : List Nat) q H', qs = emb ps → IsTr ps o → H q = none → H' q = some (.lst (natsV o)) → Same H H' → Q (.ref q) H') ∧
  (¬ IsT qs → ∀ H', Same H H' → E (.ref C) none H')
def spNeedJ (C : Addr) : Sp := fun vs H Q E => ∃ (a : Addr) (qs : List (Option Int)), vs = [.ref a] ∧ H a = some (.lst (qs.map oJ)) ∧ qs.length ≤ 250 ∧
  (IsT qs → ∀ H', Same H H' → Q .non H') ∧ (¬ IsT qs → ∀ H', Same H H' → E (.ref C) none H')
/-- one place is asked: NoTree first, then NoPlace -/
def spOneJ (C D : Addr) : Sp := fun vs H Q E => ∃ (a : Addr) (qs : List (Option Int)) (x : Int), vs = [.ref a, .int x] ∧ H a = some (.lst (qs.map oJ)) ∧ qs.length ≤ 250 ∧
  (IsT qs → 0 ≤ x ∧ x < qs.length → ∀ v H', Same H H' → Q v H') ∧ (IsT qs → ¬ (0 ≤ x ∧ x < qs.length) → ∀ H', Same H H' → E (.ref D) none H') ∧ (¬ IsT qs → ∀ H', Same H H' → E (.ref C) none H')
section
variable {H : Hp} {Q : VK} {E : XK} {a C D : Addr} {qs : List (Option Int)} {x : Int}
theorem uRootJ (h : H a = some (.lst (qs.map oJ))) (hl : qs.length ≤ 250) (k : ∀ (r : Nat) H', rootsI qs qs.length = [r] → Same H H' → Q (.int r) H') (kx : (rootsI qs qs.length).length ≠ 1 → ∀ H', Same H H' → E (.ref C) none H') : spRootJ C ([.ref a] ++ []) H Q E := ⟨a, qs, rfl, h, hl, k, kx⟩
theorem uKidsJ (h : H a = some (.lst (qs.map oJ))) (hl : qs.length ≤ 250)
    (k : ∀ (ps : List (Option Nat)) (q : Addr) (as : List Addr) H', qs = emb ps → Ups ps → as.length = ps.length → H q = none → H' q = some (.lst (as.map V.ref)) → (∀ (j : Nat) (x : Addr), as[j]? = some x → H x = none ∧ H' x = some (.lst (natsV (kidsN ps j)))) → Same H H' → Q (.ref q) H')
    (kx : (¬ ∃ ps, qs = emb ps ∧ Ups ps) → ∀ H', Same H H' → E (.ref C) none H') : spKidsJ C ([.ref a] ++ []) H Q E := ⟨a, qs, rfl, h, hl, k, kx⟩
theorem uWalkJ (h : H a = some (.lst (qs.map oJ))) (hl : qs.length ≤ 250) (k : ∀ (ps : List (Option Nat)) (o : List Nat) q H', qs = emb ps → IsTr ps o → H q = none → H' q = some (.lst (natsV o)) → Same H H' → Q (.ref q) H') (kx : ¬ IsT qs → ∀ H', Same H H' → E (.ref C) none H') :
    spWalkJ C ([.ref a] ++ []) H Q E := ⟨a, qs, rfl, h, hl, k, kx⟩
theorem uNeedJ (h : H a = some (.lst (qs.map oJ))) (hl : qs.length ≤ 250) (k : IsT qs → ∀ H', Same H H' → Q .non H') (kx : ¬ IsT qs → ∀ H', Same H H' → E (.ref C) none H') : spNeedJ C ([.ref a] ++ []) H Q E := ⟨a, qs, rfl, h, hl, k, kx⟩
end
/-- one step from parent to parent, where there is one -/
def stepI (qs : List (Option Int)) (h : Int) : Int := if 0 ≤ h ∧ h < qs.length then (match qs[h.toNat]? with | some (some y) => y | _ => h) else h
def climb (qs : List (Option Int)) : Nat → Int → Int
  | 0, h => h
  | t + 1, h => stepI qs (climb qs t h)
theorem climb_succ (qs : List (Option Int)) (t : Nat) (h : Int) : climb qs (t + 1) h = climb qs t (stepI qs h) := by
  induction t with
  | zero => rfl
  | succ t ih => show stepI qs (climb qs (t + 1) h) = stepI qs (climb qs t (stepI qs h)); rw [ih]
theorem climb_fix {qs : List (Option Int)} {h : Int} (e : stepI qs h = h) (t : Nat) : climb qs t h = h := by
  induction t with
  | zero => rfl
  | succ t ih => rw [climb_succ, e, ih]
theorem step_none {qs : List (Option Int)} {x : Nat} (e : qs[x]? = some none) : stepI qs x = x := by
  unfold stepI
  split
  · rw [Int.toNat_natCast, e]
  · rfl
theorem step_some {qs : List (Option Int)} {x : Nat} {y : Int} (e : qs[x]? = some (some y)) : stepI qs x = y := by
  have := (List.getElem?_eq_some_iff.mp e).1
  unfold stepI
  rw [if_pos ⟨by omega, by omega⟩, Int.toNat_natCast, e]
theorem step_out {qs : List (Option Int)} {h : Int} (e : ¬ (0 ≤ h ∧ h < qs.length)) : stepI qs h = h := by
  unfold stepI
  rw [if_neg e]
/-- the law's own look at a tree -/
structure Good (qs : List (Option Int)) : Prop where
  one : (rootsI qs qs.length).length = 1
  all : ∀ x : Nat, x < qs.length → ∃ r : Nat, climb qs qs.length x = r ∧ qs[r]? = some none
theorem IsT.good {qs : List (Option Int)} (h : IsT qs) : Good qs := by
  obtain ⟨ps, ks, rfl, ht⟩ := h
  obtain ⟨r, hr, er⟩ := ht.rootsJ
  have hrn := ht.root r hr
  refine ⟨by rw [er]; rfl, fun x hx => ⟨r, ?_, emb_none.mpr hrn⟩⟩
  have key : ∀ (k x t : Nat), ks[k]? = some x → k ≤ t → climb (emb ps) t x = r := by
    intro k
    induction k using Nat.strongRecOn with
    | ind k ih =>
      intro x t e hk
      by_cases k0 : k = 0
      · subst k0
        rw [hr] at e
        cases e
        exact climb_fix (step_none (emb_none.mpr hrn)) t
      · obtain ⟨j, y, hj, ey, ex⟩ := ht.up k x (by omega) e
        obtain ⟨t', rfl⟩ : ∃ t', t = t' + 1 := ⟨t - 1, by omega⟩
        rw [climb_succ, step_some (emb_some.mpr ⟨y, rfl, ex⟩)]
        exact ih j hj y t' ey (by omega)
  rw [emb_len] at hx ⊢
  obtain ⟨k, hk, ek⟩ := ht.at hx
  exact key k x _ ek (by omega)
theorem WA.final {ps : List (Option Nat)} {r : Nat} (hr : ps[r]? = some none) : ∀ (m : Nat) (o S : List Nat), m + o.length = ps.length → WA ps r o S → ∃ o', WA ps r o' []
  | _, o, [], _, h => ⟨o, h⟩
  | 0, o, x :: S, hm, h => by
    have := h.wi.le
    rw [List.length_cons] at this
    omega
  | m + 1, o, x :: S, hm, h => WA.final hr m (o ++ [x]) (kidsN ps x ++ S) (by simp; omega) (h.step hr)
theorem Good.isT {qs : List (Option Int)} (h : Good qs) : IsT qs := by
  obtain ⟨r, er⟩ := List.length_eq_one_iff.mp h.one
  have hrn := rootsI_mem er
  have hr1 : r < qs.length := (List.getElem?_eq_some_iff.mp hrn).1
  have only : ∀ x : Nat, qs[x]? = some none → x = r := fun x e => by
    have : x ∈ rootsI qs qs.length := by
      unfold rootsI
      rw [List.mem_filter, List.mem_range, decide_eq_true_eq]
      exact ⟨(List.getElem?_eq_some_iff.mp e).1, e⟩
    rw [er] at this
    simpa using this
  have ups : UpsI qs qs.length := fun j y hj e => Classical.byContradiction fun hn => by
    obtain ⟨z, e1, e2⟩ := h.all j hj
    obtain ⟨n, hn1⟩ : ∃ n, qs.length = n + 1 := ⟨qs.length - 1, by omega⟩
    have e3 : climb qs qs.length j = y := by
      rw [hn1, climb_succ, step_some e]
      exact climb_fix (step_out hn) n
    rw [e3] at e1
    have := (List.getElem?_eq_some_iff.mp e2).1
    exact hn ⟨by omega, by omega⟩
  obtain ⟨ps, rfl, up⟩ := ups.emb
  rw [emb_none] at hrn
  rw [emb_len] at hr1
  obtain ⟨o, ho⟩ := WA.final hrn ps.length [] [r] (by simp) (WA.start hr1)
  have hoo : ∀ {x}, x ∈ o ++ [] ↔ x ∈ o := by simp
  have all : ∀ (t x : Nat), x < ps.length → climb (emb ps) t x = r → x ∈ o := by
    intro t
    induction t with
    | zero =>
      intro x hx e
      have : x = r := by have : (x : Int) = r := e; omega
      rw [this]
      exact hoo.mp ho.wi.root
    | succ t ih =>
      intro x hx e
      rw [climb_succ] at e
      cases ex : ps[x]? with
      | none => rw [List.getElem?_eq_none_iff] at ex; omega
      | some ov =>
        cases ov with
        | none =>
          rw [step_none (emb_none.mpr ex)] at e
          exact ih x hx e
        | some y =>
          rw [step_some (emb_some.mpr ⟨y, rfl, ex⟩)] at e
          exact hoo.mp (ho.wi.kid y (ih y (up x y ex) e) x (mem_kids.mpr ex))
  have nd : o.Nodup := by have := ho.wi.nd; rwa [List.append_nil] at this
  have perm : o.Perm (List.range ps.length) := by
    refine (List.perm_ext_iff_of_nodup nd List.nodup_range).mpr fun x => ⟨fun hx => List.mem_range.mpr (ho.wi.lt x (hoo.mpr hx)), fun hx => ?_⟩
    have hx := List.mem_range.mp hx
    obtain ⟨z, e1, e2⟩ := h.all x (by rw [emb_len]; exact hx)
    rw [only z e2] at e1
    exact all _ x hx e1
  exact ⟨ps, o, rfl, ho.tr hrn (by rw [perm.length_eq, List.length_range])⟩
theorem r_neOnes {H : Hp} {Q : VK} {K : PySem.W.Frag} {a b : Addr} {c : Nat} (h1 : SqL K H a (List.replicate c (V.int 1))) (h2 : SqL K H b [V.int 1]) (k : Q (.bl (!decide (c = 1))) H) : rNeD K (.ref a) (.ref b) H Q := by
  have hf : (List.replicate c (V.int 1)).all flatOk = true := by
    rw [List.all_eq_true]
    intro x hx
    rw [(List.mem_replicate.mp hx).2]
    rfl
  refine ⟨.list ((List.replicate c (V.int 1)).map vD), .list ([V.int 1].map vD), .lst h1 (dp_flat _ hf), .lst h2 (dp_flat _ rfl), shaped_flat _, shaped_flat _, ?_⟩
  have e : PyData.eqv (.list ((List.replicate c (V.int 1)).map vD)) (.list ([V.int 1].map vD)) = decide (c = 1) := by
    match c with
    | 0 => simp [PyData.eqv, PyData.eqvAll]
    | 1 => simp [PyData.eqv, PyData.eqvAll, vD]
    | c + 2 => simp [PyData.eqv, PyData.eqvAll, List.replicate_succ]
  rw [e]
  exact k
end Hb

set_option Elab.async false
set_option linter.all false
set_option maxRecDepth 100000
set_option maxHeartbeats 4000000

namespace Hb
open PySem L2
/-! ### what is refused: trees, hues, places -/
theorem IsTr.isT {ps : List (Option Nat)} {ks : List Nat} (h : IsTr ps ks) : IsT (emb ps) := ⟨ps, ks, rfl, h⟩
/-- trees, then hues -/
def spHuJ (C D : Addr) : Sp := fun vs H Q E => ∃ (a b : Addr) (qs : List (Option Int)) (hs : List Int), vs = [.ref a, .ref b] ∧ H a = some (.lst (qs.map oJ)) ∧ H b = some (.lst (intsV hs)) ∧ qs.length ≤ 250 ∧ hs.length ≤ 1000 ∧ (qs.length ≤ 200 ∨ ¬ IsT qs) ∧
  (IsT qs → hs.length = qs.length → ∀ v H', Same H H' → Q v H') ∧ (IsT qs → hs.length ≠ qs.length → ∀ H', Same H H' → E (.ref D) none H') ∧ (¬ IsT qs → ∀ H', Same H H' → E (.ref C) none H')
/-- the need itself: it tells None -/
def spNeedHJ (C D : Addr) : Sp := fun vs H Q E => ∃ (a b : Addr) (qs : List (Option Int)) (hs : List Int), vs = [.ref a, .ref b] ∧ H a = some (.lst (qs.map oJ)) ∧ H b = some (.lst (intsV hs)) ∧ qs.length ≤ 250 ∧ hs.length ≤ 1000 ∧
  (IsT qs → hs.length = qs.length → ∀ H', Same H H' → Q .non H') ∧ (IsT qs → hs.length ≠ qs.length → ∀ H', Same H H' → E (.ref D) none H') ∧ (¬ IsT qs → ∀ H', Same H H' → E (.ref C) none H')
theorem uNeedHJ {H : Hp} {Q : VK} {E : XK} {a b C D : Addr} {qs : List (Option Int)} {hs : List Int} (h : H a = some (.lst (qs.map oJ))) (h2 : H b = some (.lst (intsV hs))) (hl : qs.length ≤ 250) (hl2 : hs.length ≤ 1000)
    (k : IsT qs → hs.length = qs.length → ∀ H', Same H H' → Q .non H') (kd : IsT qs → hs.length ≠ qs.length → ∀ H', Same H H' → E (.ref D) none H') (kx : ¬ IsT qs → ∀ H', Same H H' → E (.ref C) none H') : spNeedHJ C D ([.ref a, .ref b] ++ []) H Q E := ⟨a, b, qs, hs, rfl, h, h2, hl, hl2, k, kd, kx⟩
/-- a row that is refused -/
def spWRowJ (C D : Addr) : Sp := fun vs H Q E => ∃ (a b : Addr) (qs : List (Option Int)) (hs : List Int), vs = [.ref a, .ref b] ∧ H a = some (.lst (qs.map oJ)) ∧ H b = some (.lst (intsV hs)) ∧ qs.length ≤ 250 ∧ hs.length ≤ 1000 ∧ ¬ (IsT qs ∧ hs.length = qs.length) ∧
  (IsT qs → hs.length ≠ qs.length → ∀ H', Same H H' → E (.ref D) none H') ∧ (¬ IsT qs → ∀ H', Same H H' → E (.ref C) none H')
/-- a span that is refused -/
def spSpanJ (D : Addr) : Sp := fun vs H Q E => ∃ (a : Addr) (ps : List (Option Nat)) (ks : List Nat) (x : Int), vs = [.ref a, .int x] ∧ H a = some (.lst (ps.map oV)) ∧ ps.length ≤ 200 ∧ IsTr ps ks ∧ ¬ (0 ≤ x ∧ x < ps.length) ∧ ∀ H', Same H H' → E (.ref D) none H'
/-- trees, then hues, then a place -/
def spHuPJ (C D F : Addr) : Sp := fun vs H Q E => ∃ (a b : Addr) (qs : List (Option Int)) (hs : List Int) (x : Int), vs = [.ref a, .ref b, .int x] ∧ H a = some (.lst (qs.map oJ)) ∧ H b = some (.lst (intsV hs)) ∧ qs.length ≤ 250 ∧ hs.length ≤ 1000 ∧ (qs.length ≤ 200 ∨ ¬ IsT qs) ∧
  (IsT qs → hs.length = qs.length → 0 ≤ x ∧ x < qs.length → ∀ v H', Same H H' → Q v H') ∧ (IsT qs → hs.length = qs.length → ¬ (0 ≤ x ∧ x < qs.length) → ∀ H', Same H H' → E (.ref F) none H') ∧ (IsT qs → hs.length ≠ qs.length → ∀ H', Same H H' → E (.ref D) none H') ∧ (¬ IsT qs → ∀ H', Same H H' → E (.ref C) none H')
end Hb

set_option Elab.async false
set_option linter.all false
set_option maxRecDepth 100000
set_option maxHeartbeats 4000000

namespace Hb
open PySem L2
/-! ### refused below -/
theorem IsT.last {qs : List (Option Int)} (h : IsT qs) {x : Nat} (hx : x < qs.length) : ∃ r : Nat, climb qs (qs.length - 1) x = r ∧ qs[r]? = some none := by
  obtain ⟨ps, ks, rfl, ht⟩ := h
  obtain ⟨r, hr, er⟩ := ht.rootsJ
  have hrn := ht.root r hr
  refine ⟨r, ?_, emb_none.mpr hrn⟩
  have key : ∀ (k x t : Nat), ks[k]? = some x → k ≤ t → climb (emb ps) t x = r := by
    intro k
    induction k using Nat.strongRecOn with
    | ind k ih =>
      intro x t e hk
      by_cases k0 : k = 0
      · subst k0
        rw [hr] at e
        cases e
        exact climb_fix (step_none (emb_none.mpr hrn)) t
      · obtain ⟨j, y, hj, ey, ex⟩ := ht.up k x (by omega) e
        obtain ⟨t', rfl⟩ : ∃ t', t = t' + 1 := ⟨t - 1, by omega⟩
        rw [climb_succ, step_some (emb_some.mpr ⟨y, rfl, ex⟩)]
        exact ih j hj y t' ey (by omega)
  rw [emb_len] at hx ⊢
  obtain ⟨k, hk, ek⟩ := ht.at hx
  have hkl : k < ps.length := by
    have := (List.getElem?_eq_some_iff.mp ek).1
    have h2 := ht.perm.length_eq
    rw [List.length_range] at h2
    omega
  exact key k x _ ek (by omega)
theorem flat_oJ (qs : List (Option Int)) : (qs.map oJ).all flatOk = true := by
  rw [List.all_map, List.all_eq_true]
  intro o _
  cases o <;> rfl
def spIsTreeJ : Sp := fun vs H Q _ => ∃ (a : Addr) (qs : List (Option Int)), vs = [.ref a] ∧ H a = some (.lst (qs.map oJ)) ∧ qs.length ≤ 250 ∧
  (IsT qs → ∀ H', Same H H' → Q (.bl true) H') ∧ (¬ IsT qs → ∀ H', Same H H' → Q (.bl false) H')
/-- what is due -/
structure DueR (qs : List (Option Int)) (hs : List Int) (d x n : Int) : Prop where
  t : ¬ IsT qs → n = 1
  h : IsT qs → hs.length ≠ qs.length → n = 2
  p : IsT qs → hs.length = qs.length → d < 2 → ¬ (0 ≤ x ∧ x < qs.length) → n = 3
  z : IsT qs → hs.length = qs.length → (2 ≤ d ∨ (0 ≤ x ∧ x < qs.length)) → n = 0
theorem DueR.det {qs : List (Option Int)} {hs : List Int} {d x n m : Int} (h1 : DueR qs hs d x n) (h2 : DueR qs hs d x m) : n = m := by
  by_cases hT : IsT qs
  · by_cases he : hs.length = qs.length
    · by_cases hz : 2 ≤ d ∨ (0 ≤ x ∧ x < qs.length)
      · rw [h1.z hT he hz, h2.z hT he hz]
      · have a1 : d < 2 := Int.not_le.mp fun h => hz (.inl h)
        have a2 : ¬ (0 ≤ x ∧ x < qs.length) := fun h => hz (.inr h)
        rw [h1.p hT he a1 a2, h2.p hT he a1 a2]
    · rw [h1.h hT he, h2.h hT he]
  · rw [h1.t hT, h2.t hT]
def spDueJ : Sp := fun vs H Q _ => ∃ (d : Int) (a b : Addr) (x : Int) (qs : List (Option Int)) (hs : List Int), vs = [.int d, .ref a, .ref b, .int x] ∧ H a = some (.lst (qs.map oJ)) ∧ H b = some (.lst (intsV hs)) ∧ qs.length ≤ 200 ∧ hs.length ≤ 1000 ∧ 0 ≤ d ∧ d < 3 ∧ ∀ n H', DueR qs hs d x n → Same H H' → Q (.int n) H'
structure TxtW (mg : Str → Option Value) (cF cL cN cT cY c1 c2 c3 c4 : Addr) : Prop where
  b_isinstance : mg "isinstance" = none
  b_ValueError : mg "ValueError" = none
  b_int : mg "int" = none
  b_sum : mg "sum" = none
  c_NoForm : mg "NoForm" = some (.ref cF)
  c_NoLeaf : mg "NoLeaf" = some (.ref cL)
  c_NoNumber : mg "NoNumber" = some (.ref cN)
  c_NoText : mg "NoText" = some (.ref cT)
  c_NoneYet : mg "NoneYet" = some (.ref cY)
  c_NoTree : mg "NoTree" = some (.ref c1)
  c_NoHues : mg "NoHues" = some (.ref c2)
  c_NoPlace : mg "NoPlace" = some (.ref c3)
  c_NoPart : mg "NoPart" = some (.ref c4)
def spWord (K : PySem.W.Frag) (cF cL cN cT cY c1 c2 c3 c4 : Addr) : Sp := fun vs H Q _ => ∃ v, vs = [v] ∧ ((v = .non ∧ ∀ H', Same H H' → Q (.int 0) H') ∨ ∃ ea C j, v = .ref ea ∧ H ea = some (excO ea C) ∧ WordC K cF cL cN cT cY c1 c2 c3 c4 C j ∧ ∀ H', Same H H' → Q (.int (j : Nat)) H')
section
variable {H : Hp} {Q : VK} {E : XK} {ea C : Addr} {K : PySem.W.Frag} {cF cL cN cT cY c1 c2 c3 c4 : Addr} {j : Nat}
end
/-- lists of parents in a list -/
def QsA (H : Hp) (D r : Addr) (n : Nat) (as : List Addr) : Prop := ∀ a ∈ as, a ≠ D ∧ a ≠ r ∧ ∃ qs : List (Option Int), H a = some (.lst (qs.map oJ)) ∧ qs.length ≤ n
theorem QsA.nil {H : Hp} {D r : Addr} {n : Nat} : QsA H D r n [] := fun a h => by cases h
theorem QsA.same {H H' : Hp} {D r : Addr} {n : Nat} {as : List Addr} (h : QsA H D r n as) (s : Same H H') : QsA H' D r n as := fun a ha => by
  obtain ⟨h1, h2, qs, h3, h4⟩ := h a ha
  exact ⟨h1, h2, qs, s _ _ h3, h4⟩
theorem QsA.led {H H' : Hp} {D r : Addr} {n : Nat} {as : List Addr} {S : List Addr} {l : List (Addr × HO)} (h : QsA H D r n as) (L : Led H S H' l) (hS : ∀ x ∈ S, x = D ∨ x = r) : QsA H' D r n as := fun a ha => by
  obtain ⟨h1, h2, qs, h3, h4⟩ := h a ha
  exact ⟨h1, h2, qs, L.keep _ _ h3 fun m => (hS a m).elim h1 h2, h4⟩
theorem QsA.other {H : Hp} {D F r : Addr} {n : Nat} {as : List Addr} (h : QsA H D r n as) (hF : H F = none) : QsA H F r n as := fun a ha => by
  obtain ⟨h1, h2, qs, h3, h4⟩ := h a ha
  exact ⟨(fun e => by rw [e, hF] at h3; cases h3), h2, qs, h3, h4⟩
theorem QsA.snoc {H : Hp} {D r : Addr} {n : Nat} {as : List Addr} {a : Addr} {qs : List (Option Int)} (h : QsA H D r n as) (h1 : a ≠ D) (h2 : a ≠ r) (h3 : H a = some (.lst (qs.map oJ))) (h5 : qs.length ≤ n) : QsA H D r n (as ++ [a]) := fun b hb => by
  rcases List.mem_append.mp hb with hb | hb
  · exact h b hb
  · rw [List.mem_singleton.mp hb]; exact ⟨h1, h2, qs, h3, h5⟩
theorem QsA.cons {H : Hp} {D r : Addr} {n : Nat} {as : List Addr} {a : Addr} {qs : List (Option Int)} (h : QsA H D r n as) (h1 : a ≠ D) (h2 : a ≠ r) (h3 : H a = some (.lst (qs.map oJ))) (h5 : qs.length ≤ n) : QsA H D r n (a :: as) := fun b hb => by
  rcases List.mem_cons.mp hb with rfl | hb
  · exact ⟨h1, h2, qs, h3, h5⟩
  · exact h b hb
/-- what is asked, laid as a tuple -/
def TrA (H : Hp) (t : Addr) : Prop := ∃ (x y : Addr) (z : Int) (qs : List (Option Int)) (hs : List Int), H t = some (.tup [.ref x, .ref y, .int z]) ∧ H x = some (.lst (qs.map oJ)) ∧ H y = some (.lst (hs.map V.int)) ∧ qs.length ≤ 200 ∧ hs.length ≤ 1000
theorem TrA.same {H H' : Hp} {t : Addr} (h : TrA H t) (s : Same H H') : TrA H' t := by
  obtain ⟨x, y, z, qs, hs, h1, h2, h3, h4⟩ := h
  exact ⟨x, y, z, qs, hs, s _ _ h1, s _ _ h2, s _ _ h3, h4⟩
theorem Kp.tr {r : Addr} {A B C : Hp} (h1 : Kp r A B) (h2 : Kp r B C) : Kp r A C := fun b u h n => h2 b u (h1 b u h n) n
theorem Kp.sm {r : Addr} {A B C : Hp} (h1 : Kp r A B) (h2 : Same B C) : Kp r A C := fun b u h n => h2 b u (h1 b u h n)
/-- hues in a list -/
def YsA (H : Hp) (r : Addr) (ys : List Addr) : Prop := ∀ y ∈ ys, y ≠ r ∧ ∃ hs : List Int, H y = some (.lst (hs.map V.int)) ∧ hs.length ≤ 1000
def spNoTreesB : Sp := fun vs H Q _ => ∃ (r a : Addr) (ρ : Rl) (ps : List (Option Nat)) (ks : List Nat), vs = [.ref r, .ref a] ∧ H r = some (reelO ρ) ∧ H a = some (.lst (ps.map oV)) ∧ a ≠ r ∧ ps.length ≤ 199 ∧ IsTr ps ks ∧
  ∀ ρ' (as : List Addr) q H', QsA H' q r 200 as → as.length = 9 → H q = none → H' q = some (.lst (as.map V.ref)) → H' r = some (reelO ρ') → Kp r H H' → Q (.ref q) H'
def spWideB : Sp := fun vs H Q _ => ∃ (r : Addr) (ρ : Rl), vs = [.ref r] ∧ H r = some (reelO ρ) ∧ ∀ ρ' H', H' r = some (reelO ρ') → Kp r H H' → Q (.bl true) H'
end Hb

set_option Elab.async false
set_option linter.all false
set_option maxRecDepth 100000
set_option maxHeartbeats 4000000

namespace Hb
open PySem L2
/-! ### chains and stars -/
theorem nat_rise_eq {l l' : List Nat} (h : l.Pairwise (· < ·)) (h' : l'.Pairwise (· < ·)) (m : ∀ z, z ∈ l ↔ z ∈ l') : l = l' := by
  have a : ∀ {l : List Nat}, l.Pairwise (· < ·) → l.Nodup := fun h => h.imp fun h => by omega
  exact List.Perm.eq_of_pairwise (le := fun a b => a < b) (fun a b _ _ h1 h2 => absurd (Nat.lt_trans h1 h2) (Nat.lt_irrefl _)) h h' ((List.perm_ext_iff_of_nodup (a h) (a h')).mpr m)
/-- down from the root -/
def chD (n : Nat) : List (Option Nat) := (List.range n).map fun k => if k = 0 then none else some (k - 1)
def chU (n : Nat) : List (Option Nat) := (List.range n).map fun k => if k + 1 = n then none else some (k + 1)
/-- hues by turns -/
def huT (t n : Nat) : List Int := (List.range n).map fun k => ((k % t : Nat) : Int)
/-- all others below one place -/
def stP (n c : Nat) : List (Option Nat) := (List.range n).map fun k => if k = c then none else some c
def spChain : Sp := fun vs H Q _ => ∃ (r : Addr) (ρ : Rl) (n t : Nat) (d : Bool), vs = [.ref r, .int (n : Int), .int (t : Int), .bl d] ∧ H r = some (reelO ρ) ∧ 1 ≤ n ∧ n ≤ 200 ∧ 1 ≤ t ∧ t ≤ 1000 ∧ ∀ ρ' H', H' r = some (reelO ρ') → Kp r H H' → Q (.bl true) H'
def spStar : Sp := fun vs H Q _ => ∃ (r : Addr) (ρ : Rl) (n t : Nat), vs = [.ref r, .int (n : Int), .int (t : Int)] ∧ H r = some (reelO ρ) ∧ 1 ≤ n ∧ n ≤ 200 ∧ 1 ≤ t ∧ t ≤ 1000 ∧ ∀ ρ' H', H' r = some (reelO ρ') → Kp r H H' → Q (.bl true) H'
end Hb

set_option Elab.async false
set_option linter.all false
set_option maxRecDepth 100000
set_option maxHeartbeats 4000000

namespace Hb
open PySem L2
/-! ### hues by turns as a row -/
def rowT (t n : Nat) : List Int := (List.range n).map fun k => (10 : Int) ^ 29 - ((k % t : Nat) : Int)
end Hb

set_option Elab.async false
set_option linter.all false
set_option maxRecDepth 100000
set_option maxHeartbeats 4000000

namespace Hb
open PySem L2
/-! ### refusals, the other family of laws (flags) -/
structure TxtH (mg : Str → Option Value) (c1 c2 c3 c4 c5 c6 c7 c8 c9 : Addr) : Prop where
  b_isinstance : mg "isinstance" = none
  b_ValueError : mg "ValueError" = none
  c_NoTree : mg "NoTree" = some (.ref c1)
  c_NoHues : mg "NoHues" = some (.ref c2)
  c_NoPlace : mg "NoPlace" = some (.ref c3)
  c_NoPart : mg "NoPart" = some (.ref c4)
  c_NoNumber : mg "NoNumber" = some (.ref c5)
  c_NoLeaf : mg "NoLeaf" = some (.ref c6)
  c_NoText : mg "NoText" = some (.ref c7)
  c_NoForm : mg "NoForm" = some (.ref c8)
  c_NoneYet : mg "NoneYet" = some (.ref c9)
/-- the class at C is the j-th of these and none of the others -/
structure FlagC (K : PySem.W.Frag) (c1 c2 c3 c4 c5 c6 c7 c8 c9 C : Addr) (j : Nat) : Prop where
  xi : PySem.W.XIs K C
  k1 : PySem.W.kitOne K (.ref C) (.ref c1) = some (decide (j = 1))
  k2 : PySem.W.kitOne K (.ref C) (.ref c2) = some (decide (j = 2))
  k3 : PySem.W.kitOne K (.ref C) (.ref c3) = some (decide (j = 3))
  k4 : PySem.W.kitOne K (.ref C) (.ref c4) = some (decide (j = 4))
  k5 : PySem.W.kitOne K (.ref C) (.ref c5) = some (decide (j = 5))
  k6 : PySem.W.kitOne K (.ref C) (.ref c6) = some (decide (j = 6))
  k7 : PySem.W.kitOne K (.ref C) (.ref c7) = some (decide (j = 7))
  k8 : PySem.W.kitOne K (.ref C) (.ref c8) = some (decide (j = 8))
  k9 : PySem.W.kitOne K (.ref C) (.ref c9) = some (decide (j = 9))
  kv : PySem.W.kitOne K (.ref C) (.type "ValueError") = some true
def flagsV (j : Nat) : List V := [V.bl (decide (j = 1)), V.bl (decide (j = 2)), V.bl (decide (j = 3)), V.bl (decide (j = 4)), V.bl (decide (j = 5)), V.bl (decide (j = 6)), V.bl (decide (j = 7)), V.bl (decide (j = 8)), V.bl (decide (j = 9)), V.bl false]
def spFlags (K : PySem.W.Frag) (c1 c2 c3 c4 c5 c6 c7 c8 c9 : Addr) : Sp := fun vs H Q _ => ∃ ea C j, vs = [.ref ea] ∧ H ea = some (excO ea C) ∧ FlagC K c1 c2 c3 c4 c5 c6 c7 c8 c9 C j ∧ ∀ q H', H q = none → H' q = some (.lst (flagsV j)) → Same H H' → Q (.ref q) H'
def spFarS : Sp := fun vs H Q _ => ∃ c k : Int, vs = [.int c, .int k] ∧ 0 ≤ k ∧ k ≤ 10000 ∧ ∀ (z : Int) H', 0 ≤ z → Same H H' → Q (.int z) H'
section
variable {H : Hp} {Q : VK} {E : XK} {a ea C : Addr} {c k d x : Int} {j : Nat} {K : PySem.W.Frag} {c1 c2 c3 c4 c5 c6 c7 c8 c9 : Addr}
theorem uFlags (h : H ea = some (excO ea C)) (fc : FlagC K c1 c2 c3 c4 c5 c6 c7 c8 c9 C j) (k : ∀ q H', H q = none → H' q = some (.lst (flagsV j)) → Same H H' → Q (.ref q) H') : spFlags K c1 c2 c3 c4 c5 c6 c7 c8 c9 ([.ref ea] ++ []) H Q E := ⟨ea, C, j, rfl, h, fc, k⟩
theorem uFarS (h0 : 0 ≤ k) (h1 : k ≤ 10000) (h : ∀ (z : Int) H', 0 ≤ z → Same H H' → Q (.int z) H') : spFarS ([.int c, .int k] ++ []) H Q E := ⟨c, k, rfl, h0, h1, h⟩
end
/-- a list of None and whole numbers, of at most so many -/
def OLn (n : Nat) (xs : List V) : Prop := ∃ qs : List (Option Int), xs = qs.map oJ ∧ qs.length ≤ n
abbrev OL (xs : List V) : Prop := OLn 200 xs
theorem OLn.mono {n m : Nat} {xs : List V} (h : OLn n xs) (hm : n ≤ m) : OLn m xs := by
  obtain ⟨qs, e, hl⟩ := h
  exact ⟨qs, e, by omega⟩
theorem OLn.nil : OLn 0 [] := ⟨[], rfl, by simp⟩
theorem OLn.one (o : Option Int) : OLn 1 [oJ o] := ⟨[o], rfl, by simp⟩
theorem OLn.rep (n : Nat) : OLn n (List.replicate n V.non) := ⟨List.replicate n none, by rw [List.map_replicate]; rfl, by simp⟩
theorem OLn.app {n m : Nat} {xs ys : List V} (h : OLn n xs) (h2 : OLn m ys) : OLn (n + m) (xs ++ ys) := by
  obtain ⟨qs, rfl, hl⟩ := h
  obtain ⟨rs, rfl, hr⟩ := h2
  exact ⟨qs ++ rs, by rw [List.map_append], by rw [List.length_append]; omega⟩
theorem OLn.tree (ps : List (Option Nat)) : OLn ps.length (ps.map oV) := ⟨emb ps, (map_emb ps).symm, by rw [emb_len]; exact Nat.le_refl _⟩
theorem OLn.cut {n : Nat} {xs : List V} (h : OLn n xs) (lo hi : Option Int) : OLn n (cutV xs lo hi) := by
  obtain ⟨qs, rfl, hl⟩ := h
  unfold cutV
  refine ⟨_, by rw [← List.map_drop, ← List.map_take], ?_⟩
  rw [List.length_take, List.length_drop]
  omega
theorem OLn.set {n : Nat} {xs : List V} (h : OLn n xs) (j : Nat) (o : Option Int) : OLn n (xs.set j (oJ o)) := by
  obtain ⟨qs, rfl, hl⟩ := h
  exact ⟨qs.set j o, by rw [List.map_set], by rw [List.length_set]; exact hl⟩
theorem OLn.mid {ps : List (Option Nat)} {b : Int} (h0 : 0 ≤ b) (h1 : b < ps.length) (o : Option Int) : OLn ps.length (cutV (ps.map oV) none (some b) ++ [oJ o] ++ cutV (ps.map oV) (some (b + 1)) none) := by
  rw [cut_to h0, cut_from (by omega), ← map_emb, ← List.map_take, ← List.map_drop]
  refine ⟨(emb ps).take b.toNat ++ [o] ++ (emb ps).drop (b + 1).toNat, by simp, ?_⟩
  simp only [List.length_append, List.length_take, List.length_drop, List.length_singleton, emb_len]
  omega
theorem mid_len {ps : List (Option Nat)} {b : Int} (h0 : 0 ≤ b) (h1 : b < ps.length) (v : V) : (cutV (ps.map oV) none (some b) ++ [v] ++ cutV (ps.map oV) (some (b + 1)) none).length = ps.length := by
  rw [cut_to h0, cut_from (by omega)]
  simp only [List.length_append, List.length_take, List.length_drop, List.length_singleton, List.length_map]
  omega
theorem rows_end2 {H0 H : Hp} {S : List Addr} {x : Addr} {c : List V} {t q : Addr × HO} {rs : List Addr} {css : List (List V)} (hl : rs.length = css.length) (L : Led H0 S H (t :: (x, .lst c) :: q :: rowsL rs css)) : Led H0 S H (t :: q :: rowsL (rs ++ [x]) (css ++ [c])) := by
  rw [rowsL_snoc hl]
  exact L.perm ((List.perm_append_singleton _ _).symm.cons _)
theorem rows_end0 {H0 H : Hp} {S : List Addr} {x : Addr} {c : List V} {t : Addr × HO} {rs : List Addr} {css : List (List V)} (hl : rs.length = css.length) (L : Led H0 S H (t :: (x, .lst c) :: rowsL rs css)) : Led H0 S H (t :: rowsL (rs ++ [x]) (css ++ [c])) := by
  rw [rowsL_snoc hl]
  exact L.perm ((List.perm_append_singleton _ _).symm.cons _)
theorem rows_end1 {H0 H : Hp} {S : List Addr} {x : Addr} {c : List V} {q q1 : Addr × HO} {rs : List Addr} {css : List (List V)} (hl : rs.length = css.length) (L : Led H0 S H ((x, .lst c) :: q :: q1 :: rowsL rs css)) : Led H0 S H (q :: q1 :: rowsL (rs ++ [x]) (css ++ [c])) := by
  rw [rowsL_snoc hl]
  exact L.perm (List.perm_append_singleton _ _).symm
theorem all_snoc {css : List (List V)} {c : List V} (h : ∀ x ∈ css, OL x) (hc : OL c) : ∀ x ∈ css ++ [c], OL x := fun x hx => by
  rcases List.mem_append.mp hx with hx | hx
  · exact h x hx
  · have : x = c := by simpa using hx
    rw [this]; exact hc
def spNoTreesS : Sp := fun vs H Q _ => ∃ (c k : Int) (a : Addr) (ps : List (Option Nat)) (ks : List Nat), vs = [.int c, .int k, .ref a] ∧ 0 ≤ k ∧ k ≤ 9000 ∧ H a = some (.lst (ps.map oV)) ∧ ps.length ≤ 199 ∧ IsTr ps ks ∧
  ∀ (rs : List Addr) (css : List (List V)) q H', rs.length = css.length → 0 < rs.length → rs.length ≤ 30 → (∀ c ∈ css, OL c) → (∀ (i : Nat) r c, rs[i]? = some r → css[i]? = some c → H' r = some (.lst c)) → H q = none → H' q = some (.lst (rs.map V.ref)) → Same H H' → Q (.ref q) H'
theorem uNoTreesS {H : Hp} {Q : VK} {E : XK} {a : Addr} {c k : Int} {ps : List (Option Nat)} {ks : List Nat} (hk0 : 0 ≤ k) (hk1 : k ≤ 9000) (h : H a = some (.lst (ps.map oV))) (hl : ps.length ≤ 199) (ht : IsTr ps ks)
  (q : ∀ (rs : List Addr) (css : List (List V)) q H', rs.length = css.length → 0 < rs.length → rs.length ≤ 30 → (∀ c ∈ css, OL c) → (∀ (i : Nat) r c, rs[i]? = some r → css[i]? = some c → H' r = some (.lst c)) → H q = none → H' q = some (.lst (rs.map V.ref)) → Same H H' → Q (.ref q) H') :
  spNoTreesS ([.int c, .int k, .ref a] ++ []) H Q E := ⟨c, k, a, ps, ks, rfl, hk0, hk1, h, hl, ht, q⟩
end Hb

set_option Elab.async false
set_option linter.all false
set_option maxRecDepth 100000
set_option maxHeartbeats 4000000

namespace Hb
open PySem L2
/-! ### which hues were met: dicts with the hues as keys -/
abbrev kT (k : Int) : Key × V := (Sum.inl k, V.bl true)
structure Kys (l ks : List Int) : Prop where
  nd : ks.Nodup
  mem : ∀ k, k ∈ ks ↔ k ∈ l
theorem Kys.nil : Kys [] [] := ⟨List.nodup_nil, fun k => by simp⟩
theorem Kys.congr {l l' ks : List Int} (h : Kys l ks) (p : l.Perm l') : Kys l' ks := ⟨h.nd, fun k => by rw [h.mem, p.mem_iff]⟩
theorem Kys.len {l ks : List Int} (h : Kys l ks) : ks.length = (riseOf l).length := ((List.perm_ext_iff_of_nodup h.nd (rise_nodup l)).mpr fun k => by rw [h.mem, mem_rise]).length_eq
theorem Kys.le {l ks : List Int} (h : Kys l ks) : ks.length ≤ l.length := by rw [h.len]; exact rise_le l
def rowsY (as : List Addr) (kss : List (List Int)) : List (Addr × HO) := as.zip (kss.map fun ks => HO.dK (ks.map kT))
/-- the hues met at each place, amid the way up of place i, A already told -/
def KysR (ps : List (Option Nat)) (hs : List Int) (i : Nat) (A : List Nat) (kss : List (List Int)) : Prop := kss.length = ps.length ∧ ∀ (x : Nat) ks, kss[x]? = some ks → Kys (huesAt hs (belRow ps i A x)) ks
theorem KysR.start {ps : List (Option Nat)} {hs : List Int} : KysR ps hs 0 [] (List.replicate ps.length []) := by
  refine ⟨List.length_replicate, fun x prs e => ?_⟩
  have h := (List.getElem?_eq_some_iff.mp e).2
  rw [List.getElem_replicate] at h
  subst h
  rw [belRow_nil]
  exact Kys.nil
theorem belRow_in {ps : List (Option Nat)} {i z : Nat} {A : List Nat} (hz : z ∉ A) : belRow ps i (A ++ [z]) z = belRow ps i A z ++ [i] := by
  unfold belRow
  rw [if_pos (by simp), if_neg hz, List.append_nil]
theorem belRow_out {ps : List (Option Nat)} {i z x : Nat} {A : List Nat} (c : z ≠ x) : belRow ps i (A ++ [z]) x = belRow ps i A x := by
  unfold belRow
  have : x ∈ A ++ [z] ↔ x ∈ A := by simp [Ne.symm c]
  simp only [this]
theorem KysR.put {ps : List (Option Nat)} {hs : List Int} {i z : Nat} {A : List Nat} {kss : List (List Int)} {ks' : List Int} (h : KysR ps hs i A kss) (hz : z ∉ A) (hc : Kys (huesAt hs (belRow ps i A z) ++ [hs.getD i 0]) ks') : KysR ps hs i (A ++ [z]) (kss.set z ks') := by
  refine ⟨by rw [List.length_set]; exact h.1, fun x prs e => ?_⟩
  by_cases c : z = x
  · subst c
    have hl := (List.getElem?_eq_some_iff.mp e).1
    rw [List.length_set] at hl
    rw [List.getElem?_set_self hl] at e
    cases e
    have : huesAt hs (belRow ps i (A ++ [z]) z) = huesAt hs (belRow ps i A z) ++ [hs.getD i 0] := by
      rw [belRow_in hz, huesAt, huesAt, List.map_append]
      rfl
    rw [this]
    exact hc
  · rw [List.getElem?_set_ne c] at e
    rw [belRow_out c]
    exact h.2 x prs e
theorem belRow_next {ps : List (Option Nat)} {ks : List Nat} {i x : Nat} {us : List Nat} (ht : IsTr ps ks) (hi : i < ps.length) (hu : UpL ps i us) (hx : x < ps.length) : belRow ps (i + 1) [] x = belRow ps i us x := by
  have := congrArg (fun l => l[x]?) (belRows_next ht hi hu)
  rw [belRows_at hx, belRows_at hx] at this
  have e3 := Option.some.inj this
  have inj : ∀ (a b : List Nat), natsV a = natsV b → a = b := fun a => by
    induction a with
    | nil => intro b e; cases b with | nil => rfl | cons _ _ => cases e
    | cons x a ih =>
      intro b e
      cases b with
      | nil => cases e
      | cons y b =>
        rw [natsV, natsV, List.map_cons, List.map_cons] at e
        injection e with e1 e2
        injection e1 with e1
        rw [ih b e2, show x = y by omega]
  exact inj _ _ e3
theorem KysR.next {ps : List (Option Nat)} {ks : List Nat} {hs : List Int} {i : Nat} {us : List Nat} {kss : List (List Int)} (ht : IsTr ps ks) (hi : i < ps.length) (hu : UpL ps i us) (h : KysR ps hs i us kss) : KysR ps hs (i + 1) [] kss := by
  refine ⟨h.1, fun x prs e => ?_⟩
  have hx : x < ps.length := by have := (List.getElem?_eq_some_iff.mp e).1; rw [h.1] at this; exact this
  rw [belRow_next ht hi hu hx]
  exact h.2 x prs e
/-- how many places each holds, amid the way up of place i -/
def manN (ps : List (Option Nat)) (i : Nat) (A : List Nat) : List Nat := (List.range ps.length).map fun x => (belRow ps i A x).length
/-! ### the least of some pairs -/
def LowG (g : Nat → Int × Int) (l : List Nat) : Option Nat → Prop
  | none => l = []
  | some x => x ∈ l ∧ ∀ y ∈ l, le2 (g x) (g y)
abbrev rkF (ps : List (Option Nat)) (y : Nat) : Int × Int := (((pre ps y).length : Int), (y : Int))
theorem LowG.det {ps : List (Option Nat)} {l : List Nat} {o o' : Option Nat} (h : LowG (rkF ps) l o) (h' : LowG (rkF ps) l o') : o = o' := by
  cases o with
  | none =>
    cases o' with
    | none => rfl
    | some y => have e : l = [] := h; rw [e] at h'; exact absurd h'.1 (by simp)
  | some x =>
    cases o' with
    | none => have e : l = [] := h'; rw [e] at h; exact absurd h.1 (by simp)
    | some y =>
      have h1 := h.2 y h'.1
      have h2 := h'.2 x h.1
      simp only [le2] at h1 h2
      have : x = y := by omega
      rw [this]
/-- places with so many, with so many or more -/
abbrev plW (ps : List (Option Nat)) (hs : List Int) (m : Int) (n : Nat) : List Nat := (List.range n).filter fun x => decide (((hbN ps hs x).length : Int) = m)
abbrev plG (ps : List (Option Nat)) (hs : List Int) (m : Int) (n : Nat) : List Nat := (List.range n).filter fun x => decide (m ≤ ((hbN ps hs x).length : Int))
/-! ### the promises -/
def spUnN : Sp := fun vs H Q _ => ∃ (a b : Addr) (ps : List (Option Nat)) (ks : List Nat) (hs : List Int) (m : Int), vs = [.ref a, .ref b, .int m] ∧ H a = some (.lst (ps.map oV)) ∧ H b = some (.lst (intsV hs)) ∧ ps.length ≤ 200 ∧ IsTr ps ks ∧ hs.length = ps.length ∧ 0 ≤ m ∧
  ∀ q H', H q = none → H' q = some (.lst (natsV ((List.range ps.length).map fun x => (hbN ps hs x).length))) → Same H H' → Q (.ref q) H'
def spPlW : Sp := fun vs H Q _ => ∃ (a b : Addr) (ps : List (Option Nat)) (ks : List Nat) (hs : List Int) (m : Int), vs = [.ref a, .ref b, .int m] ∧ H a = some (.lst (ps.map oV)) ∧ H b = some (.lst (intsV hs)) ∧ ps.length ≤ 200 ∧ IsTr ps ks ∧ hs.length = ps.length ∧ 0 ≤ m ∧
  ∀ q H', H q = none → H' q = some (.lst (natsV (plW ps hs m ps.length))) → Same H H' → Q (.ref q) H'
def spFew : Sp := fun vs H Q _ => ∃ (a b : Addr) (ps : List (Option Nat)) (ks : List Nat) (hs : List Int) (m : Int), vs = [.ref a, .ref b, .int m] ∧ H a = some (.lst (ps.map oV)) ∧ H b = some (.lst (intsV hs)) ∧ ps.length ≤ 200 ∧ IsTr ps ks ∧ hs.length = ps.length ∧ 0 ≤ m ∧
  (LowG (rkF ps) (plG ps hs m ps.length) none → ∀ H', Same H H' → Q .non H') ∧
  ∀ x t H', LowG (rkF ps) (plG ps hs m ps.length) (some x) → H t = none → H' t = some (.tup [.int (pre ps x).length, .int (x : Nat)]) → Same H H' → Q (.ref t) H'
def spNumJ (C D F : Addr) : Sp := fun vs H Q E => ∃ (a b : Addr) (qs : List (Option Int)) (hs : List Int) (m : Int), vs = [.ref a, .ref b, .int m] ∧ H a = some (.lst (qs.map oJ)) ∧ H b = some (.lst (intsV hs)) ∧ qs.length ≤ 250 ∧ hs.length ≤ 1000 ∧ (qs.length ≤ 200 ∨ ¬ IsT qs) ∧ ¬ (IsT qs ∧ hs.length = qs.length ∧ 0 ≤ m) ∧
  (IsT qs → hs.length = qs.length → m < 0 → ∀ H', Same H H' → E (.ref F) none H') ∧ (IsT qs → hs.length ≠ qs.length → ∀ H', Same H H' → E (.ref D) none H') ∧ (¬ IsT qs → ∀ H', Same H H' → E (.ref C) none H')
def spLowJ (C D : Addr) : Sp := fun vs H Q E => ∃ (a b c : Addr) (qs : List (Option Int)) (hs : List Int), vs = [.ref a, .ref b, .ref c] ∧ H a = some (.lst (qs.map oJ)) ∧ H b = some (.lst (intsV hs)) ∧ qs.length ≤ 250 ∧ hs.length ≤ 1000 ∧ ¬ (IsT qs ∧ hs.length = qs.length) ∧
  (IsT qs → hs.length ≠ qs.length → ∀ H', Same H H' → E (.ref D) none H') ∧ (¬ IsT qs → ∀ H', Same H H' → E (.ref C) none H')
def spHeld : Sp := fun vs H Q _ => ∃ (a b : Addr) (ps : List (Option Nat)) (ks : List Nat) (hs : List Int), vs = [.ref a, .ref b] ∧ H a = some (.lst (ps.map oV)) ∧ H b = some (.lst (intsV hs)) ∧ ps.length ≤ 200 ∧ IsTr ps ks ∧ hs.length = ps.length ∧
  ∀ (as : List Addr) q H', as.length = ps.length → (∀ (x : Nat) t, as[x]? = some t → H' t = some (.tup [.int (hbN ps hs x).length, .int (pre ps x).length])) → H q = none → H' q = some (.lst (as.map V.ref)) → Same H H' → Q (.ref q) H'
/-- what a door tells -/
def RefD (qs : List (Option Int)) (hs : List Int) (d m : Int) (j : Nat) : Prop := (¬ IsT qs ∧ j = 1) ∨ (IsT qs ∧ hs.length ≠ qs.length ∧ j = 2) ∨ (IsT qs ∧ hs.length = qs.length ∧ d ≠ 0 ∧ m < 0 ∧ j = 5) ∨ (IsT qs ∧ hs.length = qs.length ∧ (d = 0 ∨ 0 ≤ m) ∧ j = 0)
def outV (j : Nat) : List V := if j = 0 then [] else flagsV j
def spRefN : Sp := fun vs H Q _ => ∃ (a b : Addr) (qs : List (Option Int)) (hs : List Int) (d m : Int), vs = [.int d, .ref a, .ref b, .int m] ∧ H a = some (.lst (qs.map oJ)) ∧ H b = some (.lst (intsV hs)) ∧ qs.length ≤ 200 ∧ hs.length ≤ 1000 ∧
  ∀ j q H', RefD qs hs d m j → H q = none → H' q = some (.lst (outV j)) → Same H H' → Q (.ref q) H'
def spRight : Sp := fun vs H Q _ => ∃ (c : Int) (a b : Addr) (ps : List (Option Nat)) (ks : List Nat) (hs : List Int), vs = [.int c, .ref a, .ref b] ∧ H a = some (.lst (ps.map oV)) ∧ H b = some (.lst (intsV hs)) ∧ ps.length ≤ 199 ∧ IsTr ps ks ∧ hs.length = ps.length ∧ ∀ H', Same H H' → Q (.bl true) H'
section
variable {H : Hp} {Q : VK} {E : XK} {a b c : Addr} {ps : List (Option Nat)} {ks : List Nat} {hs : List Int} {m d cl : Int} {qs : List (Option Int)} {C D F : Addr}
end
end Hb

set_option Elab.async false
set_option linter.all false
set_option maxRecDepth 100000
set_option maxHeartbeats 4000000

namespace Hb
open PySem L2
theorem uIsTreeB {H : Hp} {Q : VK} {E : XK} {a : Addr} {qs : List (Option Int)} (h : H a = some (.lst (qs.map oJ))) (hl : qs.length ≤ 250) (k : ∀ (g : Bool) H', (g = true ↔ IsT qs) → Same H H' → Q (.bl g) H') : spIsTreeJ ([.ref a] ++ []) H Q E :=
  ⟨a, qs, rfl, h, hl, fun hT H' s => k true H' (by simp [hT]) s, fun hT H' s => k false H' (by simp [hT]) s⟩
theorem RefD.det {qs : List (Option Int)} {hs : List Int} {d m : Int} {j j' : Nat} (h : RefD qs hs d m j) (h' : RefD qs hs d m j') : j = j' := by
  by_cases hT : IsT qs
  · simp only [RefD, hT, not_true_eq_false, false_and, true_and, false_or] at h h'
    omega
  · simp only [RefD, hT, not_false_eq_true, false_and, true_and, or_false] at h h'
    omega
/-- two lists in a tuple: a list that may be a tree, and hues -/
def TuA (H : Hp) (t : Addr) : Prop := ∃ (a b : Addr) (qs : List (Option Int)) (hs : List Int), H t = some (.tup [.ref a, .ref b]) ∧ H a = some (.lst (qs.map oJ)) ∧ H b = some (.lst (intsV hs)) ∧ qs.length ≤ 200 ∧ hs.length ≤ 1000
theorem flags_due {e n : Int} {j : Nat} (h : e = (j : Int) - 1) (hj : j = 0 ∨ j = 1 ∨ j = 2 ∨ j = 5) (hn : n = 10 * (if decide (0 ≤ e) = true then 1 else 0)) : ((List.range n.toNat).map fun (k : Nat) => V.bl (decide ((k : Int) = e))) = outV j := by
  rcases hj with rfl | rfl | rfl | rfl <;> subst h <;> subst hn <;> rfl
theorem flat_out (j : Nat) : (outV j).all flatOk = true := by
  unfold outV
  split <;> rfl
theorem Led.oldE {H0 H : Hp} {l : List (Addr × HO)} {a : Addr} {o : HO} (L : Led H0 [] H l) (h : H0 a = some o) : H a = some o := L.same _ _ h
end Hb

set_option Elab.async false
set_option linter.all false
set_option maxRecDepth 100000
set_option maxHeartbeats 4000000

namespace Hb
open PySem L2
/-! ### own parts: ways from the first place of a hue; ends taken off -/
section
variable {ps : List (Option Nat)} {ks : List Nat} {x y z u p q : Nat} {l L1 L2 : List Nat}
/-- one beside the other -/
def Edge (ps : List (Option Nat)) (p q : Nat) : Prop := ps[p]? = some (some q) ∨ ps[q]? = some (some p)
theorem WayL.first (h : WayL ps x y l) : l[0]? = some x := by
  obtain ⟨A, B, z, C, u1, u2, n1, n2, rfl⟩ := h
  obtain ⟨t, e⟩ := u1.hd
  cases A with
  | nil => cases e; rfl
  | cons a A => cases e; rfl
theorem WayL.final (h : WayL ps x y l) : l.getLast? = some y := by
  have h2 := (way_rev h).first
  rw [← List.head?_reverse, List.head?_eq_getElem?]
  exact h2
theorem WayL.pre (h : WayL ps x y (L1 ++ u :: L2)) : WayL ps x u (L1 ++ [u]) := by
  obtain ⟨A, B, z, C, u1, u2, n1, n2, e⟩ := h
  rcases List.append_eq_append_iff.mp e with ⟨a', e1, e2⟩ | ⟨c', e1, e2⟩
  · -- A = L1 ++ a'
    cases a' with
    | nil =>
      rw [List.nil_append] at e2
      injection e2 with e3 e4
      subst e3
      rw [List.append_nil] at e1
      subst e1
      exact ⟨_, [], u, C, u1, u2.suf, fun a ha hm => n1 a ha (List.mem_append_right _ hm), by simp, rfl⟩
    | cons b a' =>
      injection e2 with e3 e4
      subst e3
      subst e1
      refine ⟨L1, [], u, a' ++ z :: C, by simpa using u1, ?_, fun c hc hm => ?_, by simp, rfl⟩
      · rw [List.append_assoc, List.cons_append] at u1
        exact u1.suf
      · have nd := u1.nodup
        rw [List.append_assoc, List.nodup_append] at nd
        exact nd.2.2 c hc c (by simpa using hm) rfl
  · -- L1 = A ++ c'
    cases c' with
    | nil =>
      rw [List.nil_append] at e2
      injection e2 with e3 e4
      subst e3
      rw [List.append_nil] at e1
      subst e1
      exact ⟨_, [], z, C, u1, u2.suf, fun a ha hm => n1 a ha (List.mem_append_right _ hm), by simp, rfl⟩
    | cons b c' =>
      injection e2 with e3 e4
      subst e3
      subst e1
      have eB : B = L2.reverse ++ u :: c'.reverse := by
        have := congrArg List.reverse e4
        rw [List.reverse_reverse] at this
        rw [this]
        simp
      subst eB
      refine ⟨A, u :: c'.reverse, z, C, u1, ?_, fun a ha hm => n1 a ha ?_, fun b hb => n2 b ?_, by simp⟩
      · rw [List.append_assoc] at u2
        exact u2.suf
      · rw [List.append_assoc]
        exact List.mem_append_right _ hm
      · exact List.mem_append_right _ hb
theorem UpL.next {us : List Nat} (h : UpL ps p us) (e : ps[p]? = some (some q)) : ∃ t, us = p :: q :: t ∧ UpL ps q (q :: t) := by
  cases h with
  | root e3 => rw [e] at e3; cases e3
  | step e3 u3 =>
    rw [e] at e3
    cases e3
    obtain ⟨t, e4⟩ := u3.hd
    subst e4
    exact ⟨t, rfl, u3⟩
theorem WayL.ext (h : WayL ps x p l) (he : Edge ps p q) (hq : q ∉ l) : WayL ps x q (l ++ [q]) := by
  obtain ⟨A, B, z, C, u1, u2, n1, n2, rfl⟩ := h
  simp only [List.mem_append, List.mem_cons, List.mem_reverse, not_or] at hq
  obtain ⟨qA, qz, qB⟩ := hq
  rcases he with he | he
  · -- the parent
    obtain ⟨t, e, u3⟩ := u2.next he
    cases B with
    | cons b B =>
      exfalso
      injection e with e1 e2
      cases B with
      | nil => injection e2 with e5 _; exact qz e5.symm
      | cons c B => injection e2 with e5 _; exact qB (by rw [e5]; simp)
    | nil =>
      injection e with e1 e2
      subst e1
      subst e2
      refine ⟨A ++ [z], [], q, t, by simpa using u1, u3, fun a ha hm => ?_, by simp, by simp⟩
      have nd := u1.nodup
      rw [show A ++ z :: q :: t = (A ++ [z]) ++ q :: t by simp, List.nodup_append] at nd
      exact nd.2.2 a ha a (by simpa using hm) rfl
  · -- a child
    have u3 : UpL ps q (q :: B ++ z :: C) := .step he u2
    have nd := u3.nodup
    rw [List.cons_append, List.nodup_cons] at nd
    refine ⟨A, q :: B, z, C, u1, u3, fun a ha hm => ?_, fun b hb hm => ?_, by simp⟩
    · rcases List.mem_cons.mp hm with e | hm
      · exact qA (by rw [← e]; exact ha)
      · exact n1 a ha hm
    · rcases List.mem_cons.mp hb with rfl | hb
      · rcases List.mem_append.mp hm with hm | hm
        · exact qA hm
        · exact nd.1 (List.mem_append_right _ hm)
      · exact n2 b hb hm
/-- a neighbour of the end that stands on the way is the last but one -/
theorem WayL.back (h : WayL ps x p l) (he : Edge ps p q) (hq : q ∈ l) (hne : q ≠ p) : ∃ l1, l = l1 ++ [q, p] := by
  obtain ⟨L1, L2, rfl⟩ := List.append_of_mem hq
  have h1 := h.pre
  have nd := way_nodup h
  have hp : p ∉ L1 ++ [q] := by
    have hl := h.final
    intro hm
    rcases List.eq_nil_or_concat L2 with rfl | ⟨L3, w, rfl⟩
    · rw [List.getLast?_append, List.getLast?_singleton] at hl
      exact hne (Option.some.inj (by simpa using hl))
    · rw [List.concat_eq_append] at hl nd
      have e : w = p := by
        rw [show L1 ++ q :: (L3 ++ [w]) = (L1 ++ q :: L3) ++ [w] by simp, List.getLast?_append] at hl
        simpa using hl
      subst e
      rw [show L1 ++ q :: (L3 ++ [w]) = (L1 ++ [q]) ++ (L3 ++ [w]) by simp, List.nodup_append] at nd
      exact nd.2.2 w hm w (by simp) rfl
  have h2 := h1.ext (q := p) (he.symm) hp
  exact ⟨L1, by rw [h.det h2]; simp⟩
/-! #### the part -/
/-- the places of the ways from s0 to the places of S -/
def OwnU (ps : List (Option Nat)) (S : Nat → Prop) (s0 p : Nat) : Prop := ∃ s l, S s ∧ WayL ps s0 s l ∧ p ∈ l
/-- nothing can be taken off -/
def Stab (ps : List (Option Nat)) (S : Nat → Prop) (L : List Nat) : Prop := ∀ p ∈ L, ¬ S p → ∃ q1 q2, q1 ≠ q2 ∧ q1 ∈ L ∧ q2 ∈ L ∧ Edge ps p q1 ∧ Edge ps p q2
theorem OwnU.two {S : Nat → Prop} {s0 : Nat} (h0 : S s0) (h : OwnU ps S s0 p) (hp : ¬ S p) : ∃ q1 q2, q1 ≠ q2 ∧ OwnU ps S s0 q1 ∧ OwnU ps S s0 q2 ∧ Edge ps p q1 ∧ Edge ps p q2 := by
  obtain ⟨s, l, hs, hw, hm⟩ := h
  obtain ⟨k, hk, e⟩ := List.mem_iff_getElem.mp hm
  have e1 : l[k]? = some p := by rw [List.getElem?_eq_getElem hk, e]
  have hk0 : k ≠ 0 := fun z => by
    subst z
    rw [hw.first] at e1
    cases e1
    exact hp h0
  have hk1 : k + 1 < l.length := by
    by_cases z : k + 1 < l.length
    · exact z
    · exfalso
      have hf := hw.final
      rw [List.getLast?_eq_getElem?, show l.length - 1 = k by omega, e1] at hf
      cases hf
      exact hp hs
  have e0 : l[k - 1]? = some l[k - 1] := List.getElem?_eq_getElem (by omega)
  have e2 : l[k + 1]? = some l[k + 1] := List.getElem?_eq_getElem hk1
  refine ⟨l[k - 1], l[k + 1], fun z => ?_, ⟨s, l, hs, hw, List.getElem_mem _⟩, ⟨s, l, hs, hw, List.getElem_mem _⟩, ?_, way_edge hw e1 e2⟩
  · have := (List.getElem_inj (way_nodup hw)).mp z
    omega
  · exact (way_edge hw e0 (by rw [show k - 1 + 1 = k by omega]; exact e1)).symm
theorem Stab.own {S : Nat → Prop} {s0 : Nat} {L : List Nat} (ht : IsTr ps ks) (h0 : S s0) (hS : ∀ s, S s → s < ps.length) (hL : ∀ p ∈ L, p < ps.length) (hst : Stab ps S L) : ∀ p ∈ L, OwnU ps S s0 p := by
  -- by how far it is from the end
  have key : ∀ (n : Nat) (p : Nat) (l : List Nat), p ∈ L → WayL ps s0 p l → ps.length + 1 - l.length ≤ n → OwnU ps S s0 p := by
    intro n
    induction n with
    | zero =>
      intro p l hp hw hn
      exfalso
      have h1 : l.Nodup := way_nodup hw
      have h2 : ∀ x ∈ l, x < ps.length := by
        obtain ⟨A, B, z, C, u1, u2, _, _, rfl⟩ := hw
        intro x hx
        simp only [List.mem_append, List.mem_cons, List.mem_reverse] at hx
        rcases hx with hx | rfl | hx
        · exact u1.lt x (by simp [hx])
        · exact u1.lt x (by simp)
        · exact u2.lt x (by simp [hx])
      have h3 := List.Nodup.length_le_of_subset h1 (fun x hx => List.mem_range.mpr (h2 x hx))
      rw [List.length_range] at h3
      omega
    | succ n ih =>
      intro p l hp hw hn
      by_cases hs : S p
      · refine ⟨p, l, hs, hw, ?_⟩
        have := hw.final
        exact List.mem_of_getLast? this
      · obtain ⟨q1, q2, hne, h1, h2, g1, g2⟩ := hst p hp hs
        -- one of them does not stand on the way
        obtain ⟨q, hq, hqL, hqE⟩ : ∃ q, q ∉ l ∧ q ∈ L ∧ Edge ps p q := by
          by_cases c1 : q1 ∈ l
          · by_cases c2 : q2 ∈ l
            · exfalso
              have ne : ∀ q, Edge ps p q → q ≠ p := fun q e z => by
                subst z
                have hq : q < ps.length := hL _ hp
                obtain ⟨us, hu, _⟩ := ht.upl hq
                obtain ⟨t, e2, u3⟩ := hu.next (e.elim id id)
                have nd := hu.nodup
                rw [e2] at nd
                simp at nd
              obtain ⟨l1, e1⟩ := hw.back g1 c1 (ne _ g1)
              obtain ⟨l2, e2⟩ := hw.back g2 c2 (ne _ g2)
              rw [e1] at e2
              have e3 : l1 ++ [q1] ++ [p] = l2 ++ [q2] ++ [p] := by simpa using e2
              have e4 := List.append_cancel_right e3
              have e5 := congrArg List.getLast? e4
              simp at e5
              exact hne e5
            · exact ⟨q2, c2, h2, g2⟩
          · exact ⟨q1, c1, h1, g1⟩
        have hw2 := hw.ext hqE hq
        obtain ⟨s, l', hs', hw', hm'⟩ := ih q _ hqL hw2 (by rw [List.length_append, List.length_singleton]; omega)
        obtain ⟨M1, M2, rfl⟩ := List.append_of_mem hm'
        have e := hw2.det hw'.pre
        have e2 := List.append_cancel_right e
        refine ⟨s, _, hs', hw', ?_⟩
        rw [← e2]
        exact List.mem_append_left _ (List.mem_of_getLast? hw.final)
  intro p hp
  obtain ⟨l, hw⟩ := way_ex ht (hS s0 h0) (hL p hp)
  exact key _ p l hp hw (Nat.le_refl _)
end
end Hb

set_option Elab.async false
set_option linter.all false
set_option maxRecDepth 100000
set_option maxHeartbeats 4000000

namespace Hb
open PySem L2
/-! ### own parts, told -/
abbrev havN (hs : List Int) (h : Int) (i : Nat) : List Nat := (List.range i).filter fun x => decide (hs.getD x 0 = h)
abbrev HasH (hs : List Int) (h : Int) : Nat → Prop := fun s => s ∈ havN hs h hs.length
def OwnIn (ps : List (Option Nat)) (hs : List Int) (h : Int) (p : Nat) : Prop := ∃ s0, (havN hs h hs.length)[0]? = some s0 ∧ OwnU ps (HasH hs h) s0 p
open Classical in
noncomputable def ownP (ps : List (Option Nat)) (hs : List Int) (h : Int) : List Nat := (List.range ps.length).filter fun p => decide (OwnIn ps hs h p)
section
variable {ps : List (Option Nat)} {ks : List Nat} {hs : List Int} {h : Int} {p s s0 i : Nat} {A hv l : List Nat} {F ms : List Int}
theorem mem_hav {x : Nat} : x ∈ havN hs h i ↔ x < i ∧ hs.getD x 0 = h := by rw [List.mem_filter, List.mem_range, decide_eq_true_eq]
open Classical in
theorem mem_ownP : p ∈ ownP ps hs h ↔ p < ps.length ∧ ∃ s0, (havN hs h hs.length)[0]? = some s0 ∧ OwnU ps (HasH hs h) s0 p := by
  unfold ownP
  rw [List.mem_filter, List.mem_range, decide_eq_true_eq]
  exact Iff.rfl
theorem ownP_rise : (ownP ps hs h).Pairwise (· < ·) := List.pairwise_lt_range.sublist List.filter_sublist
theorem way_all_lt {x y : Nat} (hw : WayL ps x y l) : ∀ z ∈ l, z < ps.length := by
  obtain ⟨A, B, z, C, u1, u2, _, _, rfl⟩ := hw
  intro x hx
  simp only [List.mem_append, List.mem_cons, List.mem_reverse] at hx
  rcases hx with hx | rfl | hx
  · exact u1.lt x (by simp [hx])
  · exact u1.lt x (by simp)
  · exact u2.lt x (by simp [hx])
theorem OwnU.lt {S : Nat → Prop} (u : OwnU ps S s0 p) : p < ps.length := by
  obtain ⟨s, l, _, hw, hm⟩ := u
  exact way_all_lt hw p hm
/-- the places of a hue are of its part -/
theorem own_has (ht : IsTr ps ks) (hh : hs.length = ps.length) (hp : p < ps.length) (e : hs.getD p 0 = h) : p ∈ ownP ps hs h := by
  have hm : p ∈ havN hs h hs.length := mem_hav.mpr ⟨by omega, e⟩
  obtain ⟨s0, h0⟩ : ∃ s0, (havN hs h hs.length)[0]? = some s0 := ⟨_, List.getElem?_eq_getElem (List.length_pos_of_mem hm)⟩
  have hs0 := mem_hav.mp (List.mem_of_getElem? h0)
  obtain ⟨l, hw⟩ := way_ex ht (show s0 < ps.length by omega) hp
  exact mem_ownP.mpr ⟨hp, s0, h0, p, l, hm, hw, List.mem_of_getLast? hw.final⟩
/-- while the set is made: the ways to the first i places of the hue, and A -/
structure OwF (ps : List (Option Nat)) (hv : List Nat) (s0 i : Nat) (A : List Nat) (F : List Int) : Prop where
  nd : F.Nodup
  mem : ∀ k : Int, k ∈ F ↔ ∃ p : Nat, k = (p : Nat) ∧ ((∃ j s l, j < i ∧ hv[j]? = some s ∧ WayL ps s0 s l ∧ p ∈ l) ∨ p ∈ A)
theorem OwF.start : OwF ps hv s0 0 [] [] := ⟨List.nodup_nil, fun k => by
  constructor
  · intro z; cases z
  · rintro ⟨p, _, ⟨j, s, l, hj, _⟩ | z⟩
    · omega
    · cases z⟩
theorem OwF.len (o : OwF ps hv s0 i A F) (hA : ∀ a ∈ A, a < ps.length) : F.length ≤ ps.length := by
  have h1 : ∀ k ∈ F, k ∈ (List.range ps.length).map fun (n : Nat) => (n : Int) := fun k hk => by
    obtain ⟨p, rfl, hp⟩ := (o.mem k).mp hk
    refine List.mem_map.mpr ⟨p, List.mem_range.mpr ?_, rfl⟩
    rcases hp with ⟨j, s, l, _, _, hw, hm⟩ | hm
    · exact way_all_lt hw p hm
    · exact hA p hm
  have := List.Nodup.length_le_of_subset o.nd h1
  rwa [List.length_map, List.length_range] at this
theorem OwF.next (o : OwF ps hv s0 i l F) (hi : hv[i]? = some s) (hw : WayL ps s0 s l) : OwF ps hv s0 (i + 1) [] F := ⟨o.nd, fun k => by
  rw [o.mem k]
  constructor
  · rintro ⟨p, rfl, ⟨j, s', l', hj, e⟩ | z⟩
    · exact ⟨p, rfl, .inl ⟨j, s', l', by omega, e⟩⟩
    · exact ⟨p, rfl, .inl ⟨i, s, l, by omega, hi, hw, z⟩⟩
  · rintro ⟨p, rfl, ⟨j, s', l', hj, e, hw', hm⟩ | z⟩
    · by_cases c : j = i
      · subst c
        rw [hi] at e
        cases e
        rw [hw.det hw']
        exact ⟨p, rfl, .inr hm⟩
      · exact ⟨p, rfl, .inl ⟨j, s', l', by omega, e, hw', hm⟩⟩
    · cases z⟩
theorem OwF.fin (o : OwF ps (havN hs h hs.length) s0 (havN hs h hs.length).length [] F) (h0 : (havN hs h hs.length)[0]? = some s0) (hr : ms.Pairwise (· < ·)) (hm : ∀ k, k ∈ ms ↔ k ∈ F) : ms = (ownP ps hs h).map fun (n : Nat) => (n : Int) := by
  refine rise_uniq hr ?_ fun k => ?_
  · exact List.pairwise_map.mpr (ownP_rise.imp fun h => by omega)
  · rw [hm, o.mem, List.mem_map]
    constructor
    · rintro ⟨p, rfl, ⟨j, s, l, _, e, hw, hp⟩ | z⟩
      · exact ⟨p, mem_ownP.mpr ⟨way_all_lt hw p hp, s0, h0, s, l, List.mem_of_getElem? e, hw, hp⟩, rfl⟩
      · cases z
    · rintro ⟨p, hp, rfl⟩
      obtain ⟨_, s0', h0', s, l, hs, hw, hp⟩ := mem_ownP.mp hp
      rw [h0] at h0'
      cases h0'
      obtain ⟨j, hj, e⟩ := List.mem_iff_getElem.mp hs
      exact ⟨p, rfl, .inl ⟨j, s, l, hj, by rw [List.getElem?_eq_getElem hj, e], hw, hp⟩⟩
/-- the least place of those nearest to the root -/
def TopP (ps : List (Option Nat)) (l : List Nat) (t : Nat) : Prop := t ∈ l ∧ ∀ y ∈ l, le2 ((dpN ps t : Int), (t : Int)) ((dpN ps y : Int), (y : Int))
def DeepP (ps : List (Option Nat)) (l : List Nat) (d : Nat) : Prop := (∃ y ∈ l, dpN ps y = d) ∧ ∀ y ∈ l, dpN ps y ≤ d
theorem TopP.det {t t' : Nat} (h : TopP ps l t) (h' : TopP ps l t') : t = t' := by
  have h1 := h.2 t' h'.1
  have h2 := h'.2 t h.1
  simp only [le2] at h1 h2
  omega
theorem DeepP.det {d d' : Nat} (h : DeepP ps l d) (h' : DeepP ps l d') : d = d' := by
  obtain ⟨⟨y, hy, e⟩, m⟩ := h
  obtain ⟨⟨y', hy', e'⟩, m'⟩ := h'
  have := m y' hy'
  have := m' y hy
  omega
end
def spOwnPl : Sp := fun vs H Q _ => ∃ (a b : Addr) (ps : List (Option Nat)) (ks : List Nat) (hs : List Int) (h : Int), vs = [.ref a, .ref b, .int h] ∧ H a = some (.lst (ps.map oV)) ∧ H b = some (.lst (intsV hs)) ∧ ps.length ≤ 200 ∧ IsTr ps ks ∧ hs.length = ps.length ∧
  ∀ q H', H q = none → H' q = some (.lst (natsV (ownP ps hs h))) → Same H H' → Q (.ref q) H'
def spOwnH : Sp := fun vs H Q _ => ∃ (a b : Addr) (ps : List (Option Nat)) (ks : List Nat) (hs : List Int) (h : Int), vs = [.ref a, .ref b, .int h] ∧ H a = some (.lst (ps.map oV)) ∧ H b = some (.lst (intsV hs)) ∧ ps.length ≤ 200 ∧ IsTr ps ks ∧ hs.length = ps.length ∧
  (ownP ps hs h = [] → ∀ H', Same H H' → Q .non H') ∧ ∀ t d q H', TopP ps (ownP ps hs h) t → DeepP ps (ownP ps hs h) d → H q = none → H' q = some (.tup [.int (t : Nat), .int ((d : Int) - (dpN ps t : Int))]) → Same H H' → Q (.ref q) H'
/-- the law's own: the part handed in -/
def spLHeight : Sp := fun vs H Q _ => ∃ (a b : Addr) (ps : List (Option Nat)) (ks : List Nat) (l : List Nat), vs = [.ref a, .ref b] ∧ H a = some (.lst (ps.map oV)) ∧ H b = some (.lst (natsV l)) ∧ ps.length ≤ 200 ∧ IsTr ps ks ∧ l.length ≤ 200 ∧ (∀ x ∈ l, x < ps.length) ∧ l.Pairwise (· < ·) ∧
  (l = [] → ∀ H', Same H H' → Q .non H') ∧ ∀ t d q H', TopP ps l t → DeepP ps l d → H q = none → H' q = some (.tup [.int (t : Nat), .int ((d : Int) - (dpN ps t : Int))]) → Same H H' → Q (.ref q) H'
section
variable {H : Hp} {Q : VK} {E : XK} {a b : Addr} {ps : List (Option Nat)} {ks l : List Nat} {hs : List Int} {h : Int}
end
end Hb

set_option Elab.async false
set_option linter.all false
set_option maxRecDepth 100000
set_option maxHeartbeats 4000000

namespace Hb
open PySem L2
/-! ### what stands beside a place -/
def parL (ps : List (Option Nat)) (x : Nat) : List Nat := match ps[x]? with
  | some (some y) => [y]
  | _ => []
/-- row x while the first i places are looked at -/
def nbTo (ps : List (Option Nat)) (x : Nat) : Nat → List Nat
  | 0 => []
  | i + 1 => nbTo ps x i ++ (if x = i then parL ps i else []) ++ (if i ∈ kidsTo ps (i + 1) x then [i] else [])
theorem mem_kidsTo {ps : List (Option Nat)} {i x y : Nat} : y ∈ kidsTo ps i x ↔ y < i ∧ ps[y]? = some (some x) := by
  unfold kidsTo
  rw [List.mem_filter, List.mem_range, decide_eq_true_eq]
theorem nb_perm {ps : List (Option Nat)} {x : Nat} : ∀ i, (nbTo ps x i).Perm ((if x < i then parL ps x else []) ++ kidsTo ps i x)
  | 0 => by
    rw [if_neg (by omega)]
    exact .refl _
  | i + 1 => by
    have ih := nb_perm (ps := ps) (x := x) i
    show ((nbTo ps x i ++ (if x = i then parL ps i else [])) ++ (if i ∈ kidsTo ps (i + 1) x then [i] else [])).Perm _
    rw [kidsTo_succ]
    have e1 : (i ∈ kidsTo ps i x ++ (if ps[i]? = some (some x) then [i] else [])) ↔ ps[i]? = some (some x) := by
      rw [List.mem_append]
      constructor
      · rintro (h | h)
        · have := (mem_kidsTo.mp h).1
          omega
        · split at h
          · assumption
          · cases h
      · intro h
        right
        rw [if_pos h]
        simp
    have e2 : (if i ∈ kidsTo ps i x ++ (if ps[i]? = some (some x) then [i] else []) then [i] else []) = if ps[i]? = some (some x) then [i] else [] := by
      by_cases h : ps[i]? = some (some x)
      · rw [if_pos (e1.mpr h), if_pos h]
      · rw [if_neg (fun z => h (e1.mp z)), if_neg h]
    rw [e2]
    by_cases hx : x = i
    · subst hx
      rw [if_neg (Nat.lt_irrefl x), List.nil_append] at ih
      rw [if_pos (rfl : x = x), if_pos (show x < x + 1 by omega), ← List.append_assoc]
      exact ((ih.append_right _).trans List.perm_append_comm).append_right _
    · rw [if_neg hx, List.append_nil]
      by_cases hl : x < i
      · rw [if_pos hl] at ih
        rw [if_pos (show x < i + 1 by omega), ← List.append_assoc]
        exact ih.append_right _
      · rw [if_neg hl, List.nil_append] at ih
        rw [if_neg (show ¬ x < i + 1 by omega), List.nil_append]
        exact ih.append_right _
theorem mem_nb {ps : List (Option Nat)} {x q : Nat} (hx : x < ps.length) : q ∈ nbTo ps x ps.length ↔ Edge ps x q := by
  rw [(nb_perm ps.length).mem_iff, if_pos hx, List.mem_append, mem_kidsTo]
  unfold Edge parL
  constructor
  · rintro (h | ⟨_, h⟩)
    · split at h
      · rename_i y e
        have : q = y := by simpa using h
        rw [this]
        exact .inl e
      · cases h
    · exact .inr h
  · rintro (h | h)
    · left
      rw [h]
      simp
    · exact .inr ⟨(List.getElem?_eq_some_iff.mp h).1, h⟩
theorem nb_nodup {ps : List (Option Nat)} {ks : List Nat} {x : Nat} (ht : IsTr ps ks) (hx : x < ps.length) : (nbTo ps x ps.length).Nodup := by
  rw [(nb_perm ps.length).nodup_iff, if_pos hx, List.nodup_append]
  refine ⟨?_, List.nodup_range.filter _, fun a ha b hb e => ?_⟩
  · unfold parL
    split <;> simp
  · subst e
    have hb := (mem_kidsTo.mp hb).2
    have ha : ps[x]? = some (some a) := by
      unfold parL at ha
      split at ha
      · rename_i y e
        have : a = y := by simpa using ha
        rw [this]
        exact e
      · cases ha
    obtain ⟨us, hu, _⟩ := ht.upl hx
    obtain ⟨t, e1, u2⟩ := hu.next ha
    obtain ⟨t2, e2, _⟩ := u2.next hb
    have nd := hu.nodup
    rw [e1] at nd
    injection e2 with _ e3
    rw [e3] at nd
    simp at nd
/-- how many beside x are left -/
abbrev nbIn (ps : List (Option Nat)) (L : List Nat) (x : Nat) : List Nat := (nbTo ps x ps.length).filter fun q => decide (q ∈ L)
theorem two_of {ps : List (Option Nat)} {ks : List Nat} {L : List Nat} {x : Nat} (ht : IsTr ps ks) (hx : x < ps.length) (h : ¬ (nbIn ps L x).length < 2) : ∃ q1 q2, q1 ≠ q2 ∧ q1 ∈ L ∧ q2 ∈ L ∧ Edge ps x q1 ∧ Edge ps x q2 := by
  have nd : (nbIn ps L x).Nodup := (nb_nodup ht hx).filter _
  match e : nbIn ps L x with
  | [] => rw [e] at h; simp at h
  | [_] => rw [e] at h; simp at h
  | q1 :: q2 :: r =>
    rw [e] at nd
    have m1 : q1 ∈ nbIn ps L x := by rw [e]; simp
    have m2 : q2 ∈ nbIn ps L x := by rw [e]; simp
    rw [List.mem_filter, decide_eq_true_eq, mem_nb hx] at m1 m2
    exact ⟨q1, q2, by simp at nd; exact nd.1.1, m1.2, m2.2, m1.1, m2.1⟩
theorem two_len {ps : List (Option Nat)} {L : List Nat} {x q1 q2 : Nat} (hx : x < ps.length) (hne : q1 ≠ q2) (h1 : q1 ∈ L) (h2 : q2 ∈ L) (e1 : Edge ps x q1) (e2 : Edge ps x q2) : ¬ (nbIn ps L x).length < 2 := by
  have m1 : q1 ∈ nbIn ps L x := by rw [List.mem_filter, decide_eq_true_eq, mem_nb hx]; exact ⟨e1, h1⟩
  have m2 : q2 ∈ nbIn ps L x := by rw [List.mem_filter, decide_eq_true_eq, mem_nb hx]; exact ⟨e2, h2⟩
  have h := List.Nodup.length_le_of_subset (l₁ := [q1, q2]) (l₂ := nbIn ps L x) (by simp [hne]) (by
    intro q hq
    simp only [List.mem_cons, List.not_mem_nil, or_false] at hq
    rcases hq with rfl | rfl
    · exact m1
    · exact m2)
  simp only [List.length_cons, List.length_nil] at h
  omega
/-- the ends of what is left -/
abbrev endsL (ps : List (Option Nat)) (hs : List Int) (h : Int) (L : List Nat) (l : List Nat) : List Nat := l.filter fun x => decide (hs.getD x 0 ≠ h ∧ (nbIn ps L x).length < 2)
/-- while ends are taken off -/
structure PeelR (ps : List (Option Nat)) (hs : List Int) (h : Int) (L : List Nat) : Prop where
  rise : L.Pairwise (· < ·)
  lt : ∀ p ∈ L, p < ps.length
  own : ∀ p ∈ ownP ps hs h, p ∈ L
  none : ownP ps hs h = [] → L = []
theorem PeelR.start {ps : List (Option Nat)} {ks : List Nat} {hs : List Int} {h : Int} (ht : IsTr ps ks) (hh : hs.length = ps.length) (b : Bool) (hb : b = decide (h ∈ hs)) : PeelR ps hs h (List.range (if b = true then ps.length else 0)) := by
  refine ⟨List.pairwise_lt_range, fun p hp => ?_, fun p hp => ?_, fun e => ?_⟩
  · have := List.mem_range.mp hp
    split at this <;> omega
  · obtain ⟨h1, s0, h0, _⟩ := mem_ownP.mp hp
    have hs0 := mem_hav.mp (List.mem_of_getElem? h0)
    have : h ∈ hs := by
      rw [← hs0.2, List.getD_eq_getElem?_getD, List.getElem?_eq_getElem hs0.1]
      exact List.getElem_mem _
    rw [hb, decide_eq_true this, if_pos rfl]
    exact List.mem_range.mpr h1
  · by_cases hm : h ∈ hs
    · exfalso
      obtain ⟨j, hj, e2⟩ := List.mem_iff_getElem.mp hm
      have h1 : j ∈ ownP ps hs h := own_has ht hh (by omega) (by rw [List.getD_eq_getElem?_getD, List.getElem?_eq_getElem hj, e2]; rfl)
      rw [e] at h1
      cases h1
    · rw [hb, decide_eq_false hm]
      rfl
section
variable {ps : List (Option Nat)} {ks : List Nat} {hs : List Int} {h : Int} {L es : List Nat}
/-- without those of es -/
abbrev lessL (L es : List Nat) : List Nat := L.filter fun y => decide (y ∉ es)
theorem PeelR.step (ht : IsTr ps ks) (hh : hs.length = ps.length) (r : PeelR ps hs h L) : PeelR ps hs h (lessL L (endsL ps hs h L L)) := by
  refine ⟨r.rise.sublist List.filter_sublist, fun p hp => r.lt p (List.mem_filter.mp hp).1, fun p hp => ?_, fun e => by rw [r.none e]; rfl⟩
  rw [List.mem_filter, decide_eq_true_eq]
  refine ⟨r.own p hp, fun hm => ?_⟩
  rw [List.mem_filter, decide_eq_true_eq] at hm
  obtain ⟨_, hne, hlt⟩ := hm
  obtain ⟨h1, s0, h0, hu⟩ := mem_ownP.mp hp
  have hs0 : HasH hs h s0 := List.mem_of_getElem? h0
  obtain ⟨q1, q2, hq, u1, u2, e1, e2⟩ := hu.two hs0 (fun z => hne (mem_hav.mp z).2)
  exact two_len h1 hq (r.own q1 (mem_ownP.mpr ⟨u1.lt, s0, h0, u1⟩)) (r.own q2 (mem_ownP.mpr ⟨u2.lt, s0, h0, u2⟩)) e1 e2 hlt
theorem PeelR.fin (ht : IsTr ps ks) (hh : hs.length = ps.length) (r : PeelR ps hs h L) (e : endsL ps hs h L L = []) : L = ownP ps hs h := by
  refine nat_rise_eq r.rise ownP_rise fun p => ⟨fun hp => ?_, r.own p⟩
  cases c : ownP ps hs h with
  | nil => rw [r.none c] at hp; cases hp
  | cons p0 r0 =>
    rw [← c]
    have hp0 : p0 ∈ ownP ps hs h := by rw [c]; simp
    obtain ⟨_, s0, h0, _⟩ := mem_ownP.mp hp0
    refine mem_ownP.mpr ⟨r.lt p hp, s0, h0, Stab.own ht (S := HasH hs h) (List.mem_of_getElem? h0) (fun s hs' => by have := (mem_hav.mp hs').1; omega) r.lt (fun x hx hn => ?_) p hp⟩
    refine two_of ht (r.lt x hx) fun hlt => ?_
    have : x ∈ endsL ps hs h L L := by
      rw [List.mem_filter, decide_eq_true_eq]
      exact ⟨hx, fun z => hn (mem_hav.mpr ⟨by have := r.lt x hx; omega, z⟩), hlt⟩
    rw [e] at this
    cases this
end
def spLOwn : Sp := spOwnPl
def rowsNb (ps : List (Option Nat)) (i : Nat) : List (List V) := (List.range ps.length).map fun x => natsV (nbTo ps x i)
end Hb

set_option Elab.async false
set_option linter.all false
set_option maxRecDepth 100000
set_option maxHeartbeats 4000000

namespace Hb
open PySem L2
/-! ### in how many own parts a place stands -/
open Classical in
noncomputable def ctN (ps : List (Option Nat)) (hs : List Int) (ks : List Int) (x : Nat) : Nat := (ks.filter fun k => decide (x ∈ ownP ps hs k)).length
noncomputable def ctA (ps : List (Option Nat)) (hs : List Int) (ks : List Int) (A : List Nat) (x : Nat) : Nat := ctN ps hs ks x + (if x ∈ A then 1 else 0)
noncomputable def ctL (ps : List (Option Nat)) (hs : List Int) (ks : List Int) (A : List Nat) : List Nat := (List.range ps.length).map (ctA ps hs ks A)
noncomputable abbrev ctF (ps : List (Option Nat)) (hs : List Int) : List Nat := ctL ps hs (riseOf hs) []
section
variable {ps : List (Option Nat)} {ks : List Nat} {hs : List Int} {ls : List Int} {A : List Nat} {z x : Nat} {k : Int}
end
/-- the greatest and where it stands first -/
def FstMax (l : List Nat) (m j : Nat) : Prop := l[j]? = some m ∧ (∀ y ∈ l, y ≤ m) ∧ ∀ (i z : Nat), i < j → l[i]? = some z → z = m → False
theorem FstMax.det {l : List Nat} {m j m' j' : Nat} (h : FstMax l m j) (h' : FstMax l m' j') : m = m' ∧ j = j' := by
  have e : m = m' := Nat.le_antisymm (h'.2.1 m (List.mem_of_getElem? h.1)) (h.2.1 m' (List.mem_of_getElem? h'.1))
  subst e
  refine ⟨rfl, ?_⟩
  rcases Nat.lt_trichotomy j j' with c | c | c
  · exact (h'.2.2 j m c h.1 rfl).elim
  · exact c
  · exact (h.2.2 j' m c h'.1 rfl).elim
def spOwnCt : Sp := fun vs H Q _ => ∃ (a b : Addr) (ps : List (Option Nat)) (ks : List Nat) (hs : List Int), vs = [.ref a, .ref b] ∧ H a = some (.lst (ps.map oV)) ∧ H b = some (.lst (intsV hs)) ∧ ps.length ≤ 200 ∧ IsTr ps ks ∧ hs.length = ps.length ∧
  ∀ q H', H q = none → H' q = some (.lst (natsV (ctF ps hs))) → Same H H' → Q (.ref q) H'
def spMostOwn : Sp := fun vs H Q _ => ∃ (a b : Addr) (ps : List (Option Nat)) (ks : List Nat) (hs : List Int), vs = [.ref a, .ref b] ∧ H a = some (.lst (ps.map oV)) ∧ H b = some (.lst (intsV hs)) ∧ ps.length ≤ 200 ∧ IsTr ps ks ∧ hs.length = ps.length ∧
  ∀ (m j : Nat) q H', FstMax (ctF ps hs) m j → H q = none → H' q = some (.tup [.int (m : Nat), .int (j : Nat)]) → Same H H' → Q (.ref q) H'
section
variable {H : Hp} {Q : VK} {E : XK} {a b : Addr} {ps : List (Option Nat)} {ks : List Nat} {hs : List Int}
end
end Hb

set_option Elab.async false
set_option linter.all false
set_option maxRecDepth 100000
set_option maxHeartbeats 4000000

namespace Hb
open PySem L2
/-! ### places numbered anew -/
def numO (o : Nat) : List Nat → List (Key × V)
  | [] => []
  | x :: l => (Sum.inl (x : Int), V.int (o : Nat)) :: numO (o + 1) l
def posO (o y : Nat) : List Nat → Option Nat
  | [] => none
  | x :: l => if x = y then some o else posO (o + 1) y l
def anewN (ps : List (Option Nat)) (l : List Nat) : List (Option Nat) := l.map fun x => match ps[x]? with
  | some (some y) => posO 0 y l
  | _ => none
def spAnew : Sp := fun vs H Q _ => ∃ (a b : Addr) (ps : List (Option Nat)) (l : List Nat), vs = [.ref a, .ref b] ∧ H a = some (.lst (ps.map oV)) ∧ H b = some (.lst (natsV l)) ∧ ps.length ≤ 200 ∧ l.length ≤ 200 ∧ l.Nodup ∧ (∀ x ∈ l, x < ps.length) ∧
  ∀ q H', H q = none → H' q = some (.lst ((anewN ps l).map oV)) → Same H H' → Q (.ref q) H'
end Hb

set_option Elab.async false
set_option linter.all false
set_option maxRecDepth 100000
set_option maxHeartbeats 4000000

namespace Hb
open PySem L2
/-! ### a tree of some places numbered anew -/
/-- parents by a function -/
def anewG (par : Nat → Option Nat) (l : List Nat) : List (Option Nat) := l.map fun x => (par x).bind fun y => posO 0 y l
section
variable {ps : List (Option Nat)} {ks l : List Nat} {hs : List Int} {x y z r : Nat}
/-! #### own parts below a place -/
end
end Hb

set_option Elab.async false
set_option linter.all false
set_option maxRecDepth 100000
set_option maxHeartbeats 4000000

namespace Hb
open PySem L2
def spCut : Sp := fun vs H Q _ => ∃ (a b : Addr) (ps : List (Option Nat)) (ks : List Nat) (hs : List Int) (x : Nat), vs = [.ref a, .ref b, .int (x : Nat)] ∧ H a = some (.lst (ps.map oV)) ∧ H b = some (.lst (intsV hs)) ∧ ps.length ≤ 200 ∧ IsTr ps ks ∧ hs.length = ps.length ∧ x < ps.length ∧ ClN ps hs x ∧
  ∀ t q1 q2 H', Led H [] H' [(t, .tup [.ref q1, .ref q2]), (q2, .lst (intsV (rowP ps hs (.bel x)))), (q1, .lst ((anewN ps (plP ps (.bel x))).map oV))] → Q (.ref t) H'
section
variable {ps : List (Option Nat)} {ks us : List Nat} {hs : List Int} {x f : Nat}
end
def spPartR : Sp := fun vs H Q _ => ∃ (a b : Addr) (ps : List (Option Nat)) (ks : List Nat) (hs : List Int) (h : Int), vs = [.ref a, .ref b, .int h] ∧ H a = some (.lst (ps.map oV)) ∧ H b = some (.lst (intsV hs)) ∧ ps.length ≤ 200 ∧ IsTr ps ks ∧ hs.length = ps.length ∧ h ∈ hs ∧
  ∀ H', Same H H' → Q (.bl true) H'
def spCutR : Sp := fun vs H Q _ => ∃ (a b : Addr) (ps : List (Option Nat)) (ks : List Nat) (hs : List Int) (x : Nat), vs = [.ref a, .ref b, .int (x : Nat)] ∧ H a = some (.lst (ps.map oV)) ∧ H b = some (.lst (intsV hs)) ∧ ps.length ≤ 200 ∧ IsTr ps ks ∧ hs.length = ps.length ∧ x < ps.length ∧ ClN ps hs x ∧
  ∀ H', Same H H' → Q (.bl true) H'
end Hb

set_option Elab.async false
set_option linter.all false
set_option maxRecDepth 100000
set_option maxHeartbeats 4000000

namespace Hb
open PySem L2 TL
/-! ### texts -/
abbrev strsV (ws : List Str) : List V := ws.map V.str
def BndH (hs : List Int) : Prop := ∀ h ∈ hs, h.natAbs < 10 ^ 30
def spIsNum : Sp := fun vs H Q _ => ∃ (x : Str) (m : Int), vs = [.str x, .int m] ∧ x.length ≤ 100000 ∧ Q (.bl (isNumS x m)) H
def spIsHue : Sp := fun vs H Q _ => ∃ (x : Str), vs = [.str x] ∧ x.length ≤ 100000 ∧ Q (.bl (isHueS x)) H
def spReadPl : Sp := fun vs H Q _ => ∃ (o : Option Nat) (h : Int), vs = [.str (pwS o h)] ∧ (∀ p, o = some p → p < 1000) ∧ h.natAbs < 10 ^ 30 ∧ ∀ q H', H q = none → H' q = some (.tup [oV o, .int h]) → Same H H' → Q (.ref q) H'
def spReadT : Sp := fun vs H Q _ => ∃ (ps : List (Option Nat)) (ks : List Nat) (hs : List Int), vs = [.str (textN ps hs)] ∧ ps.length ≤ 200 ∧ IsTr ps ks ∧ hs.length = ps.length ∧ BndH hs ∧
  ∀ t q1 q2 H', Led H [] H' [(t, .tup [.ref q1, .ref q2]), (q2, .lst (intsV hs)), (q1, .lst (ps.map oV))] → Q (.ref t) H'
def spPlText : Sp := fun vs H Q _ => ∃ (o : Option Nat) (h : Int), vs = [oV o, .int h] ∧ (∀ p, o = some p → p < 1000) ∧ h.natAbs < 10 ^ 30 ∧ Q (.str (pwS o h)) H
def spText : Sp := fun vs H Q _ => ∃ (a b : Addr) (ps : List (Option Nat)) (ks : List Nat) (hs : List Int), vs = [.ref a, .ref b] ∧ H a = some (.lst (ps.map oV)) ∧ H b = some (.lst (intsV hs)) ∧ ps.length ≤ 200 ∧ IsTr ps ks ∧ hs.length = ps.length ∧ BndH hs ∧
  ∀ H', Same H H' → Q (.str (textN ps hs)) H'
def spLHuesB : Sp := fun vs H Q _ => ∃ (c : Int) (n : Nat), vs = [.int c, .int n] ∧ n ≤ 200 ∧ ∀ (hs : List Int) q H', hs.length = n → BndH hs → H q = none → H' q = some (.lst (intsV hs)) → Same H H' → Q (.ref q) H'
section
variable {H : Hp} {Q : VK} {E : XK} {a b : Addr} {x : Str} {m h c : Int} {n : Nat} {o : Option Nat} {ps : List (Option Nat)} {ks : List Nat} {hs : List Int}
theorem uPlText (ho : ∀ p, o = some p → p < 1000) (hb : h.natAbs < 10 ^ 30) (k : Q (.str (pwS o h)) H) : spPlText ([oV o, .int h] ++ []) H Q E := ⟨o, h, rfl, ho, hb, k⟩
theorem uText (ha : H a = some (.lst (ps.map oV))) (hb2 : H b = some (.lst (intsV hs))) (hl : ps.length ≤ 200) (ht : IsTr ps ks) (hh : hs.length = ps.length) (hb : BndH hs) (k : ∀ H', Same H H' → Q (.str (textN ps hs)) H') : spText ([.ref a, .ref b] ++ []) H Q E := ⟨a, b, ps, ks, hs, rfl, ha, hb2, hl, ht, hh, hb, k⟩
theorem sum_words (ho : ∀ o ∈ ps, ∀ p, o = some p → p < 1000) (hb : BndH hs) (hl : ps.length ≤ 201) : ((wordsN ps hs).map (·.length)).sum + (wordsN ps hs).length * (Str.ofString " ").length ≤ 20000 := by
  have h1 : ((wordsN ps hs).map (·.length)).sum ≤ ((wordsN ps hs).map (·.length)).length * 62 := sum_le fun n hn => by
    obtain ⟨w, hw, rfl⟩ := List.mem_map.mp hn
    obtain ⟨q, hq, rfl⟩ := List.mem_map.mp hw
    obtain ⟨m1, m2⟩ := List.of_mem_zip (show (q.1, q.2) ∈ ps.zip hs from hq)
    exact pwS_len (fun p e => ho _ m1 p e) (hb _ m2)
  have h2 : (wordsN ps hs).length ≤ 201 := by
    rw [wordsN, List.length_map, List.length_zip]; omega
  rw [List.length_map] at h1
  have h3 : (Str.ofString " ").length = 1 := by decide +kernel
  rw [h3]
  omega
theorem tr_small (ht : IsTr ps ks) (hl : ps.length ≤ 201) : ∀ o ∈ ps, ∀ p, o = some p → p < 1000 := fun o ho p e => by
  subst e
  obtain ⟨i, hi⟩ := List.mem_iff_getElem?.mp ho
  have := ht.ups i p hi
  omega
end
end Hb

set_option Elab.async false
set_option linter.all false
set_option maxRecDepth 100000
set_option maxHeartbeats 4000000

namespace Hb
open PySem L2 TL
def BndL (hs : List Int) : Prop := ∀ h ∈ hs, h.natAbs < 4 * 10 ^ 29
theorem BndL.H {hs : List Int} (h : BndL hs) : BndH hs := fun x hx => by have := h x hx; omega
def spLHuesC : Sp := fun vs H Q _ => ∃ (c : Int) (n : Nat), vs = [.int c, .int n] ∧ n ≤ 200 ∧ ∀ (hs : List Int) q H', hs.length = n → BndL hs → H q = none → H' q = some (.lst (intsV hs)) → Same H H' → Q (.ref q) H'
section
variable {H : Hp} {Q : VK} {E : XK} {a b : Addr} {x : Str} {m h h' c : Int} {n : Nat} {o : Option Nat} {ps : List (Option Nat)} {ks : List Nat} {hs hs' : List Int}
theorem uLHuesC (hn : n ≤ 200) (k : ∀ (hs : List Int) q H', hs.length = n → BndL hs → H q = none → H' q = some (.lst (intsV hs)) → Same H H' → Q (.ref q) H') : spLHuesC ([.int c, .int (n : Nat)] ++ []) H Q E := ⟨c, n, rfl, hn, k⟩
end
end Hb

set_option Elab.async false
set_option linter.all false
set_option maxRecDepth 100000
set_option maxHeartbeats 4000000

namespace Hb
open PySem L2 TL
def spTextJ (C D : Addr) : Sp := fun vs H Q E => ∃ (a b : Addr) (qs : List (Option Int)) (hs : List Int), vs = [.ref a, .ref b] ∧ H a = some (.lst (qs.map oJ)) ∧ H b = some (.lst (intsV hs)) ∧ qs.length ≤ 250 ∧ hs.length ≤ 1000 ∧ ¬ (IsT qs ∧ hs.length = qs.length) ∧
  (IsT qs → hs.length ≠ qs.length → ∀ H', Same H H' → E (.ref D) none H') ∧ (¬ IsT qs → ∀ H', Same H H' → E (.ref C) none H')
def spRefT : Sp := fun vs H Q _ => ∃ (a b : Addr) (qs : List (Option Int)) (hs : List Int), vs = [.ref a, .ref b] ∧ H a = some (.lst (qs.map oJ)) ∧ H b = some (.lst (intsV hs)) ∧ qs.length ≤ 200 ∧ hs.length ≤ 1000 ∧ BndH hs ∧
  ∀ j q H', RefD qs hs 0 0 j → H q = none → H' q = some (.lst (outV j)) → Same H H' → Q (.ref q) H'
section
variable {H : Hp} {Q : VK} {E : XK} {a b C D : Addr} {hs : List Int} {qs : List (Option Int)}
theorem uTextJ (h : H a = some (.lst (qs.map oJ))) (h2 : H b = some (.lst (intsV hs))) (hl : qs.length ≤ 250) (hl2 : hs.length ≤ 1000) (hb : ¬ (IsT qs ∧ hs.length = qs.length))
    (kd : IsT qs → hs.length ≠ qs.length → ∀ H', Same H H' → E (.ref D) none H') (kx : ¬ IsT qs → ∀ H', Same H H' → E (.ref C) none H') : spTextJ C D ([.ref a, .ref b] ++ []) H Q E := ⟨a, b, qs, hs, rfl, h, h2, hl, hl2, hb, kd, kx⟩
theorem uRefT (h : H a = some (.lst (qs.map oJ))) (h2 : H b = some (.lst (intsV hs))) (hl : qs.length ≤ 200) (hl2 : hs.length ≤ 1000) (hb : BndH hs)
    (k : ∀ j q H', RefD qs hs 0 0 j → H q = none → H' q = some (.lst (outV j)) → Same H H' → Q (.ref q) H') : spRefT ([.ref a, .ref b] ++ []) H Q E := ⟨a, b, qs, hs, rfl, h, h2, hl, hl2, hb, k⟩
end
theorem bnd_five : BndH [-5] := fun h hh => by
  have : h = -5 := by simpa using hh
  subst this
  decide
theorem text_small : textN [none] [-5] = Str.ofString "-:-5" := by decide +kernel
end Hb

set_option Elab.async false
set_option linter.all false
set_option maxRecDepth 100000
set_option maxHeartbeats 8000000

namespace H36
open PySem L2 Hb
def top (i : Nat) : Stmt := PySem.Challenge.pw_huesbelow_k36_trees_written.main.body.getD i (.Pass ⟨0, 0, 0, 0⟩)
section
variable {P : Program} {w : World} {K : PySem.W.Frag} {mg : Str → Option Value} {base : Heap}
abbrev s_is_place : Stmt := top 12
theorem sc_is_place : FnScope ["parents", "number"] ["parents", "number"] (defScope s_is_place) := ⟨rfl, rfl, rfl, by decide +kernel, rfl, by decide +kernel, by decide +kernel⟩
theorem ok_place (X : Tx K mg "is_place" s_is_place ["parents", "number"]) (T : Txt mg) : Df P w K mg base "is_place" ["parents", "number"] 1 spPlace := by
  have nd := sc_is_place.nd
  refine X.ok (k := 0) sc_is_place (fun vs H Q E h => ?_) (fun f cdv A outer s H vs Q E hr h => ?_)
  · obtain ⟨a, ps, x, rfl, _⟩ := h; rfl
  · obtain ⟨a, ps, x, rfl, ha, hl, q⟩ := h
    have L := Led.start (H := H)
    refine ⟨_, (pss_one (ps_ret (pe_chain op_le op_lt pe_int (pv 1) (pe_callB call_lenQ (by rfl) T.b_len PySem.boot_len (pa_cons (pv 0) pa_nil))))), ?_⟩
    rw [show start ["parents", "number"] [(.ref a), (.int x)] = [some (.ref a), some (.int x)] from rfl]
    walk_at "go"
    refine r_if (fun hb => ?_) (fun hb => ?_)
    · walk_at "go"
      rw [List.length_map]
      have e : decide (0 ≤ x ∧ x < (ps.length : Int)) = decide (x < (ps.length : Int)) := decide_eq_decide.mpr ⟨fun h => h.2, fun h => ⟨hb, h⟩⟩
      rw [← e]
      exact q
    · walk_at "go"
      have e : decide (0 ≤ x ∧ x < (ps.length : Int)) = false := decide_eq_false fun h => hb h.1
      rw [← e]
      exact q

abbrev s_only_root : Stmt := top 13
theorem sc_only_root : FnScope ["parents", "place", "parent", "roots"] ["parents"] (defScope s_only_root) := ⟨rfl, rfl, rfl, by decide +kernel, rfl, by decide +kernel, by decide +kernel⟩
theorem ok_root (X : Tx K mg "only_root" s_only_root ["parents"]) (T : Txt mg) : Df P w K mg base "only_root" ["parents"] 1 spRoot := by
  have nd := sc_only_root.nd
  refine X.ok (k := 0) sc_only_root (fun vs H Q E h => ?_) (fun f cdv A outer s H vs Q E hr h => ?_)
  · obtain ⟨a, ps, ks, rfl, _⟩ := h; rfl
  · obtain ⟨a, ps, ks, rfl, ha, hl, ht, q⟩ := h
    have L := Led.start (H := H)
    refine ⟨_, (pss_cons (ps_setLc (i := 3) (own := [("place", 1), ("parent", 2)]) (g := gTup K 2 (gCons (gName 1) (gCons (gName 2) gNil))) (by rfl) nd rfl rfl (sw_true rfl rfl rfl (by decide +kernel)) (pi_enum (by rfl) T.b_enumerate (pa_cons (pv 0) pa_nil)) (blkOk_by (own := [("place", 1), ("parent", 2)]) (N := ["parents", "place", "parent", "roots"]) (sc := defScope s_only_root) (by decide +kernel)) (fun _ _ _ _ _ => (pg_tup (by rfl) (pgs_cons (pg_name (i := 1) nd rfl (by first | exact Or.inl rfl | exact Or.inr rfl)) (pgs_cons (pg_name (i := 2) nd rfl (by first | exact Or.inl rfl | exact Or.inr rfl)) pgs_nil)))) (fun _ _ _ _ _ => pts_one (pt_cmpR op_isN (pv 2) pe_non (nomark _))) (fun _ _ _ _ _ => (pv 1)))
      (pss_cons (ps_if (pt_cmpR op_ne (pe_callB call_lenQ (by rfl) T.b_len PySem.boot_len (pa_cons (pv 3) pa_nil)) pe_int (nomark _))
      (pss_one ps_never)
      pss_nil)
      (pss_one (ps_ret (pe_ix ix_list (pv 3) pe_int (fun _ _ => rfl)))))), ?_⟩
    rw [show start ["parents", "place", "parent", "roots"] [(.ref a)] = [some (.ref a), none, none, none] from rfl]
    walk_at "go"
    refine c_enum (xs := ps.map oV) (σw := [some (.ref a), none, none, none]) (by walk_at "hb sql") (by rfl) (fun D i H1 => Led H [] H1 [(D, .lst (natsV (rootsTo ps i)))]) ?_ ?_ ?_ ?_
    · intro D H1 nx ex
      exact L.new nx ex
    · intro D i H1 _ _ L
      exact SqL.of (L.old ha (by simp))
    · intro D i x H1 T1 H2 nxD hx L nx ex
      obtain ⟨o, ho, rfl⟩ : ∃ o, ps[i]? = some o ∧ x = oV o := by
        rw [List.getElem?_map] at hx
        cases e : ps[i]? with
        | none => rw [e] at hx; cases hx
        | some o => rw [e] at hx; exact ⟨o, rfl, (Option.some.inj hx).symm⟩
      have hi : i < ps.length := (List.getElem?_eq_some_iff.mp ho).1
      have hll : (rootsTo ps i).length ≤ i := by unfold rootsTo; exact Nat.le_trans (List.length_filter_le _ _) (by simp)
      walk_at "hb new"
      cases o with
      | none =>
        walk_at "go"
        refine ⟨rfl, ?_⟩
        walk_at "go"
        rw [if_pos (by rfl)]
        walk_at "go"
        refine ⟨_, L.get1, small_lt (by rw [natsV, List.length_map]; omega), ?_⟩
        rw [rootsTo_succ, if_pos ho, show natsV (rootsTo ps i ++ [i]) = natsV (rootsTo ps i) ++ [V.int (i : Nat)] from List.map_append ..]
        exact (L.put1 rfl).drop0
      | some j =>
        walk_at "go"
        refine ⟨rfl, ?_⟩
        walk_at "go"
        rw [if_neg (by intro z; cases z), rootsTo_succ, if_neg (by rw [ho]; intro z; cases z), List.append_nil]
        exact L.drop0
    · intro D H1 nx L
      rw [List.length_map] at L
      obtain ⟨r, hr0, er⟩ := ht.roots
      rw [er] at L
      walk_at "go"
      rw [if_neg (by intro z; cases z)]
      walk_at "go"
      exact q r H1 hr0 L.same

abbrev s_child_lists : Stmt := top 14
theorem sc_child_lists : FnScope ["parents", "parent", "lists", "place"] ["parents"] (defScope s_child_lists) := ⟨rfl, rfl, rfl, by decide +kernel, rfl, by decide +kernel, by decide +kernel⟩
theorem ok_kids (X : Tx K mg "child_lists" s_child_lists ["parents"]) (T : Txt mg) (Gis_place : Df P w K mg base "is_place" ["parents", "number"] 1 spPlace) : Df P w K mg base "child_lists" ["parents"] 2 spKids := by
  have nd := sc_child_lists.nd
  refine X.ok (k := 1) sc_child_lists (fun vs H Q E h => ?_) (fun f cdv A outer s H vs Q E hr h => ?_)
  · obtain ⟨a, ps, rfl, _⟩ := h; rfl
  · obtain ⟨a, ps, rfl, ha, hl, hu, q⟩ := h
    have L := Led.start (H := H)
    refine ⟨_, (pss_cons (ps_setLc (i := 2) (own := [("parent", 1)]) (g := gName 1) (by rfl) nd rfl rfl (sw_true rfl rfl rfl (by decide +kernel)) (pi_list (pv 0)) (blkOk_by (own := [("parent", 1)]) (N := ["parents", "parent", "lists", "place"]) (sc := defScope s_child_lists) (by decide +kernel)) (fun _ _ _ _ _ => pg_name (i := 1) nd rfl (by first | exact Or.inl rfl | exact Or.inr rfl)) (fun _ _ _ _ _ => pts_nil) (fun _ _ _ _ _ => (pe_lst pa_nil)))
      (pss_cons (ps_for PassesOwn.never rfl (pi_enum (by rfl) T.b_enumerate (pa_cons (pv 0) pa_nil)) (pg_tup (by rfl) (pgs_cons (pg_name (i := 3) nd rfl (by first | exact Or.inl rfl | exact Or.inr rfl)) (pgs_cons (pg_name (i := 1) nd rfl (by first | exact Or.inl rfl | exact Or.inr rfl)) pgs_nil)))
      (pss_cons (ps_if (pt_cmpR op_isN (pv 1) pe_non (nomark _))
        (pss_one ps_continue)
        pss_nil)
        (pss_cons (ps_if (pt_not (pt_val (pe_cd (Gis_place.mono (by decide)) hr (by rfl) (pa_cons (pv 0) (pa_cons (pv 1) pa_nil)))))
        (pss_one ps_never)
        pss_nil)
        (pss_one (ps_expr (pe_bm PySem.F.plainAttrs_list PySem.F.slot_list_append PySem.F.type_list_append mt_append (pe_ix ix_list (pv 2) (pv 1) (fun _ _ => rfl)) (pa_cons (pv 3) pa_nil)))))))
      (pss_one (ps_ret (pv 2))))), ?_⟩
    rw [show start ["parents", "parent", "lists", "place"] [(.ref a)] = [some (.ref a), none, none, none] from rfl]
    walk_at "go"
    refine c_list (xs := ps.map oV) (σw := [some (.ref a), none, none, none]) (by walk_at "hb sql") (by rfl) (fun D i H1 => ∃ as : List Addr, as.length = i ∧ Led H [] H1 ((D, .lst (as.map V.ref)) :: rowsL as (List.replicate i []))) ?_ ?_ ?_ ?_
    · intro D H1 nx ex
      exact ⟨[], rfl, L.new nx ex⟩
    · rintro D i H1 _ _ ⟨as, _, L⟩
      exact SqL.of (L.old ha (by simp))
    · rintro D i x H1 nxD hx ⟨as, hal, L⟩
      have hi : i < ps.length := by have := (List.getElem?_eq_some_iff.mp hx).1; rwa [List.length_map] at this
      walk_at "go"
      refine ⟨rfl, ?_⟩
      walk_at "go"
      refine ⟨_, L.get1, small_lt (by rw [List.length_map]; omega), as ++ [p], by simp [hal], ?_⟩
      have L2 := L.put1 (o' := .lst (as.map V.ref ++ [V.ref p])) rfl
      rw [List.replicate_succ', rowsL_snoc (by rw [hal, List.length_replicate]), List.map_append]
      refine L2.perm ?_
      exact (List.Perm.swap _ _ _).trans ((List.perm_append_singleton _ _).symm.cons _)
    · rintro D H1 nx ⟨as, hal, L⟩
      rw [List.length_map] at hal L
      rw [← rowsTo_zero] at L
      walk_at "go"
      refine f_enum (xs := ps.map oV) (fun i σ H1 => ∃ v1 v3 : Option V, σ = [some (.ref a), v1, some (.ref D), v3] ∧ Led H [] H1 ((D, .lst (as.map V.ref)) :: rowsL as (rowsTo ps i))) (SqL.of (L.old ha (by simp))) ⟨_, _, rfl, L⟩ ?_ ?_ ?_
      · rintro i σ H1 _ ⟨v1, v3, rfl, L⟩
        exact SqL.of (L.old ha (by simp))
      · rintro i x σ H1 T1 H2 hx ⟨v1, v3, rfl, L⟩ nx ex
        obtain ⟨o, ho, rfl⟩ := opt_at hx
        have hi : i < ps.length := (List.getElem?_eq_some_iff.mp ho).1
        walk_at "hb new"
        walk_at "go"
        cases o with
        | none =>
          walk_at "go"
          rw [if_pos (by rfl)]
          walk_at "go"
          exact ⟨_, _, rfl, by rw [rowsTo_none ho]; exact L.drop0⟩
        | some y =>
          have hy := hu i y ho
          obtain ⟨b, hb⟩ : ∃ b, as[y]? = some b := ⟨_, List.getElem?_eq_getElem (by omega)⟩
          walk_at "go"
          rw [if_neg (by intro z; cases z)]
          walk_at "go"
          refine uPlace (L.old ha (by simp)) (by omega) ?_
          walk_at "go"
          refine r_ifn (fun h => absurd (by omega) h) (fun _ => ?_)
          walk_at "go"
          refine r_selN (v := V.ref b) (by walk_at "hb sql") (by rw [List.getElem?_map, hb]; rfl) ?_
          have hbl := L.get (List.mem_cons_of_mem _ (List.mem_cons_of_mem _ (rowsL_mem hb (rowsTo_at (i := i) hy))))
          have hkl := kidsTo_len ps i y
          refine r_tyL (SqL.of hbl) ?_
          walk_at "go"
          refine r_append hbl (small_lt (by rw [natsV, List.length_map]; omega)) (fun H3 ex => ?_)
          replace L := L.putRow1 hb (rowsTo_at hy) ex
          walk_at "go"
          exact ⟨_, _, rfl, by rw [rowsTo_some ho]; exact L.drop0⟩
      · rintro σ H1 ⟨v1, v3, rfl, L⟩
        rw [List.length_map] at L
        walk_at "go"
        refine q D as H1 hal L.fresh0 L.get0 (fun j x hx => ?_) L.same
        have hj : j < ps.length := by have := (List.getElem?_eq_some_iff.mp hx).1; omega
        have m := List.mem_cons_of_mem (D, HO.lst (as.map V.ref)) (rowsL_mem hx (rowsTo_at (i := ps.length) hj))
        exact ⟨L.freshM m, L.get m⟩

theorem ok_xplace (X : Tx K mg "is_place" s_is_place ["parents", "number"]) (T : Txt mg) : Df P w K mg base "is_place" ["parents", "number"] 1 spPlaceJ := by
  have nd := sc_is_place.nd
  refine X.ok (k := 0) sc_is_place (fun vs H Q E h => ?_) (fun f cdv A outer s H vs Q E hr h => ?_)
  · obtain ⟨a, ps, x, rfl, _⟩ := h; rfl
  · obtain ⟨a, ps, x, rfl, ha, hl, q⟩ := h
    have L := Led.start (H := H)
    refine ⟨_, (pss_one (ps_ret (pe_chain op_le op_lt pe_int (pv 1) (pe_callB call_lenQ (by rfl) T.b_len PySem.boot_len (pa_cons (pv 0) pa_nil))))), ?_⟩
    rw [show start ["parents", "number"] [(.ref a), (.int x)] = [some (.ref a), some (.int x)] from rfl]
    walk_at "go"
    refine r_if (fun hb => ?_) (fun hb => ?_)
    · walk_at "go"
      have e : decide (0 ≤ x ∧ x < (ps.length : Int)) = decide (x < (ps.length : Int)) := decide_eq_decide.mpr ⟨fun h => h.2, fun h => ⟨hb, h⟩⟩
      rw [← e]
      exact q
    · walk_at "go"
      have e : decide (0 ≤ x ∧ x < (ps.length : Int)) = false := decide_eq_false fun h => hb h.1
      rw [← e]
      exact q
theorem ok_xroot {C : Addr} (X : Tx K mg "only_root" s_only_root ["parents"]) (T : Txt mg) (x_NoTree : XCls K mg "NoTree" C) : DfR P w K mg base "only_root" ["parents"] 1 (spRootJ C) := by
  have nd := sc_only_root.nd
  refine X.okR (k := 0) sc_only_root (fun vs H Q E h => ?_) (fun f cdv A outer s H vs Q E hr h => ?_)
  · obtain ⟨a, qs, rfl, _⟩ := h; rfl
  · obtain ⟨a, qs, rfl, ha, hl, q, qx⟩ := h
    have L := Led.start (H := H)
    refine ⟨_, (pss_cons (ps_setLc (i := 3) (own := [("place", 1), ("parent", 2)]) (g := gTup K 2 (gCons (gName 1) (gCons (gName 2) gNil))) (by rfl) nd rfl rfl (sw_true rfl rfl rfl (by decide +kernel)) (pi_enum (by rfl) T.b_enumerate (pa_cons (pv 0) pa_nil)) (blkOk_by (own := [("place", 1), ("parent", 2)]) (N := ["parents", "place", "parent", "roots"]) (sc := defScope s_only_root) (by decide +kernel)) (fun _ _ _ _ _ => (pg_tup (by rfl) (pgs_cons (pg_name (i := 1) nd rfl (by first | exact Or.inl rfl | exact Or.inr rfl)) (pgs_cons (pg_name (i := 2) nd rfl (by first | exact Or.inl rfl | exact Or.inr rfl)) pgs_nil)))) (fun _ _ _ _ _ => pts_one (pt_cmpR op_isN (pv 2) pe_non (nomark _))) (fun _ _ _ _ _ => (pv 1)))
      (pss_cons (ps_if (pt_cmpR op_ne (pe_callB call_lenQ (by rfl) T.b_len PySem.boot_len (pa_cons (pv 3) pa_nil)) pe_int (nomark _))
      (pss_one (ps_raise rfl x_NoTree (by rfl) (pa_cons pe_str pa_nil)))
      pss_nil)
      (pss_one (ps_ret (pe_ix ix_list (pv 3) pe_int (fun _ _ => rfl)))))), ?_⟩
    rw [show start ["parents", "place", "parent", "roots"] [(.ref a)] = [some (.ref a), none, none, none] from rfl]
    walk_at "go"
    refine c_enum (xs := qs.map oJ) (σw := [some (.ref a), none, none, none]) (by walk_at "hb sql") (by rfl) (fun D i H1 => Led H [] H1 [(D, .lst (natsV (rootsI qs i)))]) ?_ ?_ ?_ ?_
    · intro D H1 nx ex
      exact L.new nx ex
    · intro D i H1 _ _ L
      exact SqL.of (L.old ha (by simp))
    · intro D i x H1 T1 H2 nxD hx L nx ex
      obtain ⟨o, ho, rfl⟩ := optI_at hx
      have hi : i < qs.length := (List.getElem?_eq_some_iff.mp ho).1
      have hll : (rootsI qs i).length ≤ i := by unfold rootsI; exact Nat.le_trans (List.length_filter_le _ _) (by simp)
      walk_at "hb new"
      cases o with
      | none =>
        walk_at "go"
        refine ⟨rfl, ?_⟩
        walk_at "go"
        rw [if_pos (by rfl)]
        walk_at "go"
        refine ⟨_, L.get1, small_lt (by rw [natsV, List.length_map]; omega), ?_⟩
        rw [rootsI_succ, if_pos ho, show natsV (rootsI qs i ++ [i]) = natsV (rootsI qs i) ++ [V.int (i : Nat)] from List.map_append ..]
        exact (L.put1 rfl).drop0
      | some j =>
        walk_at "go"
        refine ⟨rfl, ?_⟩
        walk_at "go"
        rw [if_neg (by intro z; cases z), rootsI_succ, if_neg (by rw [ho]; intro z; cases z), List.append_nil]
        exact L.drop0
    · intro D H1 nx L
      rw [List.length_map] at L
      walk_at "go"
      refine r_ifn (fun h => ?_) (fun h => ?_)
      · walk_at "go"
        exact ⟨by walk_at "hb size", qx (fun e => h (by rw [natsV, List.length_map, e]; rfl)) H1 L.same⟩
      · rw [natsV, List.length_map] at h
        obtain ⟨r, er⟩ := List.length_eq_one_iff.mp (show (rootsI qs qs.length).length = 1 by omega)
        rw [er] at L
        walk_at "go"
        exact q r H1 er L.same
theorem ok_xkids {C : Addr} (X : Tx K mg "child_lists" s_child_lists ["parents"]) (T : Txt mg) (x_NoTree : XCls K mg "NoTree" C) (Gis_place : Df P w K mg base "is_place" ["parents", "number"] 1 spPlaceJ) : DfR P w K mg base "child_lists" ["parents"] 2 (spKidsJ C) := by
  have nd := sc_child_lists.nd
  refine X.okR (k := 1) sc_child_lists (fun vs H Q E h => ?_) (fun f cdv A outer s H vs Q E hr h => ?_)
  · obtain ⟨a, qs, rfl, _⟩ := h; rfl
  · obtain ⟨a, qs, rfl, ha, hl, q, qx⟩ := h
    have L := Led.start (H := H)
    refine ⟨_, (pss_cons (ps_setLc (i := 2) (own := [("parent", 1)]) (g := gName 1) (by rfl) nd rfl rfl (sw_true rfl rfl rfl (by decide +kernel)) (pi_list (pv 0)) (blkOk_by (own := [("parent", 1)]) (N := ["parents", "parent", "lists", "place"]) (sc := defScope s_child_lists) (by decide +kernel)) (fun _ _ _ _ _ => pg_name (i := 1) nd rfl (by first | exact Or.inl rfl | exact Or.inr rfl)) (fun _ _ _ _ _ => pts_nil) (fun _ _ _ _ _ => (pe_lst pa_nil)))
      (pss_cons (ps_for PassesOwn.leaving rfl (pi_enum (by rfl) T.b_enumerate (pa_cons (pv 0) pa_nil)) (pg_tup (by rfl) (pgs_cons (pg_name (i := 3) nd rfl (by first | exact Or.inl rfl | exact Or.inr rfl)) (pgs_cons (pg_name (i := 1) nd rfl (by first | exact Or.inl rfl | exact Or.inr rfl)) pgs_nil)))
      (pss_cons (ps_if (pt_cmpR op_isN (pv 1) pe_non (nomark _))
        (pss_one ps_continue)
        pss_nil)
        (pss_cons (ps_if (pt_not (pt_val (pe_cd (Gis_place.mono (by decide)) hr (by rfl) (pa_cons (pv 0) (pa_cons (pv 1) pa_nil)))))
        (pss_one (ps_raise rfl x_NoTree (by rfl) (pa_cons pe_str pa_nil)))
        pss_nil)
        (pss_one (ps_expr (pe_bm PySem.F.plainAttrs_list PySem.F.slot_list_append PySem.F.type_list_append mt_append (pe_ix ix_list (pv 2) (pv 1) (fun _ _ => rfl)) (pa_cons (pv 3) pa_nil)))))))
      (pss_one (ps_ret (pv 2))))), ?_⟩
    rw [show start ["parents", "parent", "lists", "place"] [(.ref a)] = [some (.ref a), none, none, none] from rfl]
    walk_at "go"
    refine c_list (xs := qs.map oJ) (σw := [some (.ref a), none, none, none]) (by walk_at "hb sql") (by rfl) (fun D i H1 => ∃ as : List Addr, as.length = i ∧ Led H [] H1 ((D, .lst (as.map V.ref)) :: rowsL as (List.replicate i []))) ?_ ?_ ?_ ?_
    · intro D H1 nx ex
      exact ⟨[], rfl, L.new nx ex⟩
    · rintro D i H1 _ _ ⟨as, _, L⟩
      exact SqL.of (L.old ha (by simp))
    · rintro D i x H1 nxD hx ⟨as, hal, L⟩
      have hi : i < qs.length := by have := (List.getElem?_eq_some_iff.mp hx).1; rwa [List.length_map] at this
      walk_at "go"
      refine ⟨rfl, ?_⟩
      walk_at "go"
      refine ⟨_, L.get1, small_lt (by rw [List.length_map]; omega), as ++ [p], by simp [hal], ?_⟩
      have L2 := L.put1 (o' := .lst (as.map V.ref ++ [V.ref p])) rfl
      rw [List.replicate_succ', rowsL_snoc (by rw [hal, List.length_replicate]), List.map_append]
      refine L2.perm ?_
      exact (List.Perm.swap _ _ _).trans ((List.perm_append_singleton _ _).symm.cons _)
    · rintro D H1 nx ⟨as, hal, L⟩
      rw [List.length_map] at hal L
      rw [← rowsJ_zero] at L
      walk_at "go"
      refine f_enum (xs := qs.map oJ) (fun i σ H1 => ∃ v1 v3 : Option V, σ = [some (.ref a), v1, some (.ref D), v3] ∧ Led H [] H1 ((D, .lst (as.map V.ref)) :: rowsL as (rowsJ qs i)) ∧ UpsI qs i) (SqL.of (L.old ha (by simp))) ⟨_, _, rfl, L, fun j y hj => absurd hj (by omega)⟩ ?_ ?_ ?_
      · rintro i σ H1 _ ⟨v1, v3, rfl, L, _⟩
        exact SqL.of (L.old ha (by simp))
      · rintro i x σ H1 T1 H2 hx ⟨v1, v3, rfl, L, hu⟩ nx ex
        obtain ⟨o, ho, rfl⟩ := optI_at hx
        have hi : i < qs.length := (List.getElem?_eq_some_iff.mp ho).1
        walk_at "hb new"
        walk_at "go"
        cases o with
        | none =>
          walk_at "go"
          rw [if_pos (by rfl)]
          walk_at "go"
          refine ⟨_, _, rfl, by rw [rowsJ_none ho]; exact L.drop0, fun j y hj e => ?_⟩
          by_cases hji : j = i
          · subst hji; rw [ho] at e; cases e
          · exact hu j y (by omega) e
        | some y =>
          walk_at "go"
          rw [if_neg (by intro z; cases z)]
          walk_at "go"
          refine uPlaceJ (L.old ha (by simp)) (by rw [List.length_map]; omega) ?_
          walk_at "go"
          refine r_ifn (fun h => ?_) (fun h => ?_)
          · walk_at "go"
            refine ⟨by walk_at "hb size", qx (fun ⟨ps, e, u⟩ => h ?_) _ L.same⟩
            subst e
            obtain ⟨z, rfl, ez⟩ := emb_some.mp ho
            have := u i z ez
            rw [List.length_map, emb_len]
            omega
          · rw [List.length_map] at h
            obtain ⟨n, rfl⟩ : ∃ n : Nat, y = n := ⟨y.toNat, by omega⟩
            have hy : n < qs.length := by omega
            obtain ⟨b, hb⟩ : ∃ b, as[n]? = some b := ⟨_, List.getElem?_eq_getElem (by omega)⟩
            walk_at "go"
            refine r_selN (v := V.ref b) (by walk_at "hb sql") (by rw [List.getElem?_map, hb]; rfl) ?_
            have hbl := L.get (List.mem_cons_of_mem _ (List.mem_cons_of_mem _ (rowsL_mem hb (rowsJ_at (i := i) hy))))
            have hkl := kidsI_len qs i n
            refine r_tyL (SqL.of hbl) ?_
            walk_at "go"
            refine r_append hbl (small_lt (by rw [natsV, List.length_map]; omega)) (fun H3 ex => ?_)
            replace L := L.putRow1 hb (rowsJ_at hy) ex
            walk_at "go"
            refine ⟨_, _, rfl, by rw [rowsJ_some ho]; exact L.drop0, fun j y hj e => ?_⟩
            by_cases hji : j = i
            · subst hji
              rw [ho] at e
              cases e
              omega
            · exact hu j y (by omega) e
      · rintro σ H1 ⟨v1, v3, rfl, L, hu⟩
        rw [List.length_map] at L hu
        obtain ⟨ps, rfl, ups⟩ := hu.emb
        walk_at "go"
        refine q ps D as H1 rfl ups (by rw [hal, emb_len]) L.fresh0 L.get0 (fun j x hx => ?_) L.same
        have hj : j < (emb ps).length := by have := (List.getElem?_eq_some_iff.mp hx).1; omega
        have m := List.mem_cons_of_mem (D, HO.lst (as.map V.ref)) (rowsL_mem hx (rowsJ_at (i := (emb ps).length) hj))
        rw [kidsI_emb] at m
        exact ⟨L.freshM m, L.get m⟩
end
end H36


set_option Elab.async false
set_option linter.all false
set_option maxRecDepth 100000
set_option maxHeartbeats 8000000

namespace H36
open PySem L2 Hb
section
variable {P : Program} {w : World} {K : PySem.W.Frag} {mg : Str → Option Value} {base : Heap}
abbrev s_walk : Stmt := top 15
theorem sc_walk : FnScope ["parents", "root", "lists", "order", "waiting", "place"] ["parents"] (defScope s_walk) := ⟨rfl, rfl, rfl, by decide +kernel, rfl, by decide +kernel, by decide +kernel⟩
theorem ok_walk (X : Tx K mg "walk" s_walk ["parents"]) (T : Txt mg) (Gonly_root : Df P w K mg base "only_root" ["parents"] 1 spRoot) (Gchild_lists : Df P w K mg base "child_lists" ["parents"] 2 spKids) : Df P w K mg base "walk" ["parents"] 3 spWalk := by
  have nd := sc_walk.nd
  refine X.ok (k := 2) sc_walk (fun vs H Q E h => ?_) (fun f cdv A outer s H vs Q E hr h => ?_)
  · obtain ⟨a, ps, ks, rfl, _⟩ := h; rfl
  · obtain ⟨a, ps, ks, rfl, ha, hl, ht, q⟩ := h
    have L := Led.start (H := H)
    refine ⟨_, (pss_cons (ps_set (i := 1) nd rfl (by first | exact Or.inl rfl | exact Or.inr rfl) (pe_cd (Gonly_root.mono (by decide)) hr (by rfl) (pa_cons (pv 0) pa_nil)))
      (pss_cons (ps_set (i := 2) nd rfl (by first | exact Or.inl rfl | exact Or.inr rfl) (pe_cd (Gchild_lists.mono (by decide)) hr (by rfl) (pa_cons (pv 0) pa_nil)))
      (pss_cons (ps_set (i := 3) nd rfl (by first | exact Or.inl rfl | exact Or.inr rfl) (pe_lst pa_nil))
      (pss_cons (ps_set (i := 4) nd rfl (by first | exact Or.inl rfl | exact Or.inr rfl) (pe_lst (pa_cons (pv 1) pa_nil)))
      (pss_cons (ps_while PassesOwn.never (pt_truth (pv 4) (by intro _; rfl))
      (pss_cons (ps_set (i := 5) nd rfl (by first | exact Or.inl rfl | exact Or.inr rfl) (pe_bm0 PySem.F.plainAttrs_list PySem.F.slot_list_pop PySem.F.type_list_pop mt_pop (pv 4)))
        (pss_cons (ps_expr (pe_bm PySem.F.plainAttrs_list PySem.F.slot_list_append PySem.F.type_list_append mt_append (pv 3) (pa_cons (pv 5) pa_nil)))
        (pss_one (ps_expr (pe_bm PySem.F.plainAttrs_list PySem.F.slot_list_extend PySem.F.type_list_extend mt_extend (pv 4) (pa_cons (pe_rev (pe_ix ix_list (pv 2) (pv 5) (fun _ _ => rfl)) (pe_un un_neg pe_int)) pa_nil)))))))
      (pss_cons (ps_if (pt_cmpR op_ne (pe_callB call_lenQ (by rfl) T.b_len PySem.boot_len (pa_cons (pv 3) pa_nil)) (pe_callB call_lenQ (by rfl) T.b_len PySem.boot_len (pa_cons (pv 0) pa_nil)) (nomark _))
      (pss_one ps_never)
      pss_nil)
      (pss_one (ps_ret (pv 3))))))))), ?_⟩
    rw [show start ["parents", "root", "lists", "order", "waiting", "place"] [(.ref a)] = [some (.ref a), none, none, none, none, none] from rfl]
    walk_at "go"
    refine uRoot ha hl ht (fun r H1 hr0 s1 => ?_)
    have hrn := ht.root r hr0
    have ha1 := s1 _ _ ha
    walk_at "go"
    refine uKids ha1 hl ht.ups (fun c as H2 hal _ hc hk s2 => ?_)
    have ha2 := s2 _ _ ha1
    have s02 := s1.trans s2
    clear L ha1 s1 s2 hr
    have L := Led.start (H := H2)
    walk_at "go"
    rename_i po _
    obtain ⟨pw, rfl⟩ : ∃ pw, pw = p := ⟨p, rfl⟩
    refine r_while ⟨fun m σ H3 => ∃ (o S : List Nat) (v5 : Option V), σ = [some (.ref a), some (.int r), some (.ref c), some (.ref po), some (.ref pw), v5] ∧ Led H2 [] H3 [(pw, .lst (natsV S.reverse)), (po, .lst (natsV o))] ∧ WI ps r o S ∧ m + o.length = ps.length ∧ wk ps r o.length = (o, S),
      ⟨ps.length, [], [r], none, rfl, L, WI.start (List.getElem?_eq_some_iff.mp hrn).1, by simp, rfl⟩, ?_⟩
    rintro m σ H3 ⟨o, S, v5, rfl, L, hw, hm, hwk⟩
    have hle := hw.le
    cases S with
    | nil =>
      have hp := hw.all ht.perm hr0 ht.up
      have hol : o.length = ps.length := by rw [hp.length_eq, List.length_range]
      walk_at "go"
      refine r_noB (by simp) ?_
      walk_at "go"
      refine r_ifn (fun h => absurd (by rw [natsV, List.length_map, List.length_map, hol]) h) (fun _ => ?_)
      walk_at "go"
      have e := congrArg Prod.fst hwk
      rw [hol] at e
      exact q r po H3 hr0 (same_none s02 (L.freshM (List.Mem.tail _ (List.Mem.head _)))) (by rw [e]; exact L.get1) (s02.trans L.same)
    | cons x S =>
      have hxl : x < ps.length := hw.lt x (by simp)
      have hkl : (kidsN ps x).length ≤ ps.length := by unfold kidsN; exact Nat.le_trans (List.length_filter_le _ _) (by simp)
      obtain ⟨b, hb⟩ : ∃ b, as[x]? = some b := ⟨_, List.getElem?_eq_getElem (by omega)⟩
      have hbk := (hk x b hb).2
      rw [List.length_cons] at hle
      rw [List.reverse_cons, natsV, List.map_append] at L
      walk_at "go"
      refine r_yesB (by simp) ?_
      refine r_turn ?_
      walk_at "go"
      refine r_pop L.get0 (fun H4 ex => ?_)
      walk_at "hb put"
      walk_at "go"
      refine r_selN (v := V.ref b) (by walk_at "hb sql") (by rw [List.getElem?_map, hb]; rfl) ?_
      walk_at "go"
      refine ⟨m - 1, by omega, o ++ [x], kidsN ps x ++ S, _, rfl, ?_, hw.step hrn, by simp; omega, by rw [List.length_append]; exact wk_step hwk⟩
      rw [List.reverse_append, natsV, List.map_append, natsV, List.map_append, List.map_reverse (l := kidsN ps x)]
      exact L.drop0
abbrev s_need_tree : Stmt := top 16
theorem sc_need_tree : FnScope ["parents"] ["parents"] (defScope s_need_tree) := ⟨rfl, rfl, rfl, by decide +kernel, rfl, by decide +kernel, by decide +kernel⟩
theorem ok_need (X : Tx K mg "need_tree" s_need_tree ["parents"]) (Gwalk : Df P w K mg base "walk" ["parents"] 3 spWalk) : Df P w K mg base "need_tree" ["parents"] 4 spNeed := by
  have nd := sc_need_tree.nd
  refine X.ok (k := 3) sc_need_tree (fun vs H Q E h => ?_) (fun f cdv A outer s H vs Q E hr h => ?_)
  · obtain ⟨a, ps, ks, rfl, _⟩ := h; rfl
  · obtain ⟨a, ps, ks, rfl, ha, hl, ht, q⟩ := h
    have L := Led.start (H := H)
    refine ⟨_, (pss_one (ps_expr (pe_cd (Gwalk.mono (by decide)) hr (by rfl) (pa_cons (pv 0) pa_nil)))), ?_⟩
    rw [show start ["parents"] [(.ref a)] = [some (.ref a)] from rfl]
    walk_at "go"
    refine uWalk ha hl ht (fun r c H1 _ _ _ s1 => ?_)
    walk_at "go"
    exact q H1 s1
abbrev s_need_hues : Stmt := top 17
theorem sc_need_hues : FnScope ["parents", "hues"] ["parents", "hues"] (defScope s_need_hues) := ⟨rfl, rfl, rfl, by decide +kernel, rfl, by decide +kernel, by decide +kernel⟩
theorem ok_needH (X : Tx K mg "need_hues" s_need_hues ["parents", "hues"]) (T : Txt mg) (Gneed_tree : Df P w K mg base "need_tree" ["parents"] 4 spNeed) : Df P w K mg base "need_hues" ["parents", "hues"] 5 spNeedH := by
  have nd := sc_need_hues.nd
  refine X.ok (k := 4) sc_need_hues (fun vs H Q E h => ?_) (fun fa cdv A outer s H vs Q E hr h => ?_)
  · obtain ⟨a, b, ps, ks, hs, rfl, _⟩ := h; rfl
  · obtain ⟨a, b, ps, ks, hs, rfl, ha, hb, hl, ht, hh, k⟩ := h
    have L := Led.start (H := H)
    refine ⟨_, (pss_cons (ps_expr (pe_cd (Gneed_tree.mono (by decide)) hr (by rfl) (pa_cons (pv 0) pa_nil)))
      (pss_one (ps_if (pt_cmpR op_ne (pe_callB call_lenQ (by rfl) T.b_len PySem.boot_len (pa_cons (pv 1) pa_nil)) (pe_callB call_lenQ (by rfl) T.b_len PySem.boot_len (pa_cons (pv 0) pa_nil)) (nomark _))
      (pss_one ps_never)
      pss_nil))), ?_⟩
    rw [show start ["parents", "hues"] [(.ref a), (.ref b)] = [some (.ref a), some (.ref b)] from rfl]
    walk_at "go"
    refine uNeed ha hl ht (fun H1 s1 => ?_)
    have ha1 := s1 _ _ ha
    have hb1 := s1 _ _ hb
    walk_at "go"
    refine r_ifn (fun h => absurd (by rw [List.length_map, List.length_map, hh]) h) (fun _ => ?_)
    walk_at "go"
    exact k H1 s1
theorem ok_xwalk {C : Addr} (X : Tx K mg "walk" s_walk ["parents"]) (T : Txt mg) (x_NoTree : XCls K mg "NoTree" C) (Gonly_root : DfR P w K mg base "only_root" ["parents"] 1 (spRootJ C)) (Gchild_lists : DfR P w K mg base "child_lists" ["parents"] 2 (spKidsJ C)) : DfR P w K mg base "walk" ["parents"] 3 (spWalkJ C) := by
  have nd := sc_walk.nd
  refine X.okR (k := 2) sc_walk (fun vs H Q E h => ?_) (fun f cdv A outer s H vs Q E hr h => ?_)
  · obtain ⟨a, qs, rfl, _⟩ := h; rfl
  · obtain ⟨a, qs, rfl, ha, hl, q, qx⟩ := h
    have L := Led.start (H := H)
    refine ⟨_, (pss_cons (ps_set (i := 1) nd rfl (by first | exact Or.inl rfl | exact Or.inr rfl) (pe_cdR rfl (Gonly_root.mono (by decide)) hr (by rfl) (pa_cons (pv 0) pa_nil)))
      (pss_cons (ps_set (i := 2) nd rfl (by first | exact Or.inl rfl | exact Or.inr rfl) (pe_cdR rfl (Gchild_lists.mono (by decide)) hr (by rfl) (pa_cons (pv 0) pa_nil)))
      (pss_cons (ps_set (i := 3) nd rfl (by first | exact Or.inl rfl | exact Or.inr rfl) (pe_lst pa_nil))
      (pss_cons (ps_set (i := 4) nd rfl (by first | exact Or.inl rfl | exact Or.inr rfl) (pe_lst (pa_cons (pv 1) pa_nil)))
      (pss_cons (ps_while PassesOwn.leaving (pt_truth (pv 4) (by intro _; rfl))
      (pss_cons (ps_set (i := 5) nd rfl (by first | exact Or.inl rfl | exact Or.inr rfl) (pe_bm0 PySem.F.plainAttrs_list PySem.F.slot_list_pop PySem.F.type_list_pop mt_pop (pv 4)))
        (pss_cons (ps_expr (pe_bm PySem.F.plainAttrs_list PySem.F.slot_list_append PySem.F.type_list_append mt_append (pv 3) (pa_cons (pv 5) pa_nil)))
        (pss_one (ps_expr (pe_bm PySem.F.plainAttrs_list PySem.F.slot_list_extend PySem.F.type_list_extend mt_extend (pv 4) (pa_cons (pe_rev (pe_ix ix_list (pv 2) (pv 5) (fun _ _ => rfl)) (pe_un un_neg pe_int)) pa_nil)))))))
      (pss_cons (ps_if (pt_cmpR op_ne (pe_callB call_lenQ (by rfl) T.b_len PySem.boot_len (pa_cons (pv 3) pa_nil)) (pe_callB call_lenQ (by rfl) T.b_len PySem.boot_len (pa_cons (pv 0) pa_nil)) (nomark _))
      (pss_one (ps_raise rfl x_NoTree (by rfl) (pa_cons pe_str pa_nil)))
      pss_nil)
      (pss_one (ps_ret (pv 3))))))))), ?_⟩
    rw [show start ["parents", "root", "lists", "order", "waiting", "place"] [(.ref a)] = [some (.ref a), none, none, none, none, none] from rfl]
    walk_at "go"
    refine uRootJ ha hl (fun r H1 hr0 s1 => ?_) (fun hne H1 s1 => qx (fun ⟨ps, ks, e, ht⟩ => ?_) H1 s1)
    · have hrn := rootsI_mem hr0
      have ha1 := s1 _ _ ha
      walk_at "go"
      refine uKidsJ ha1 hl (fun ps c as H2 eps ups hal _ hc hk s2 => ?_) (fun hne H2 s2 => qx (fun ⟨ps, ks, e, ht⟩ => hne ⟨ps, e, ht.ups⟩) H2 (s1.trans s2))
      subst eps
      rw [emb_none] at hrn
      rw [emb_len] at hl
      have ha2 := s2 _ _ ha1
      have s02 := s1.trans s2
      clear L ha1 s1 s2 hr
      have L := Led.start (H := H2)
      walk_at "go"
      rename_i po _
      obtain ⟨pw, rfl⟩ : ∃ pw, pw = p := ⟨p, rfl⟩
      refine r_while ⟨fun m σ H3 => ∃ (o S : List Nat) (v5 : Option V), σ = [some (.ref a), some (.int r), some (.ref c), some (.ref po), some (.ref pw), v5] ∧ Led H2 [] H3 [(pw, .lst (natsV S.reverse)), (po, .lst (natsV o))] ∧ WA ps r o S ∧ m + o.length = ps.length,
        ⟨ps.length, [], [r], none, rfl, L, WA.start (List.getElem?_eq_some_iff.mp hrn).1, by simp⟩, ?_⟩
      rintro m σ H3 ⟨o, S, v5, rfl, L, hw, hm⟩
      have hle := hw.wi.le
      cases S with
      | nil =>
        walk_at "go"
        refine r_noB (by simp) ?_
        walk_at "go"
        refine r_ifn (fun h => ?_) (fun h => ?_)
        · walk_at "go"
          refine ⟨by walk_at "hb size", qx (fun ⟨ps', ks, e, ht⟩ => h ?_) H3 (s02.trans L.same)⟩
          have := IsTr.emb_inj e
          subst this
          have hp := ht.perm
          obtain ⟨r', hr', er'⟩ := ht.rootsJ
          rw [hr0] at er'
          have : r = r' := by simpa using er'
          subst this
          have hol : o.length = ps.length := by rw [(hw.wi.all hp hr' ht.up).length_eq, List.length_range]
          rw [natsV, List.length_map, List.length_map, emb_len, hol]
        · rw [natsV, List.length_map, List.length_map, emb_len] at h
          walk_at "go"
          exact q ps o po H3 rfl (hw.tr hrn (by omega)) (same_none s02 (L.freshM (List.Mem.tail _ (List.Mem.head _)))) L.get1 (s02.trans L.same)
      | cons x S =>
        have hxl : x < ps.length := hw.wi.lt x (by simp)
        have hkl : (kidsN ps x).length ≤ ps.length := by unfold kidsN; exact Nat.le_trans (List.length_filter_le _ _) (by simp)
        obtain ⟨b, hb⟩ : ∃ b, as[x]? = some b := ⟨_, List.getElem?_eq_getElem (by omega)⟩
        have hbk := (hk x b hb).2
        rw [List.length_cons] at hle
        rw [List.reverse_cons, natsV, List.map_append] at L
        walk_at "go"
        refine r_yesB (by simp) ?_
        refine r_turn ?_
        walk_at "go"
        refine r_pop L.get0 (fun H4 ex => ?_)
        walk_at "hb put"
        walk_at "go"
        refine r_selN (v := V.ref b) (by walk_at "hb sql") (by rw [List.getElem?_map, hb]; rfl) ?_
        walk_at "go"
        refine ⟨m - 1, by omega, o ++ [x], kidsN ps x ++ S, _, rfl, ?_, hw.step hrn, by simp; omega⟩
        rw [List.reverse_append, natsV, List.map_append, natsV, List.map_append, List.map_reverse (l := kidsN ps x)]
        exact L.drop0
    · subst e
      obtain ⟨r, _, er⟩ := ht.rootsJ
      rw [er] at hne
      exact hne rfl
theorem ok_xneed {C : Addr} (X : Tx K mg "need_tree" s_need_tree ["parents"]) (Gwalk : DfR P w K mg base "walk" ["parents"] 3 (spWalkJ C)) : DfR P w K mg base "need_tree" ["parents"] 4 (spNeedJ C) := by
  have nd := sc_need_tree.nd
  refine X.okR (k := 3) sc_need_tree (fun vs H Q E h => ?_) (fun f cdv A outer s H vs Q E hr h => ?_)
  · obtain ⟨a, qs, rfl, _⟩ := h; rfl
  · obtain ⟨a, qs, rfl, ha, hl, q, qx⟩ := h
    have L := Led.start (H := H)
    refine ⟨_, (pss_one (ps_expr (pe_cdR rfl (Gwalk.mono (by decide)) hr (by rfl) (pa_cons (pv 0) pa_nil)))), ?_⟩
    rw [show start ["parents"] [(.ref a)] = [some (.ref a)] from rfl]
    walk_at "go"
    refine uWalkJ ha hl (fun ps o c H1 e ht _ _ s1 => ?_) qx
    walk_at "go"
    exact q ⟨ps, o, e, ht⟩ H1 s1
theorem ok_xneedH {C D : Addr} (X : Tx K mg "need_hues" s_need_hues ["parents", "hues"]) (T : Txt mg) (x_NoHues : XCls K mg "NoHues" D) (Gneed_tree : DfR P w K mg base "need_tree" ["parents"] 4 (spNeedJ C)) : DfR P w K mg base "need_hues" ["parents", "hues"] 5 (spNeedHJ C D) := by
  have nd := sc_need_hues.nd
  refine X.okR (k := 4) sc_need_hues (fun vs H Q E h => ?_) (fun fa cdv A outer s H vs Q E hr h => ?_)
  · obtain ⟨a, b, qs, hs, rfl, _⟩ := h; rfl
  · obtain ⟨a, b, qs, hs, rfl, ha, hb, hl, hl2, k, kd, kx⟩ := h
    have L := Led.start (H := H)
    refine ⟨_, (pss_cons (ps_expr (pe_cdR rfl (Gneed_tree.mono (by decide)) hr (by rfl) (pa_cons (pv 0) pa_nil)))
      (pss_one (ps_if (pt_cmpR op_ne (pe_callB call_lenQ (by rfl) T.b_len PySem.boot_len (pa_cons (pv 1) pa_nil)) (pe_callB call_lenQ (by rfl) T.b_len PySem.boot_len (pa_cons (pv 0) pa_nil)) (nomark _))
      (pss_one (ps_raise rfl x_NoHues (by rfl) (pa_cons pe_str pa_nil)))
      pss_nil))), ?_⟩
    rw [show start ["parents", "hues"] [(.ref a), (.ref b)] = [some (.ref a), some (.ref b)] from rfl]
    walk_at "go"
    refine uNeedJ ha hl (fun hT H1 s1 => ?_) kx
    have ha1 := s1 _ _ ha
    have hb1 := s1 _ _ hb
    clear L
    have L := Led.start (H := H1)
    walk_at "go"
    rw [show (intsV hs).length = hs.length by rw [intsV, List.length_map], List.length_map]
    refine r_ifn (fun h => ?_) (fun h => ?_)
    · walk_at "go"
      exact ⟨by walk_at "hb size", kd hT (fun e => h (by rw [e])) H1 s1⟩
    · walk_at "go"
      exact k hT (by omega) H1 s1
end
end H36


set_option Elab.async false
set_option linter.all false
set_option maxRecDepth 100000
set_option maxHeartbeats 8000000

namespace H36
open PySem L2 Hb
section
variable {P : Program} {w : World} {K : PySem.W.Frag} {mg : Str → Option Value} {base : Heap}
abbrev s_place_text : Stmt := top 20
theorem sc_place_text : FnScope ["parent", "hue", "above"] ["parent", "hue"] (defScope s_place_text) := ⟨rfl, rfl, rfl, by decide +kernel, rfl, by decide +kernel, by decide +kernel⟩
theorem ok_plText {tR : Tok} (X : Tx K mg "place_text" s_place_text ["parent", "hue"]) (T : Txt mg) (m_ROOT : mg "ROOT" = some (.str (Str.ofString "-") tR)) : Df P w K mg base "place_text" ["parent", "hue"] 1 spPlText := by
  have nd := sc_place_text.nd
  refine X.ok (k := 0) sc_place_text (fun vs H Q E h => ?_) (fun fa cdv AA outer s H vs Q E hr h => ?_)
  · obtain ⟨o, h, rfl, _⟩ := h; rfl
  · obtain ⟨o, h, rfl, ho, hb, k⟩ := h
    have L := Led.start (H := H)
    have hal := abov_len ho
    have hsl := len_sg hb
    have hc1 : (Str.ofString ":").length = 1 := by decide +kernel
    refine ⟨_, (pss_cons (ps_set (i := 2) nd rfl (by first | exact Or.inl rfl | exact Or.inr rfl) (pe_ifExp (pt_cmpR op_isN (pv 0) pe_non (nomark _)) (pe_glob (v := V.str "-") (by rfl) m_ROOT ⟨_, rfl⟩) (pv 0)))
      (pss_one (ps_ret (pe_fstr (pj_cons (pe_fmt (pv 2)) (pj_cons pe_str (pj_cons (pe_fmt (pv 1)) pj_nil))))))), ?_⟩
    rw [show start ["parent", "hue", "above"] [(oV o), (.int h)] = [some (oV o), some (.int h), none] from rfl]
    have hend : Q (.str ((Str.empty ++ abovS o) ++ Str.ofString ":" ++ sg h)) H := by rw [empty_appS]; exact k
    have l1 : (Str.empty ++ abovS o).length ≤ 100 := by rw [empty_appS]; omega
    have l2 : (Str.empty ++ abovS o ++ Str.ofString ":").length ≤ 100 := by rw [empty_appS, TL.len_tl, TL.tl_append, List.length_append, ← TL.len_tl, ← TL.len_tl]; omega
    have l3 : (Str.empty ++ abovS o ++ Str.ofString ":" ++ sg h).length ≤ 100 := by rw [empty_appS, TL.len_tl, TL.tl_append, TL.tl_append, List.length_append, List.length_append, ← TL.len_tl, ← TL.len_tl, ← TL.len_tl]; omega
    cases o with
    | none =>
      walk_at "wt"
      rw [if_pos (by rfl)]
      walk_at "wt"
      refine r_fmtS (small_s (by decide +kernel)) ?_
      walk_at "wt"
      refine ⟨small_s (Nat.le_trans l1 (by decide)), ?_⟩
      walk_at "wt"
      refine ⟨small_s (Nat.le_trans l2 (by decide)), ?_⟩
      walk_at "wt"
      refine r_fmtI (log_small hb) ?_
      walk_at "wt"
      refine ⟨small_s (Nat.le_trans l3 (by decide)), ?_⟩
      exact ⟨small_s (Nat.le_trans l3 (by decide)), hend⟩
    | some q =>
      walk_at "wt"
      rw [if_neg (by simp [oV])]
      walk_at "wt"
      refine r_fmtI (log_small (by have := ho q rfl; omega)) ?_
      walk_at "wt"
      refine ⟨small_s (Nat.le_trans l1 (by decide)), ?_⟩
      walk_at "wt"
      refine ⟨small_s (Nat.le_trans l2 (by decide)), ?_⟩
      walk_at "wt"
      refine r_fmtI (log_small hb) ?_
      walk_at "wt"
      refine ⟨small_s (Nat.le_trans l3 (by decide)), ?_⟩
      exact ⟨small_s (Nat.le_trans l3 (by decide)), hend⟩
abbrev s_tree_text : Stmt := top 21
theorem sc_tree_text : FnScope ["parents", "hues", "parent", "hue"] ["parents", "hues"] (defScope s_tree_text) := ⟨rfl, rfl, rfl, by decide +kernel, rfl, by decide +kernel, by decide +kernel⟩
theorem ok_treeText (X : Tx K mg "tree_text" s_tree_text ["parents", "hues"]) (T : Txt mg) (Gneed_hues : Df P w K mg base "need_hues" ["parents", "hues"] 5 spNeedH) (Gplace_text : Df P w K mg base "place_text" ["parent", "hue"] 1 spPlText) : Df P w K mg base "tree_text" ["parents", "hues"] 6 spText := by
  have nd := sc_tree_text.nd
  refine X.ok (k := 5) sc_tree_text (fun vs H Q E h => ?_) (fun fa cdv AA outer s H vs Q E hr h => ?_)
  · obtain ⟨a, b, ps, ks, hs, rfl, _⟩ := h; rfl
  · obtain ⟨a, b, ps, ks, hs, rfl, ha, hbb, hl, ht, hh, hb, k⟩ := h
    have L := Led.start (H := H)
    have hwl := words_len hh
    refine ⟨_, (pss_cons (ps_expr (pe_cd (Gneed_hues.mono (by decide)) hr (by rfl) (pa_cons (pv 0) (pa_cons (pv 1) pa_nil))))
      (pss_one (ps_ret (pe_m1 PySem.F.slot_str_join PySem.F.type_str_join (show MtR _ _ (rJoin K) from mt_join) pe_str (pe_lc (own := [("parent", 2), ("hue", 3)]) (g := gTup K 2 (gCons (gName 2) (gCons (gName 3) gNil))) (by rfl) nd (pi_zip (by rfl) T.b_zip (pa_cons (pv 0) (pa_cons (pv 1) pa_nil))) (blkOk_by (own := [("parent", 2), ("hue", 3)]) (N := ["parents", "hues", "parent", "hue"]) (sc := defScope s_tree_text) (by decide +kernel)) (fun _ _ _ _ _ => (pg_tup (by rfl) (pgs_cons (pg_name (i := 2) nd rfl (by first | exact Or.inl rfl | exact Or.inr rfl)) (pgs_cons (pg_name (i := 3) nd rfl (by first | exact Or.inl rfl | exact Or.inr rfl)) pgs_nil)))) (fun _ _ _ _ _ => pts_nil) (fun _ _ _ _ _ => (pe_cd (Gplace_text.mono (by decide)) hr (by rfl) (pa_cons (pv 2) (pa_cons (pv 3) pa_nil))))))))), ?_⟩
    rw [show start ["parents", "hues", "parent", "hue"] [(.ref a), (.ref b)] = [some (.ref a), some (.ref b), none, none] from rfl]
    walk_at "go"
    refine uNeedH ha hbb hl ht hh (fun H1 s1 => ?_)
    replace L := L.call s1
    clear s1
    walk_at "wt"
    refine c_zip (xs := ps.map oV) (ys := intsV hs) (σw := [some (.ref a), some (.ref b), none, none]) (SqL.of (L.oldE ha)) (SqL.of (L.oldE hbb)) (by rw [List.length_map, List.length_map]; omega) (by rfl) (fun D i H2 => Led H [] H2 [(D, .lst (strsV ((wordsN ps hs).take i)))]) ?_ ?_ ?_ ?_
    · intro D H2 nx ex
      exact L.new nx ex
    · intro D i H2 _ _ L
      exact ⟨SqL.of (L.oldE ha), SqL.of (L.oldE hbb)⟩
    · intro D i x y H2 T1 H3 _ hx hy L nx ex
      obtain ⟨o, eo, rfl⟩ := opt_at hx
      obtain ⟨h, eh, rfl⟩ := int_at hy
      have hi := (List.getElem?_eq_some_iff.mp eo).1
      have ho := fun p e => tr_small ht (by omega) o (List.mem_of_getElem? eo) p e
      have hbh := hb h (List.mem_of_getElem? eh)
      walk_at "hb new"
      walk_at "go"
      refine ⟨rfl, ?_⟩
      walk_at "go"
      refine uPlText ho hbh ?_
      refine ⟨_, L.get1, small_lt (by rw [List.length_map, List.length_take]; omega), ?_⟩
      have ew : strsV ((wordsN ps hs).take (i + 1)) = strsV ((wordsN ps hs).take i) ++ [V.str (pwS o h)] := by
        rw [List.take_add_one, words_at eo eh]; exact List.map_append
      rw [ew]
      exact (L.put1 rfl).drop0
    · intro D H2 _ L
      rw [List.length_map, ← hwl, List.take_length] at L
      walk_at "wt"
      refine r_joinL (SqL.of L.get0) (by have := sum_words (tr_small ht (by omega)) hb (by omega); omega) ?_
      walk_at "wt"
      exact k _ L.same
theorem ok_xtreeText {C D : Addr} (X : Tx K mg "tree_text" s_tree_text ["parents", "hues"]) (T : Txt mg) (Gneed_hues : DfR P w K mg base "need_hues" ["parents", "hues"] 5 (spNeedHJ C D)) (Gplace_text : Df P w K mg base "place_text" ["parent", "hue"] 1 spPlText) : DfR P w K mg base "tree_text" ["parents", "hues"] 6 (spTextJ C D) := by
  have nd := sc_tree_text.nd
  refine X.okR (k := 5) sc_tree_text (fun vs H Q E h => ?_) (fun fa cdv A outer s H vs Q E hr h => ?_)
  · obtain ⟨a, b, qs, hs, rfl, _⟩ := h; rfl
  · obtain ⟨a, b, qs, hs, rfl, ha, hb, hl, hl2, hbad, kd, kx⟩ := h
    have L := Led.start (H := H)
    refine ⟨_, (pss_cons (ps_expr (pe_cdR rfl (Gneed_hues.mono (by decide)) hr (by rfl) (pa_cons (pv 0) (pa_cons (pv 1) pa_nil))))
      (pss_one (ps_ret (pe_m1 PySem.F.slot_str_join PySem.F.type_str_join (show MtR _ _ (rJoin K) from mt_join) pe_str (pe_lc (own := [("parent", 2), ("hue", 3)]) (g := gTup K 2 (gCons (gName 2) (gCons (gName 3) gNil))) (by rfl) nd (pi_zip (by rfl) T.b_zip (pa_cons (pv 0) (pa_cons (pv 1) pa_nil))) (blkOk_by (own := [("parent", 2), ("hue", 3)]) (N := ["parents", "hues", "parent", "hue"]) (sc := defScope s_tree_text) (by decide +kernel)) (fun _ _ _ _ _ => (pg_tup (by rfl) (pgs_cons (pg_name (i := 2) nd rfl (by first | exact Or.inl rfl | exact Or.inr rfl)) (pgs_cons (pg_name (i := 3) nd rfl (by first | exact Or.inl rfl | exact Or.inr rfl)) pgs_nil)))) (fun _ _ _ _ _ => pts_nil) (fun _ _ _ _ _ => (pe_cd (Gplace_text.mono (by decide)) hr (by rfl) (pa_cons (pv 2) (pa_cons (pv 3) pa_nil))))))))), ?_⟩
    rw [show start ["parents", "hues", "parent", "hue"] [(.ref a), (.ref b)] = [some (.ref a), some (.ref b), none, none] from rfl]
    walk_at "go"
    exact uNeedHJ ha hb hl hl2 (fun h1 h2 => (hbad ⟨h1, h2⟩).elim) kd kx
end
end H36


set_option Elab.async false
set_option linter.all false
set_option maxRecDepth 100000
set_option maxHeartbeats 8000000

namespace H36
open PySem L2 Hb
section
variable {P : Program} {w : World} {K : PySem.W.Frag} {mg : Str → Option Value} {base : Heap}
abbrev s__law_stir : Stmt := top 23
theorem sc__law_stir : FnScope ["cell", "k", "number"] ["cell", "k"] (defScope s__law_stir) := ⟨rfl, rfl, rfl, by decide +kernel, rfl, by decide +kernel, by decide +kernel⟩
theorem ok_stir (X : Tx K mg "_law_stir" s__law_stir ["cell", "k"]) : Df P w K mg base "_law_stir" ["cell", "k"] 1 spStir := by
  have nd := sc__law_stir.nd
  refine X.ok (k := 0) sc__law_stir (fun vs H Q E h => ?_) (fun f cdv A outer s H vs Q E hr h => ?_)
  · obtain ⟨c, k, rfl, _⟩ := h; rfl
  · obtain ⟨c, k, rfl, h0, h1, q⟩ := h
    have L := Led.start (H := H)
    refine ⟨_, (pss_cons (ps_if (pt_cmpR op_ge (pv 0) (pe_op op_pow pe_int pe_int) (nomark _))
      (pss_one (ps_ret (pe_op op_mod (pe_op op_shr (pe_op op_sub (pv 0) (pe_op op_pow pe_int pe_int)) (pe_op op_mul pe_int (pv 1))) pe_int)))
      pss_nil)
      (pss_cons (ps_set (i := 2) nd rfl (by first | exact Or.inl rfl | exact Or.inr rfl) (pe_op op_mod (pe_op op_mul (pe_op op_add (pe_op op_add (pe_op op_mod (pv 0) pe_int) (pe_op op_mul pe_int (pv 1))) pe_int) pe_int) pe_int))
      (pss_cons (ps_set (i := 2) nd rfl (by first | exact Or.inl rfl | exact Or.inr rfl) (pe_op op_mod (pe_op op_mul (pv 2) (pv 2)) pe_int))
      (pss_one (ps_ret (pe_op op_mod (pe_op op_fdiv (pe_op op_mod (pe_op op_mul (pv 2) pe_int) pe_int) pe_int) pe_int)))))), ?_⟩
    rw [show start ["cell", "k", "number"] [(.int c), (.int k)] = [some (.int c), some (.int k), none] from rfl]
    walk_at "go"
    refine r_if (fun hb => ?_) (fun hb => ?_)
    · walk_at "go"
      exact q _ (Int.emod_nonneg _ (by decide)) (Int.emod_lt_of_pos _ (by decide))
    · walk_at "go"
      exact q _ (Int.emod_nonneg _ (by decide)) (Int.emod_lt_of_pos _ (by decide))
abbrev s__law_order : Stmt := top 25
theorem sc__law_order : FnScope ["cell", "base", "many", "found", "number"] ["cell", "base", "many"] (defScope s__law_order) := ⟨rfl, rfl, rfl, by decide +kernel, rfl, by decide +kernel, by decide +kernel⟩
theorem ok_order (X : Tx K mg "_law_order" s__law_order ["cell", "base", "many"]) (T : Txt mg) (G_law_stir : Df P w K mg base "_law_stir" ["cell", "k"] 1 spStir) : Df P w K mg base "_law_order" ["cell", "base", "many"] 2 spOrder := by
  have nd := sc__law_order.nd
  refine X.ok (k := 1) sc__law_order (fun vs H Q E h => ?_) (fun f cdv A outer s H vs Q E hr h => ?_)
  · obtain ⟨c, b, m, rfl, _⟩ := h; rfl
  · obtain ⟨c, b, m, rfl, h0, h1, h2, h3, q⟩ := h
    have L := Led.start (H := H)
    refine ⟨_, (pss_cons (ps_set (i := 3) nd rfl (by first | exact Or.inl rfl | exact Or.inr rfl) (pe_lst pa_nil))
      (pss_cons (ps_for PassesOwn.never rfl (pi_range1 (by rfl) T.b_range (pa_cons (pv 2) pa_nil)) (pg_name (i := 4) nd rfl (by first | exact Or.inl rfl | exact Or.inr rfl))
      (pss_one (ps_expr (pe_bm PySem.F.plainAttrs_list PySem.F.slot_list_insert PySem.F.type_list_insert mt_insert (pv 3) (pa_cons (pe_op op_mod (pe_cd (G_law_stir.mono (by decide)) hr (by rfl) (pa_cons (pv 0) (pa_cons (pe_op op_add (pv 1) (pv 4)) pa_nil))) (pe_op op_add (pv 4) pe_int)) (pa_cons (pv 4) pa_nil))))))
      (pss_one (ps_ret (pv 3))))), ?_⟩
    rw [show start ["cell", "base", "many", "found", "number"] [(.int c), (.int b), (.int m)] = [some (.int c), some (.int b), some (.int m), none, none] from rfl]
    walk_at "go"
    refine f_rng1 (by omega) (by omega) (fun i σ H1 => ∃ (ks : List Nat) (nv : Option V), σ = [some (.int c), some (.int b), some (.int m), some (.ref p), nv] ∧ Led H [] H1 [(p, .lst (natsV ks))] ∧ ks.Perm (List.range i)) ?_ ?_ ?_
    · exact ⟨[], none, rfl, L, .nil⟩
    · rintro i σ H1 hi ⟨ks, nv, rfl, L, hp⟩
      have hlen : ks.length = i := by rw [hp.length_eq, List.length_range]
      walk_at "go"
      walk_at "stir"
      have hm0 : 0 ≤ z % ((i : Int) + 1) := Int.emod_nonneg _ (by omega)
      have hm1 : z % ((i : Int) + 1) < i + 1 := Int.emod_lt_of_pos _ (by omega)
      walk_at "go"
      refine ⟨_, _, rfl, ?_, perm_ins (j := (z % ((i : Int) + 1)).toNat) hp⟩
      rw [natsV, List.map_append, List.map_cons, List.map_take, List.map_drop]
      exact L
    · rintro σ H1 ⟨ks, nv, rfl, L, hp⟩
      walk_at "go"
      exact q ks p H1 hp L.fresh0 L.get0 L.same
abbrev s__law_cells : Stmt := top 24
theorem sc__law_cells : FnScope ["script", "many"] ["script", "many"] (defScope s__law_cells) := ⟨rfl, rfl, rfl, by decide +kernel, rfl, by decide +kernel, by decide +kernel⟩
theorem ok_cells (X : Tx K mg "_law_cells" s__law_cells ["script", "many"]) (T : Txt mg) : Df P w K mg base "_law_cells" ["script", "many"] 1 (spCells K) := by
  have nd := sc__law_cells.nd
  refine X.ok (k := 0) sc__law_cells (fun vs H Q E h => ?_) (fun f cdv A outer s H vs Q E hr h => ?_)
  · obtain ⟨a, ns, m, rfl, _⟩ := h; rfl
  · obtain ⟨a, ns, m, rfl, ha, hl, h0, h1, q⟩ := h
    have L := Led.start (H := H)
    refine ⟨_, (pss_one (ps_ret (pe_slice sl_list (pe_op op_cat (pe_slice sl_list (pv 0) po_none (po_some (pv 1))) (pe_lst (pa_cons pe_int pa_nil))) po_none (po_some (pe_callB (call_max2 rfl) (by rfl) T.b_max (by decide +kernel) (pa_cons pe_int (pa_cons (pe_callB (call_min2 rfl) (by rfl) T.b_min (by decide +kernel) (pa_cons (pv 1) (pa_cons (pe_callB call_lenQ (by rfl) T.b_len PySem.boot_len (pa_cons (pv 0) pa_nil)) pa_nil))) pa_nil))))))), ?_⟩
    rw [show start ["script", "many"] [(.ref a), (.int m)] = [some (.ref a), some (.int m)] from rfl]
    walk_at "go"
    rw [cut_to (by omega), ← List.map_take] at L
    walk_at "go"
    obtain ⟨b, eb⟩ : ∃ b : Int, b = (if (if ((ns.map V.int).length : Int) < m then ((ns.map V.int).length : Int) else m) > 1 then (if ((ns.map V.int).length : Int) < m then ((ns.map V.int).length : Int) else m) else 1) := ⟨_, rfl⟩
    have hb0 : 1 ≤ b := by rw [eb]; split <;> omega
    have hb1 : b ≤ m := by rw [eb]; split <;> first | omega | (split <;> omega)
    rw [← eb] at L
    rw [cut_to (by omega), show (ns.take m.toNat).map V.int ++ [V.int 0] = (ns.take m.toNat ++ [0]).map V.int by rw [List.map_append]; rfl, ← List.map_take] at L
    refine q _ _ _ ?_ L.fresh0 L.get0 L.same
    rw [List.length_take]
    omega
abbrev s__law_tree : Stmt := top 26
theorem sc__law_tree : FnScope ["cell", "most", "many", "shape", "called", "parents", "k", "one", "some"] ["cell", "most"] (defScope s__law_tree) := ⟨rfl, rfl, rfl, by decide +kernel, rfl, by decide +kernel, by decide +kernel⟩
theorem ok_tree (X : Tx K mg "_law_tree" s__law_tree ["cell", "most"]) (T : Txt mg) (G_law_stir : Df P w K mg base "_law_stir" ["cell", "k"] 1 spStir) (G_law_order : Df P w K mg base "_law_order" ["cell", "base", "many"] 2 spOrder) :
    Df P w K mg base "_law_tree" ["cell", "most"] 3 spTree := by
  have nd := sc__law_tree.nd
  refine X.ok (k := 2) sc__law_tree (fun vs H Q E h => ?_) (fun f cdv A outer s H vs Q E hr h => ?_)
  · obtain ⟨c, m, rfl, _⟩ := h; rfl
  · obtain ⟨c, m, rfl, hm, hm2, q⟩ := h
    have L := Led.start (H := H)
    refine ⟨_, (pss_cons (ps_set (i := 2) nd rfl (by first | exact Or.inl rfl | exact Or.inr rfl) (pe_callB (call_min2 rfl) (by rfl) T.b_min (by decide +kernel) (pa_cons (pv 1) (pa_cons (pe_op op_add pe_int (pe_op op_mod (pe_cd (G_law_stir.mono (by decide)) hr (by rfl) (pa_cons (pv 0) (pa_cons pe_int pa_nil))) (pe_ix ix_list (pe_lst (pa_cons pe_int (pa_cons pe_int (pa_cons pe_int (pa_cons (pv 1) pa_nil))))) (pe_op op_mod (pe_cd (G_law_stir.mono (by decide)) hr (by rfl) (pa_cons (pv 0) (pa_cons pe_int pa_nil))) pe_int) (fun _ _ => rfl)))) pa_nil))))
      (pss_cons (ps_set (i := 3) nd rfl (by first | exact Or.inl rfl | exact Or.inr rfl) (pe_op op_mod (pe_cd (G_law_stir.mono (by decide)) hr (by rfl) (pa_cons (pv 0) (pa_cons pe_int pa_nil))) pe_int))
      (pss_cons (ps_set (i := 4) nd rfl (by first | exact Or.inl rfl | exact Or.inr rfl) (pe_lrng (by rfl) (by rfl) T.b_list (by rfl) T.b_range (pa_cons (pv 2) pa_nil)))
      (pss_cons (ps_j (ps_if (pt_cmpR op_gt (pe_op op_mod (pe_cd (G_law_stir.mono (by decide)) hr (by rfl) (pa_cons (pv 0) (pa_cons pe_int pa_nil))) pe_int) pe_int (nomark _))
      (pss_one (ps_set (i := 4) nd rfl (by first | exact Or.inl rfl | exact Or.inr rfl) (pe_cd (G_law_order.mono (by decide)) hr (by rfl) (pa_cons (pv 0) (pa_cons pe_int (pa_cons (pv 2) pa_nil))))))
      pss_nil))
      (pss_cons (ps_set (i := 5) nd rfl (by first | exact Or.inl rfl | exact Or.inr rfl) (pe_op op_rep (pe_lst (pa_cons pe_non pa_nil)) (pv 2)))
      (pss_cons (ps_for PassesOwn.never rfl (pi_range2 (by rfl) T.b_range (pa_cons pe_int (pa_cons (pv 2) pa_nil))) (pg_name (i := 6) nd rfl (by first | exact Or.inl rfl | exact Or.inr rfl))
      (pss_cons (ps_set (i := 7) nd rfl (by first | exact Or.inl rfl | exact Or.inr rfl) (pe_cd (G_law_stir.mono (by decide)) hr (by rfl) (pa_cons (pv 0) (pa_cons (pe_op op_add pe_int (pv 6)) pa_nil))))
        (pss_cons (ps_set (i := 8) nd rfl (by first | exact Or.inl rfl | exact Or.inr rfl) (pe_lst (pa_cons (pe_op op_sub (pv 6) pe_int) (pa_cons pe_int (pa_cons (pe_op op_mod (pv 7) (pv 6)) (pa_cons (pe_callB (call_max2 rfl) (by rfl) T.b_max (by decide +kernel) (pa_cons pe_int (pa_cons (pe_op op_sub (pe_op op_sub (pv 6) pe_int) (pe_op op_mod (pv 7) pe_int)) pa_nil))) (pa_cons (pe_op op_fdiv (pe_op op_sub (pv 6) pe_int) pe_int) (pa_cons (pe_callB (call_max2 rfl) (by rfl) T.b_max (by decide +kernel) (pa_cons pe_int (pa_cons (pe_op op_sub (pv 6) pe_int) pa_nil))) pa_nil))))))))
        (pss_one (ps_asg (pe_ix ix_list (pv 4) (pe_ix ix_list (pv 8) (pv 3) (fun _ _ => rfl)) (fun _ _ => rfl)) (pg_sub (pv 5) (pe_ix ix_list (pv 4) (pv 6) (fun _ _ => rfl)) set_list))))))
      (pss_one (ps_ret (pv 5))))))))), ?_⟩
    rw [show start ["cell", "most", "many", "shape", "called", "parents", "k", "one", "some"] [(.int c), (.int m)] = [some (.int c), some (.int m), none, none, none, none, none, none, none] from rfl]
    walk_at "go"
    walk_at "stir"
    walk_at "go"
    walk_at "stir"
    walk_at "go"
    have hz0' := hz0
    have hz1' := hz1
    refine r_sel (by walk_at "hb sql") (Int.emod_nonneg _ (by decide)) (by have := Int.emod_lt_of_pos z (show (0 : Int) < 4 by decide); simp; omega) fun v _ hv => ?_
    obtain ⟨wide, rfl, hw0, hw1⟩ : ∃ n : Int, v = .int n ∧ 1 ≤ n ∧ n ≤ 200 := by
      simp only [List.mem_cons, List.not_mem_nil, or_false] at hv
      rcases hv with rfl | rfl | rfl | rfl <;> exact ⟨_, rfl, by omega, by omega⟩
    rename_i z0 _ _ _
    have hzm : 0 ≤ z0 % wide := Int.emod_nonneg _ (by omega)
    walk_at "go"
    generalize en : (if 1 + z0 % wide < m then 1 + z0 % wide else m) = n
    have hn0 : 1 ≤ n := by rw [← en]; split <;> omega
    have hn1 : n ≤ m := by rw [← en]; split <;> omega
    walk_at "stir"
    rename_i z3 _ _ _ _ _
    have hs0 : 0 ≤ z % 6 := Int.emod_nonneg _ (by decide)
    have hs1 : z % 6 < 6 := Int.emod_lt_of_pos _ (by decide)
    walk_at "go"
    generalize z % 6 = sh at hs0 hs1 ⊢
    replace L := L.drop1
    refine r_js (fun σ H1 => ∃ (ks : List Nat) (pc : Addr), σ = [some (.int c), some (.int m), some (.int n), some (.int sh), some (.ref pc), none, none, none, none] ∧ Led H [] H1 [(pc, .lst (natsV ks))] ∧ ks.Perm (List.range n.toNat)) (fun nx hnx => ?_) ?_
    · walk_at "go"
      walk_at "stir"
      walk_at "go"
      refine r_if (fun hb => ?_) (fun hb => ?_)
      · walk_at "go"
        refine uOrder (by decide) (by decide) (by omega) (by omega) (fun ks q H1 hp nx hq sm => ?_)
        replace L := (L.callNew sm nx hq).drop1
        walk_at "go"
        exact hnx _ _ ⟨ks, q, rfl, L, hp⟩
      · walk_at "go"
        exact hnx _ _ ⟨_, _, rfl, L, List.Perm.refl _⟩
    · rintro σ H1 ⟨ks, pc, rfl, L, hp⟩
      have hkl : ks.length = n.toNat := by rw [hp.length_eq, List.length_range]
      walk_at "go"
      replace L := L.drop1
      refine f_rngX (lo := 1) (hi := n) (by omega) (by omega) (by omega) (by omega) (fun i σ H1 => ∃ (ps : List (Option Nat)) (v1 v2 v3 : Option V), σ = [some (.int c), some (.int m), some (.int n), some (.int sh), some (.ref pc), some (.ref p), v1, v2, v3] ∧
        Led H [] H1 [(p, .lst (ps.map oV)), (pc, .lst (natsV ks))] ∧ TrTo n.toNat (i + 1) ps ks) ?_ ?_ ?_
      · refine ⟨_, none, none, none, rfl, ?_, TrTo.start hp⟩
        rw [List.map_replicate]
        exact L
      · rintro i σ H1 hi ⟨ps, v1, v2, v3, rfl, L, ht⟩
        walk_at "go"
        walk_at "stir"
        have h3 : 0 ≤ z % (1 + (i : Int)) := Int.emod_nonneg _ (by omega)
        have h4 : z % (1 + (i : Int)) < 1 + i := Int.emod_lt_of_pos _ (by omega)
        have h5 : 0 ≤ z % 3 := Int.emod_nonneg _ (by decide)
        walk_at "go"
        refine r_sel (by walk_at "hb sql") hs0 (by simp; omega) fun v _ hv => ?_
        obtain ⟨j, rfl, hj⟩ : ∃ j : Nat, v = .int j ∧ j < i + 1 := by
          simp only [List.mem_cons, List.not_mem_nil, or_false] at hv
          have key : ∀ t : Int, 0 ≤ t → t < i + 1 → ∃ j : Nat, V.int t = .int j ∧ j < i + 1 := fun t t0 t1 => ⟨t.toNat, by rw [Int.toNat_of_nonneg t0], by omega⟩
          rcases hv with rfl | rfl | rfl | rfl | rfl | rfl
          · exact key _ (by omega) (by omega)
          · exact key _ (by omega) (by omega)
          · exact key _ h3 (by omega)
          · exact key _ (by split <;> omega) (by split <;> omega)
          · exact key _ (by omega) (by omega)
          · exact key _ (by split <;> omega) (by split <;> omega)
        refine r_nat (by walk_at "hb sql") (by omega) (by omega) fun y ey => ?_
        walk_at "go"
        refine r_nat (by walk_at "hb sql") (by omega) (by omega) fun x ex => ?_
        have ey' : ks[j]? = some y := by simpa using ey
        have ex' : ks[i + 1]? = some x := by rw [← ex]; congr 1; omega
        refine' r_setL (by walk_at "hb h") (ix_lit (j := x) rfl (by rw [List.length_map, ht.len]; exact ht.lt ex')) fun H2 ex => ?_
        walk_at "hb put"
        walk_at "go"
        refine ⟨ps.set x (some y), _, _, _, rfl, ?_, ht.step (by omega) hj ex' ey'⟩
        rw [List.map_set]
        exact L.drop0
      · rintro σ H1 ⟨ps, v1, v2, v3, rfl, L, ht⟩
        walk_at "go"
        have e : (n - 1).toNat + 1 = n.toNat := by omega
        rw [e] at ht
        exact q ps ks p H1 (ht.tr (by omega)) (by rw [ht.len]; omega) L.fresh0 L.get0 L.same

end
end H36


set_option Elab.async false
set_option linter.all false
set_option maxRecDepth 100000
set_option maxHeartbeats 8000000

namespace H36
open PySem L2 Hb
section
variable {P : Program} {w : World} {K : PySem.W.Frag} {mg : Str → Option Value} {base : Heap}
abbrev s__law_hues : Stmt := top 27
theorem sc__law_hues : FnScope ["cell", "many", "kind", "found", "k", "one"] ["cell", "many"] (defScope s__law_hues) := ⟨rfl, rfl, rfl, by decide +kernel, rfl, by decide +kernel, by decide +kernel⟩
theorem ok_lhuesC (X : Tx K mg "_law_hues" s__law_hues ["cell", "many"]) (T : Txt mg) (G_law_stir : Df P w K mg base "_law_stir" ["cell", "k"] 1 spStir) : Df P w K mg base "_law_hues" ["cell", "many"] 2 spLHuesC := by
  have nd := sc__law_hues.nd
  refine X.ok (k := 1) sc__law_hues (fun vs H Q E h => ?_) (fun f cdv A outer s H vs Q E hr h => ?_)
  · obtain ⟨c, n, rfl, _⟩ := h; rfl
  · obtain ⟨c, n, rfl, hn, q⟩ := h
    have L := Led.start (H := H)
    refine ⟨_, (pss_cons (ps_set (i := 2) nd rfl (by first | exact Or.inl rfl | exact Or.inr rfl) (pe_op op_mod (pe_cd (G_law_stir.mono (by decide)) hr (by rfl) (pa_cons (pv 0) (pa_cons pe_int pa_nil))) pe_int))
      (pss_cons (ps_set (i := 3) nd rfl (by first | exact Or.inl rfl | exact Or.inr rfl) (pe_lst pa_nil))
      (pss_cons (ps_for PassesOwn.never rfl (pi_range1 (by rfl) T.b_range (pa_cons (pv 1) pa_nil)) (pg_name (i := 4) nd rfl (by first | exact Or.inl rfl | exact Or.inr rfl))
      (pss_cons (ps_set (i := 5) nd rfl (by first | exact Or.inl rfl | exact Or.inr rfl) (pe_cd (G_law_stir.mono (by decide)) hr (by rfl) (pa_cons (pv 0) (pa_cons (pe_op op_add pe_int (pv 4)) pa_nil))))
        (pss_one (ps_expr (pe_bm PySem.F.plainAttrs_list PySem.F.slot_list_append PySem.F.type_list_append mt_append (pv 3) (pa_cons (pe_ix ix_list (pe_lst (pa_cons (pe_op op_mod (pv 5) pe_int) (pa_cons (pe_op op_sub (pe_op op_mod (pv 5) pe_int) pe_int) (pa_cons (pe_op op_mul (pe_op op_sub (pv 5) pe_int) (pe_op op_pow pe_int pe_int)) (pa_cons (pe_op op_sub (pe_op op_mul pe_int (pv 4)) pe_int) (pa_cons (pe_op op_mod (pv 5) pe_int) pa_nil)))))) (pv 2) (fun _ _ => rfl)) pa_nil))))))
      (pss_one (ps_ret (pv 3)))))), ?_⟩
    rw [show start ["cell", "many", "kind", "found", "k", "one"] [(.int c), (.int n)] = [some (.int c), some (.int n), none, none, none, none] from rfl]
    walk_at "go"
    walk_at "stir"
    walk_at "go"
    obtain ⟨kd, hkd⟩ : ∃ kd : Int, kd = z % 5 := ⟨_, rfl⟩
    have hk0 : 0 ≤ kd := by rw [hkd]; exact Int.emod_nonneg _ (by decide)
    have hk1 : kd < 5 := by rw [hkd]; exact Int.emod_lt_of_pos _ (by decide)
    rw [← hkd]
    walk_at "go"
    obtain ⟨pf, rfl⟩ : ∃ pf, pf = p := ⟨p, rfl⟩
    refine f_rng1 (by omega) (by omega) (fun i σ H1 => ∃ (ns : List Int) (kv nv : Option V), σ = [some (.int c), some (.int (n : Nat)), some (.int kd), some (.ref pf), kv, nv] ∧ Led H [] H1 [(pf, .lst (intsV ns))] ∧ ns.length = i ∧ BndL ns) ?_ ?_ ?_
    · exact ⟨[], _, _, rfl, L, rfl, fun h hh => by cases hh⟩
    · rintro i σ H1 hi ⟨ns, kv, nv, rfl, L, hl, hb⟩
      walk_at "go"
      walk_at "stir"
      walk_at "go"
      refine r_sel (by walk_at "hb sql") hk0 (by simp; omega) fun v _ hv => ?_
      obtain ⟨n, rfl, hnb⟩ : ∃ n : Int, v = .int n ∧ n.natAbs < 4 * 10 ^ 29 := by
        simp only [List.mem_cons, List.not_mem_nil, or_false] at hv
        have e25 : (10 : Int) ^ (Int.toNat 25) = 10000000000000000000000000 := by decide
        rcases hv with rfl | rfl | rfl | rfl | rfl
        · exact ⟨_, rfl, by omega⟩
        · exact ⟨_, rfl, by omega⟩
        · refine ⟨_, rfl, ?_⟩
          rw [e25]
          omega
        · exact ⟨_, rfl, by omega⟩
        · exact ⟨_, rfl, by omega⟩
      walk_at "go"
      refine ⟨ns ++ [n], _, _, rfl, ?_, by simp [hl], fun h hh => ?_⟩
      · rw [intsV_snoc]
        exact L.drop0
      · rcases List.mem_append.mp hh with hh | hh
        · exact hb h hh
        · have : h = n := by simpa using hh
          rw [this]; exact hnb
    · rintro σ H1 ⟨ns, kv, nv, rfl, L, hl, hb⟩
      walk_at "go"
      exact q ns _ H1 (by omega) hb L.fresh0 L.get0 L.same
abbrev s__law_text : Stmt := top 33
theorem sc__law_text : FnScope ["parents", "hues", "words", "parent", "hue"] ["parents", "hues"] (defScope s__law_text) := ⟨rfl, rfl, rfl, by decide +kernel, rfl, by decide +kernel, by decide +kernel⟩
theorem ok_ltext (X : Tx K mg "_law_text" s__law_text ["parents", "hues"]) (T : Txt mg) : Df P w K mg base "_law_text" ["parents", "hues"] 1 spText := by
  have nd := sc__law_text.nd
  refine X.ok (k := 0) sc__law_text (fun vs H Q E h => ?_) (fun fa cdv AA outer s H vs Q E hr h => ?_)
  · obtain ⟨a, b, ps, ks, hs, rfl, _⟩ := h; rfl
  · obtain ⟨a, b, ps, ks, hs, rfl, ha, hbb, hl, ht, hh, hb, k⟩ := h
    have L := Led.start (H := H)
    refine ⟨_, (pss_cons (ps_set (i := 2) nd rfl (by first | exact Or.inl rfl | exact Or.inr rfl) (pe_lst pa_nil))
      (pss_cons (ps_for PassesOwn.never rfl (pi_zip (by rfl) T.b_zip (pa_cons (pv 0) (pa_cons (pv 1) pa_nil))) (pg_tup (by rfl) (pgs_cons (pg_name (i := 3) nd rfl (by first | exact Or.inl rfl | exact Or.inr rfl)) (pgs_cons (pg_name (i := 4) nd rfl (by first | exact Or.inl rfl | exact Or.inr rfl)) pgs_nil)))
      (pss_one (ps_expr (pe_bm PySem.F.plainAttrs_list PySem.F.slot_list_append PySem.F.type_list_append mt_append (pv 2) (pa_cons (pe_op op_add_str (pe_op op_add_str (pe_ix ix_list (pe_lst (pa_cons pe_str (pa_cons (pe_callTy call_strQ (by rfl) T.b_str (by decide +kernel) (pa_cons (pv 3) pa_nil)) pa_nil))) (pe_callTy call_int1 (by rfl) T.b_int (by decide +kernel) (pa_cons (pe_cmpR op_notN (pv 3) pe_non (nomark _)) pa_nil)) (fun _ _ => rfl)) pe_str) (pe_callTy call_strQ (by rfl) T.b_str (by decide +kernel) (pa_cons (pv 4) pa_nil))) pa_nil)))))
      (pss_one (ps_ret (pe_m1 PySem.F.slot_str_join PySem.F.type_str_join (show MtR _ _ (rJoin K) from mt_join) pe_str (pv 2)))))), ?_⟩
    rw [show start ["parents", "hues", "words", "parent", "hue"] [(.ref a), (.ref b)] = [some (.ref a), some (.ref b), none, none, none] from rfl]
    walk_at "go"
    obtain ⟨pw, rfl⟩ : ∃ pw, pw = p := ⟨p, rfl⟩
    refine f_zipS (xs := ps.map oV) (ys := intsV hs) (fun i σ H1 => ∃ o3 o4 : Option V, σ = [some (.ref a), some (.ref b), some (.ref pw), o3, o4] ∧ Led H [] H1 [(pw, .lst (strsV ((wordsN ps hs).take i)))]) (SqL.of (L.oldE ha)) (SqL.of (L.oldE hbb)) (by rw [List.length_map, List.length_map]; omega) ⟨_, _, rfl, L⟩ ?_ ?_ ?_
    · rintro i σ H1 _ ⟨o3, o4, rfl, L⟩
      exact ⟨SqL.of (L.oldE ha), SqL.of (L.oldE hbb)⟩
    · rintro i x y σ H1 T1 H2 hx hy ⟨o3, o4, rfl, L⟩ nx ex
      obtain ⟨o, eo, rfl⟩ := opt_at hx
      obtain ⟨h, eh, rfl⟩ := int_at hy
      have hi := (List.getElem?_eq_some_iff.mp eo).1
      have ho := fun p e => tr_small ht (by omega) o (List.mem_of_getElem? eo) p e
      have hbh := hb h (List.mem_of_getElem? eh)
      have hal := abov_len ho
      have hsl := len_sg hbh
      walk_at "hb new"
      have ew : strsV ((wordsN ps hs).take (i + 1)) = strsV ((wordsN ps hs).take i) ++ [V.str (pwS o h)] := by
        rw [List.take_add_one, words_at eo eh]; exact List.map_append
      have hc1 : (Str.ofString ":").length = 1 := by decide +kernel
      have hm1 : (Str.ofString "-").length = 1 := by decide +kernel
      have hwl := words_len hh
      cases o with
      | none =>
        walk_at "go"
        refine r_strN ?_
        walk_at "go"
        walk_at "wt"
        refine ⟨small_s (by omega), ?_⟩
        walk_at "go"
        refine r_strI (log_small hbh) ?_
        walk_at "wt"
        refine ⟨small_s (by rw [TL.len_tl, TL.tl_append, List.length_append, ← TL.len_tl, ← TL.len_tl]; omega), ?_⟩
        walk_at "go"
        refine ⟨_, _, rfl, ?_⟩
        rw [ew]
        exact L.drop0.drop0
      | some q =>
        have hq1 : (sg (q : Nat)).length ≤ 30 := hal
        walk_at "go"
        refine r_strI (log_small (by have := ho q rfl; omega)) ?_
        walk_at "wt"
        refine ⟨small_s (by omega), ?_⟩
        walk_at "go"
        refine r_strI (log_small hbh) ?_
        walk_at "wt"
        refine ⟨small_s (by rw [TL.len_tl, TL.tl_append, List.length_append, ← TL.len_tl, ← TL.len_tl]; omega), ?_⟩
        walk_at "go"
        refine ⟨_, _, rfl, ?_⟩
        rw [ew]
        exact L.drop0.drop0
    · rintro σ H1 ⟨o3, o4, rfl, L⟩
      rw [intsV, List.length_map, hh, ← words_len hh, List.take_length] at L
      walk_at "wt"
      refine r_joinL (SqL.of L.get0) (by have := sum_words (tr_small ht (by omega)) hb (by omega); omega) ?_
      walk_at "wt"
      exact k _ L.same
abbrev s__law_same : Stmt := top 28
theorem sc__law_same : FnScope ["found", "due", "one", "other"] ["found", "due"] (defScope s__law_same) := ⟨rfl, rfl, rfl, by decide +kernel, rfl, by decide +kernel, by decide +kernel⟩
theorem ok_lsame (X : Tx K mg "_law_same" s__law_same ["found", "due"]) (T : Txt mg) : ∀ n, Df P w K mg base "_law_same" ["found", "due"] n (spSame n) := by
  intro n
  induction n with
  | zero => exact X.none.imp fun vs H Q E h => by obtain ⟨x, y, _, h, _⟩ := h; cases h
  | succ n G_law_same =>
    have nd := sc__law_same.nd
    refine X.ok (k := n) sc__law_same (fun vs H Q E h => ?_) (fun f cdv A outer s H vs Q E hr h => ?_)
    · obtain ⟨x, y, rfl, _⟩ := h; rfl
    · obtain ⟨x, y, rfl, h, k⟩ := h
      have L := Led.start (H := H)
      refine ⟨_, (pss_cons (ps_if (pt_cmpR op_isN (pv 1) pe_non (nomark _))
      (pss_one (ps_ret (pe_cmpR op_isN (pv 0) pe_non (nomark _))))
      pss_nil)
      (pss_cons (ps_if (pt_val (pe_callB call_isi (by rfl) T.b_isinstance (by decide +kernel) (pa_cons (pv 1) (pa_cons (pe_bltn (v := V.ty "str") (by rfl) T.b_str (by decide +kernel) rfl) pa_nil))))
      (pss_one (ps_ret (pe_and (pe_callB call_isi (by rfl) T.b_isinstance (by decide +kernel) (pa_cons (pv 0) (pa_cons (pe_bltn (v := V.ty "str") (by rfl) T.b_str (by decide +kernel) rfl) pa_nil))) (pe_one (pe_cmpR op_eq (pv 0) (pv 1) (nomark _))))))
      pss_nil)
      (pss_cons (ps_if (pt_val (pe_callB call_isiB (by rfl) T.b_isinstance (by decide +kernel) (pa_cons (pv 1) (pa_cons (pe_tup (pa_cons (pe_bltn (v := V.ty "list") (by rfl) T.b_list (by decide +kernel) rfl) (pa_cons (pe_bltn (v := V.ty "tuple") (by rfl) T.b_tuple (by decide +kernel) rfl) pa_nil))) pa_nil))))
      (pss_cons (ps_if (PW.pt (pw_or (pt_cmpR op_ne (pe_callB call_isi (by rfl) T.b_isinstance (by decide +kernel) (pa_cons (pv 0) (pa_cons (pe_bltn (v := V.ty "list") (by rfl) T.b_list (by decide +kernel) rfl) pa_nil))) (pe_callB call_isi (by rfl) T.b_isinstance (by decide +kernel) (pa_cons (pv 1) (pa_cons (pe_bltn (v := V.ty "list") (by rfl) T.b_list (by decide +kernel) rfl) pa_nil))) (nomark _)) (pw_or1 (pt_not (pt_val (pe_callB call_isiB (by rfl) T.b_isinstance (by decide +kernel) (pa_cons (pv 0) (pa_cons (pe_tup (pa_cons (pe_bltn (v := V.ty "list") (by rfl) T.b_list (by decide +kernel) rfl) (pa_cons (pe_bltn (v := V.ty "tuple") (by rfl) T.b_tuple (by decide +kernel) rfl) pa_nil))) pa_nil))))))))
        (pss_one (ps_ret pe_bl))
        pss_nil)
        (pss_cons (ps_if (pt_cmpR op_ne (pe_callB call_lenQ (by rfl) T.b_len PySem.boot_len (pa_cons (pv 0) pa_nil)) (pe_callB call_lenQ (by rfl) T.b_len PySem.boot_len (pa_cons (pv 1) pa_nil)) (nomark _))
        (pss_one (ps_ret pe_bl))
        pss_nil)
        (pss_one (ps_ret (pe_cmpR (op_eqD hr.units) (pe_lc (own := [("one", 2), ("other", 3)]) (g := gTup K 2 (gCons (gName 2) (gCons (gName 3) gNil))) (by rfl) nd (pi_zipQ (by rfl) T.b_zip (pa_cons (pv 0) (pa_cons (pv 1) pa_nil))) (blkOk_by (own := [("one", 2), ("other", 3)]) (N := ["found", "due", "one", "other"]) (sc := defScope s__law_same) (by decide +kernel)) (fun _ _ _ _ _ => (pg_tup (by rfl) (pgs_cons (pg_name (i := 2) nd rfl (by first | exact Or.inl rfl | exact Or.inr rfl)) (pgs_cons (pg_name (i := 3) nd rfl (by first | exact Or.inl rfl | exact Or.inr rfl)) pgs_nil)))) (fun _ _ _ _ _ => pts_one (pt_not (pt_val (pe_cd G_law_same hr (by rfl) (pa_cons (pv 2) (pa_cons (pv 3) pa_nil)))))) (fun _ _ _ _ _ => pe_int)) (pe_lst pa_nil) (nomark _))))))
      pss_nil)
      (pss_one (ps_ret (pe_and (pe_callB call_isi (by rfl) T.b_isinstance (by decide +kernel) (pa_cons (pv 0) (pa_cons (pe_bltn (v := V.ty "int") (by rfl) T.b_int (by decide +kernel) rfl) pa_nil))) (pe_and (pe_not (pe_callB call_isi (by rfl) T.b_isinstance (by decide +kernel) (pa_cons (pv 0) (pa_cons (pe_bltn (v := V.ty "bool") (by rfl) T.b_bool (by decide +kernel) rfl) pa_nil)))) (pe_one (pe_cmpR op_eq (pv 0) (pv 1) (nomark _)))))))))), ?_⟩
      rw [show start ["found", "due", "one", "other"] [(x), (y)] = [some (x), some (y), none, none] from rfl]
      cases h with
      | non =>
        walk_at "go"
        rw [decide_eq_true rfl]
        exact k _ L.same
      | str x =>
        walk_at "go"
        refine ⟨rfl, ?_⟩
        rw [decide_eq_true rfl]
        exact k _ L.same
      | int i =>
        walk_at "go"
        refine r_isiBI (by walk_at "hb h") ?_
        walk_at "go"
        rw [decide_eq_true rfl]
        exact k _ L.same
      | @lst _ a b xs ys h1 h2 h3 h4 h5 =>
        walk_at "go"
        refine r_isiBL (by walk_at "hb h") (by walk_at "hb h") ?_
        walk_at "go"
        refine r_neB ?_
        walk_at "go"
        refine r_noB rfl ?_
        walk_at "go"
        refine r_isiBL (by walk_at "hb h") (by walk_at "hb h") ?_
        walk_at "go"
        refine r_ifn (fun h => absurd (by rw [h3]) h) (fun _ => ?_)
        walk_at "go"
        refine c_zipL (xs := xs) (ys := ys) (SqL.of (L.old h1 (by simp))) (SqL.of (L.old h2 (by simp))) h3 (σw := [some (.ref a), some (.ref b), none, none]) (by rfl) (fun D i H1 => Led H [] H1 [(D, .lst [])]) ?_ ?_ ?_ ?_
        · intro D H1 nx ex
          exact (L.new nx ex).sub (.cons₂ _ (List.nil_sublist _))
        · intro D i H1 _ _ L
          exact ⟨SqL.of (L.old h1 (by simp)), SqL.of (L.old h2 (by simp))⟩
        · intro D i x y H1 T1 H2 nxD hx hy L nx ex
          walk_at "hb new"
          walk_at "go"
          refine ⟨rfl, ?_⟩
          walk_at "go"
          refine uSame ((h5 i x y hx hy).same L.same) (fun H3 s3 => ?_)
          walk_at "go"
          exact (L.call s3).drop0
        · intro D H1 nx L
          walk_at "go"
          refine r_eqSame (SqL.of L.get1) (SqL.of L.get0) rfl ?_
          walk_at "go"
          exact k _ L.same

      | @tup _ a b xs ys h1 h2 h3 h4 h5 =>
        walk_at "go"
        refine r_isiBT (by walk_at "hb h") (by walk_at "hb h") ?_
        walk_at "go"
        refine r_neB ?_
        walk_at "go"
        refine r_noB rfl ?_
        walk_at "go"
        refine r_isiBT (by walk_at "hb h") (by walk_at "hb h") ?_
        walk_at "go"
        refine r_ifn (fun h => absurd (by rw [h3]) h) (fun _ => ?_)
        walk_at "go"
        refine c_zipT (xs := xs) (ys := ys) (SqT.of (L.old h1 (by simp))) (SqT.of (L.old h2 (by simp))) h3 (σw := [some (.ref a), some (.ref b), none, none]) (by rfl) (fun D i H1 => Led H [] H1 [(D, .lst [])]) ?_ ?_ ?_ ?_
        · intro D H1 nx ex
          exact (L.new nx ex).sub (.cons₂ _ (List.nil_sublist _))
        · intro D i H1 _ _ L
          exact ⟨SqT.of (L.old h1 (by simp)), SqT.of (L.old h2 (by simp))⟩
        · intro D i x y H1 T1 H2 nxD hx hy L nx ex
          walk_at "hb new"
          walk_at "go"
          refine ⟨rfl, ?_⟩
          walk_at "go"
          refine uSame ((h5 i x y hx hy).same L.same) (fun H3 s3 => ?_)
          walk_at "go"
          exact (L.call s3).drop0
        · intro D H1 nx L
          walk_at "go"
          refine r_eqSame (SqL.of L.get1) (SqL.of L.get0) rfl ?_
          walk_at "go"
          exact k _ L.same

end
end H36


set_option Elab.async false
set_option linter.all false
set_option maxRecDepth 100000
set_option maxHeartbeats 8000000

namespace H36
open PySem L2 Hb
section
variable {P : Program} {w : World} {K : PySem.W.Frag} {mg : Str → Option Value} {base : Heap}
abbrev s__law_flags : Stmt := top 29
theorem sc__law_flags : FnScope ["e", "found"] ["e"] (defScope s__law_flags) := ⟨rfl, rfl, rfl, by decide +kernel, rfl, by decide +kernel, by decide +kernel⟩
theorem ok_flags {c1 c2 c3 c4 c5 c6 c7 c8 c9 : Addr} (X : Tx K mg "_law_flags" s__law_flags ["e"]) (T : TxtH mg c1 c2 c3 c4 c5 c6 c7 c8 c9) : DfN P w K mg base "_law_flags" ["e"] (spFlags K c1 c2 c3 c4 c5 c6 c7 c8 c9) := by
  have nd := sc__law_flags.nd
  refine X.okN sc__law_flags (fun vs H Q E h => ?_) (fun f cdv A outer s H vs Q E h => ?_)
  · obtain ⟨ea, C, j, rfl, _⟩ := h; rfl
  · obtain ⟨ea, C, j, rfl, he, fc, q⟩ := h
    obtain ⟨xi, k1, k2, k3, k4, k5, k6, k7, k8, k9, kv⟩ := fc
    have L := Led.start (H := H)
    refine ⟨_, (pss_cons (ps_set (i := 1) nd rfl (by first | exact Or.inl rfl | exact Or.inr rfl) (pe_lst (pa_cons (pe_callB call_isiX (by rfl) T.b_isinstance (by decide +kernel) (pa_cons (pv 0) (pa_cons (pe_glob (v := V.ref _) (by rfl) T.c_NoTree rfl) pa_nil))) (pa_cons (pe_callB call_isiX (by rfl) T.b_isinstance (by decide +kernel) (pa_cons (pv 0) (pa_cons (pe_glob (v := V.ref _) (by rfl) T.c_NoHues rfl) pa_nil))) (pa_cons (pe_callB call_isiX (by rfl) T.b_isinstance (by decide +kernel) (pa_cons (pv 0) (pa_cons (pe_glob (v := V.ref _) (by rfl) T.c_NoPlace rfl) pa_nil))) (pa_cons (pe_callB call_isiX (by rfl) T.b_isinstance (by decide +kernel) (pa_cons (pv 0) (pa_cons (pe_glob (v := V.ref _) (by rfl) T.c_NoPart rfl) pa_nil))) pa_nil))))))
      (pss_cons (ps_set (i := 1) nd rfl (by first | exact Or.inl rfl | exact Or.inr rfl) (pe_op op_cat (pv 1) (pe_lst (pa_cons (pe_callB call_isiX (by rfl) T.b_isinstance (by decide +kernel) (pa_cons (pv 0) (pa_cons (pe_glob (v := V.ref _) (by rfl) T.c_NoNumber rfl) pa_nil))) (pa_cons (pe_callB call_isiX (by rfl) T.b_isinstance (by decide +kernel) (pa_cons (pv 0) (pa_cons (pe_glob (v := V.ref _) (by rfl) T.c_NoLeaf rfl) pa_nil))) (pa_cons (pe_callB call_isiX (by rfl) T.b_isinstance (by decide +kernel) (pa_cons (pv 0) (pa_cons (pe_glob (v := V.ref _) (by rfl) T.c_NoText rfl) pa_nil))) (pa_cons (pe_callB call_isiX (by rfl) T.b_isinstance (by decide +kernel) (pa_cons (pv 0) (pa_cons (pe_glob (v := V.ref _) (by rfl) T.c_NoForm rfl) pa_nil))) pa_nil)))))))
      (pss_one (ps_ret (pe_op op_cat (pv 1) (pe_lst (pa_cons (pe_callB call_isiX (by rfl) T.b_isinstance (by decide +kernel) (pa_cons (pv 0) (pa_cons (pe_glob (v := V.ref _) (by rfl) T.c_NoneYet rfl) pa_nil))) (pa_cons (pe_not (pe_callB call_isiX (by rfl) T.b_isinstance (by decide +kernel) (pa_cons (pv 0) (pa_cons (pe_bltn (v := V.ty "ValueError") (by rfl) T.b_ValueError (by decide +kernel) rfl) pa_nil)))) pa_nil)))))))), ?_⟩
    rw [show start ["e", "found"] [(.ref ea)] = [some (.ref ea), none] from rfl]
    walk_at "go"
    exact q _ _ L.fresh0 L.get0 L.same
abbrev s__law_far : Stmt := top 30
theorem sc__law_far : FnScope ["cell", "k"] ["cell", "k"] (defScope s__law_far) := ⟨rfl, rfl, rfl, by decide +kernel, rfl, by decide +kernel, by decide +kernel⟩
theorem ok_far (X : Tx K mg "_law_far" s__law_far ["cell", "k"]) (G_law_stir : Df P w K mg base "_law_stir" ["cell", "k"] 1 spStir) : Df P w K mg base "_law_far" ["cell", "k"] 2 spFarS := by
  have nd := sc__law_far.nd
  refine X.ok (k := 1) sc__law_far (fun vs H Q E h => ?_) (fun f cdv A outer s H vs Q E hr h => ?_)
  · obtain ⟨c, k, rfl, _⟩ := h; rfl
  · obtain ⟨c, k, rfl, h0, h1, q⟩ := h
    have L := Led.start (H := H)
    refine ⟨_, (pss_one (ps_ret (pe_ix ix_list (pe_lst (pa_cons pe_int (pa_cons pe_int (pa_cons (pe_op op_mod (pe_cd (G_law_stir.mono (by decide)) hr (by rfl) (pa_cons (pv 0) (pa_cons (pe_op op_add (pv 1) pe_int) pa_nil))) pe_int) (pa_cons (pe_op op_pow pe_int pe_int) pa_nil))))) (pe_op op_mod (pe_cd (G_law_stir.mono (by decide)) hr (by rfl) (pa_cons (pv 0) (pa_cons (pv 1) pa_nil))) pe_int) (fun _ _ => rfl)))), ?_⟩
    rw [show start ["cell", "k"] [(.int c), (.int k)] = [some (.int c), some (.int k)] from rfl]
    walk_at "go"
    walk_at "stir"
    have hm : 0 ≤ z % 1000 := Int.emod_nonneg _ (by decide)
    walk_at "go"
    walk_at "stir"
    walk_at "go"
    refine r_sel (by walk_at "hb sql") (Int.emod_nonneg _ (by decide)) (by have := Int.emod_lt_of_pos z (show (0 : Int) < 4 by decide); simp; omega) fun v _ hv => ?_
    simp only [List.mem_cons, List.not_mem_nil, or_false] at hv
    walk_at "go"
    rcases hv with rfl | rfl | rfl | rfl
    · exact q _ _ (by decide) L.same
    · exact q _ _ (by decide) L.same
    · exact q _ _ hm L.same
    · exact q _ _ (by decide) L.same
abbrev s__law_is_tree : Stmt := top 31
theorem sc__law_is_tree : FnScope ["parents", "parent", "place", "here", "turn"] ["parents"] (defScope s__law_is_tree) := ⟨rfl, rfl, rfl, by decide +kernel, rfl, by decide +kernel, by decide +kernel⟩
theorem ok_isTreeS (X : Tx K mg "_law_is_tree" s__law_is_tree ["parents"]) (T : Txt mg) : Df P w K mg base "_law_is_tree" ["parents"] 1 spIsTreeJ := by
  have nd := sc__law_is_tree.nd
  refine X.ok (k := 0) sc__law_is_tree (fun vs H Q E h => ?_) (fun f cdv A outer s H vs Q E hr h => ?_)
  · obtain ⟨a, qs, rfl, _⟩ := h; rfl
  · obtain ⟨a, qs, rfl, ha, hl, qt, qf⟩ := h
    have L := Led.start (H := H)
    refine ⟨_, (pss_cons (ps_if (pt_cmpR (op_neD hr.units) (pe_lc (own := [("parent", 1)]) (g := gName 1) (by rfl) nd (pi_list (pv 0)) (blkOk_by (own := [("parent", 1)]) (N := ["parents", "parent", "place", "here", "turn"]) (sc := defScope s__law_is_tree) (by decide +kernel)) (fun _ _ _ _ _ => pg_name (i := 1) nd rfl (by first | exact Or.inl rfl | exact Or.inr rfl)) (fun _ _ _ _ _ => pts_one (pt_cmpR op_isN (pv 1) pe_non (nomark _))) (fun _ _ _ _ _ => pe_int)) (pe_lst (pa_cons pe_int pa_nil)) (nomark _))
      (pss_one (ps_ret pe_bl))
      pss_nil)
      (pss_cons (ps_for PassesOwn.never rfl (pi_range1 (by rfl) T.b_range (pa_cons (pe_callB call_lenQ (by rfl) T.b_len PySem.boot_len (pa_cons (pv 0) pa_nil)) pa_nil)) (pg_name (i := 2) nd rfl (by first | exact Or.inl rfl | exact Or.inr rfl))
      (pss_cons (ps_set (i := 3) nd rfl (by first | exact Or.inl rfl | exact Or.inr rfl) (pv 2))
        (pss_cons (ps_for PassesOwn.never rfl (pi_range1 (by rfl) T.b_range (pa_cons (pe_callB call_lenQ (by rfl) T.b_len PySem.boot_len (pa_cons (pv 0) pa_nil)) pa_nil)) (pg_name (i := 4) nd rfl (by first | exact Or.inl rfl | exact Or.inr rfl))
        (pss_one (ps_if (PW.pt (pw_and (pt_cmpR op_notN (pv 3) pe_non (nomark _)) (pw_and (pt_chain op_le op_lt pe_int (pv 3) (pe_callB call_lenQ (by rfl) T.b_len PySem.boot_len (pa_cons (pv 0) pa_nil))) (pw_and1 (pt_cmpR op_notN (pe_ix ix_list (pv 0) (pv 3) (fun _ _ => rfl)) pe_non (nomark _))))))
          (pss_one (ps_set (i := 3) nd rfl (by first | exact Or.inl rfl | exact Or.inr rfl) (pe_ix ix_list (pv 0) (pv 3) (fun _ _ => rfl))))
          pss_nil)))
        (pss_one (ps_if (PW.pt (pw_or (pt_not (pt_chain op_le op_lt pe_int (pv 3) (pe_callB call_lenQ (by rfl) T.b_len PySem.boot_len (pa_cons (pv 0) pa_nil)))) (pw_or1 (pt_cmpR op_notN (pe_ix ix_list (pv 0) (pv 3) (fun _ _ => rfl)) pe_non (nomark _)))))
        (pss_one (ps_ret pe_bl))
        pss_nil)))))
      (pss_one (ps_ret pe_bl)))), ?_⟩
    rw [show start ["parents", "parent", "place", "here", "turn"] [(.ref a)] = [some (.ref a), none, none, none, none] from rfl]
    walk_at "go"
    refine c_list (xs := qs.map oJ) (σw := [some (.ref a), none, none, none, none]) (by walk_at "hb sql") (by rfl) (fun D i H1 => Led H [] H1 [(D, .lst (List.replicate (rootsI qs i).length (V.int 1)))]) ?_ ?_ ?_ ?_
    · intro D H1 nx ex
      exact L.new nx ex
    · intro D i H1 _ _ L
      exact SqL.of (L.old ha (by simp))
    · intro D i x H1 nxD hx L
      obtain ⟨o, ho, rfl⟩ := optI_at hx
      have hi : i < qs.length := (List.getElem?_eq_some_iff.mp ho).1
      have hll : (rootsI qs i).length ≤ i := by unfold rootsI; exact Nat.le_trans (List.length_filter_le _ _) (by simp)
      cases o with
      | none =>
        walk_at "go"
        refine ⟨rfl, ?_⟩
        walk_at "go"
        rw [if_pos (by rfl)]
        walk_at "go"
        refine ⟨_, L.get0, small_lt (by rw [List.length_replicate]; omega), ?_⟩
        rw [rootsI_succ, if_pos ho, List.length_append, List.length_singleton, List.replicate_succ']
        exact L.put0 rfl
      | some j =>
        walk_at "go"
        refine ⟨rfl, ?_⟩
        walk_at "go"
        rw [if_neg (by intro z; cases z), rootsI_succ, if_neg (by rw [ho]; intro z; cases z), List.append_nil]
        exact L
    · intro D H1 nx L
      rw [List.length_map] at L
      walk_at "go"
      refine r_neOnes (SqL.of L.get1) (SqL.of L.get0) ?_
      walk_at "go"
      refine r_ifn (fun h => ?_) (fun hone => ?_)
      · walk_at "go"
        exact qf (fun hT => h hT.good.one) _ L.same
      · replace L := L.drop0.drop0
        walk_at "go"
        rw [List.length_map]
        refine f_rng1 (by omega) (by omega) (fun i σ H2 => ∃ v2 v3 v4 : Option V, σ = [some (.ref a), none, v2, v3, v4] ∧ Led H [] H2 [] ∧ ∀ x : Nat, x < i → ∃ r : Nat, climb qs qs.length x = r ∧ qs[r]? = some none) ⟨_, _, _, rfl, L, fun x hx => absurd hx (by omega)⟩ ?_ ?_
        · rintro i σ H2 hi ⟨v2, v3, v4, rfl, L, hall⟩
          walk_at "go"
          rw [List.length_map]
          refine f_rng1 (by omega) (by omega) (fun t σ H2 => ∃ v4 : Option V, σ = [some (.ref a), none, some (.int (i : Nat)), some (.int (climb qs t i)), v4] ∧ Led H [] H2 []) ⟨_, rfl, L⟩ ?_ ?_
          · rintro t σ H2 ht ⟨v4, rfl, L⟩
            obtain ⟨h, hc⟩ : ∃ h, h = climb qs t i := ⟨_, rfl⟩
            have hs : climb qs (t + 1) i = stepI qs h := by rw [hc]; rfl
            rw [← hc]
            walk_at "go"
            refine r_if (fun h0 => ?_) (fun h0 => ?_)
            · walk_at "go"
              rw [List.length_map]
              refine r_if (fun h1 => ?_) (fun h1 => ?_)
              · walk_at "go"
                obtain ⟨n, rfl⟩ : ∃ n : Nat, h = n := ⟨h.toNat, by omega⟩
                obtain ⟨o, eo⟩ : ∃ o, qs[n]? = some o := ⟨_, List.getElem?_eq_getElem (by omega)⟩
                refine r_selN (v := oJ o) (SqL.of (L.old ha (by simp))) (by rw [List.getElem?_map, eo]; rfl) ?_
                walk_at "go"
                cases o with
                | none =>
                  show if (!decide (V.non = V.non)) = true then _ else _
                  walk_at "go"
                  exact ⟨_, by rw [hs, step_none eo], L⟩
                | some y =>
                  show if (!decide (V.int y = V.non)) = true then _ else _
                  walk_at "go"
                  refine r_selN (v := V.int y) (SqL.of (L.old ha (by simp))) (by rw [List.getElem?_map, eo]; rfl) ?_
                  walk_at "go"
                  exact ⟨_, by rw [hs, step_some eo], L⟩
              · walk_at "go"
                exact ⟨_, by rw [hs, step_out (fun z => h1 z.2)], L⟩
            · walk_at "go"
              exact ⟨_, by rw [hs, step_out (fun z => h0 z.1)], L⟩
          · rintro σ H2 ⟨v4, rfl, L⟩
            rw [Int.toNat_natCast]
            obtain ⟨h, hc⟩ : ∃ h, h = climb qs qs.length i := ⟨_, rfl⟩
            rw [← hc]
            have no : (∀ r : Nat, h = r → qs[r]? = some none → False) → ¬ IsT qs := fun z hT => by
              obtain ⟨r, e1, e2⟩ := hT.good.all i (by omega)
              exact z r (by rw [hc, e1]) e2
            walk_at "go"
            refine r_if (fun h0 => ?_) (fun h0 => ?_)
            · walk_at "go"
              rw [List.length_map]
              refine r_ifn (fun h1 => ?_) (fun h1 => ?_)
              · walk_at "go"
                exact qf (no fun r e1 e2 => h1 (by have := (List.getElem?_eq_some_iff.mp e2).1; omega)) _ L.same
              · walk_at "go"
                obtain ⟨n, rfl⟩ : ∃ n : Nat, h = n := ⟨h.toNat, by omega⟩
                obtain ⟨o, eo⟩ : ∃ o, qs[n]? = some o := ⟨_, List.getElem?_eq_getElem (by omega)⟩
                refine r_selN (v := oJ o) (SqL.of (L.old ha (by simp))) (by rw [List.getElem?_map, eo]; rfl) ?_
                walk_at "go"
                cases o with
                | none =>
                  show if (!decide (V.non = V.non)) = true then _ else _
                  walk_at "go"
                  refine ⟨_, _, _, rfl, L, fun x hx => ?_⟩
                  by_cases hxi : x = i
                  · subst hxi
                    exact ⟨n, hc.symm, eo⟩
                  · exact hall x (by omega)
                | some y =>
                  show if (!decide (V.int y = V.non)) = true then _ else _
                  walk_at "go"
                  refine qf (no fun r e1 e2 => ?_) _ L.same
                  have : n = r := by omega
                  subst this
                  rw [eo] at e2
                  cases e2
            · walk_at "go"
              exact qf (no fun r e1 e2 => h0 (by omega)) _ L.same
        · rintro σ H2 ⟨v2, v3, v4, rfl, L, hall⟩
          walk_at "go"
          refine qt (Good.isT ⟨hone, fun x hx => hall x (by omega)⟩) _ L.same
end
end H36


set_option Elab.async false
set_option linter.all false
set_option maxRecDepth 100000
set_option maxHeartbeats 8000000

namespace H36
open PySem L2 Hb
section
variable {P : Program} {w : World} {K : PySem.W.Frag} {mg : Str → Option Value} {base : Heap}
abbrev s__law_no_trees : Stmt := top 32
theorem sc__law_no_trees : FnScope ["cell", "k", "parents", "many", "at", "to", "far", "root", "found", "parent", "turned", "shifted"] ["cell", "k", "parents"] (defScope s__law_no_trees) := ⟨rfl, rfl, rfl, by decide +kernel, rfl, by decide +kernel, by decide +kernel⟩
theorem ok_noTreesS (X : Tx K mg "_law_no_trees" s__law_no_trees ["cell", "k", "parents"]) (T : Txt mg) (G_law_stir : Df P w K mg base "_law_stir" ["cell", "k"] 1 spStir) (G_law_far : Df P w K mg base "_law_far" ["cell", "k"] 2 spFarS) : Df P w K mg base "_law_no_trees" ["cell", "k", "parents"] 3 spNoTreesS := by
  have nd := sc__law_no_trees.nd
  refine X.ok (k := 2) sc__law_no_trees (fun vs H Q E h => ?_) (fun f cdv A outer s H vs Q E hr h => ?_)
  · obtain ⟨c, k, a, ps, ks, rfl, _⟩ := h; rfl
  · obtain ⟨c, k, a, ps, ks, rfl, hk0, hk1, ha, hl, ht, q⟩ := h
    have L := Led.start (H := H)
    refine ⟨_, (pss_cons (ps_set (i := 3) nd rfl (by first | exact Or.inl rfl | exact Or.inr rfl) (pe_callB call_lenQ (by rfl) T.b_len PySem.boot_len (pa_cons (pv 2) pa_nil)))
      (pss_cons (ps_set (i := 4) nd rfl (by first | exact Or.inl rfl | exact Or.inr rfl) (pe_op op_mod (pe_cd (G_law_stir.mono (by decide)) hr (by rfl) (pa_cons (pv 0) (pa_cons (pv 1) pa_nil))) (pv 3)))
      (pss_cons (ps_set (i := 5) nd rfl (by first | exact Or.inl rfl | exact Or.inr rfl) (pe_op op_mod (pe_cd (G_law_stir.mono (by decide)) hr (by rfl) (pa_cons (pv 0) (pa_cons (pe_op op_add (pv 1) pe_int) pa_nil))) (pv 3)))
      (pss_cons (ps_set (i := 6) nd rfl (by first | exact Or.inl rfl | exact Or.inr rfl) (pe_cd (G_law_far.mono (by decide)) hr (by rfl) (pa_cons (pv 0) (pa_cons (pe_op op_add (pv 1) pe_int) pa_nil))))
      (pss_cons (ps_set (i := 7) nd rfl (by first | exact Or.inl rfl | exact Or.inr rfl) (pe_bm PySem.F.plainAttrs_list PySem.F.slot_list_index PySem.F.type_list_index mt_index (pv 2) (pa_cons pe_non pa_nil)))
      (pss_cons (ps_set (i := 8) nd rfl (by first | exact Or.inl rfl | exact Or.inr rfl) (pe_lst (pa_cons (pe_lst pa_nil) (pa_cons (pe_op op_rep (pe_lst (pa_cons pe_non pa_nil)) (pv 3)) (pa_cons (pe_op op_cat (pv 2) (pe_lst (pa_cons pe_non pa_nil))) (pa_cons (pe_op op_cat (pv 2) (pe_lst (pa_cons (pv 3) pa_nil))) (pa_cons (pe_op op_cat (pv 2) (pe_lst (pa_cons (pe_op op_add (pe_op op_add (pv 3) pe_int) (pv 6)) pa_nil))) (pa_cons (pe_slice sl_list (pv 2) po_none (po_some (pe_un un_neg pe_int))) pa_nil))))))))
      (pss_cons (ps_for PassesOwn.never rfl (pi_list (pe_lst (pa_cons pe_non (pa_cons (pv 4) (pa_cons (pe_un un_neg pe_int) (pa_cons (pe_op op_sub (pe_un un_neg pe_int) (pv 6)) (pa_cons (pv 3) (pa_cons (pe_op op_add (pv 3) (pv 6)) (pa_cons (pv 5) pa_nil))))))))) (pg_name (i := 9) nd rfl (by first | exact Or.inl rfl | exact Or.inr rfl))
      (pss_one (ps_expr (pe_bm PySem.F.plainAttrs_list PySem.F.slot_list_append PySem.F.type_list_append mt_append (pv 8) (pa_cons (pe_op op_cat (pe_op op_cat (pe_slice sl_list (pv 2) po_none (po_some (pv 4))) (pe_lst (pa_cons (pv 9) pa_nil))) (pe_slice sl_list (pv 2) (po_some (pe_op op_add (pv 4) pe_int)) po_none)) pa_nil)))))
      (pss_cons (ps_expr (pe_bm PySem.F.plainAttrs_list PySem.F.slot_list_append PySem.F.type_list_append mt_append (pv 8) (pa_cons (pe_op op_cat (pe_op op_cat (pe_slice sl_list (pv 2) po_none (po_some (pv 7))) (pe_lst (pa_cons (pv 5) pa_nil))) (pe_slice sl_list (pv 2) (po_some (pe_op op_add (pv 7) pe_int)) po_none)) pa_nil)))
      (pss_cons (ps_set (i := 10) nd rfl (by first | exact Or.inl rfl | exact Or.inr rfl) (pe_callTy call_listQ (by rfl) T.b_list (by decide +kernel) (pa_cons (pv 2) pa_nil)))
      (pss_cons (ps_asg (pe_tup (pa_cons (pe_ix ix_list (pv 2) (pv 5) (fun _ _ => rfl)) (pa_cons (pe_ix ix_list (pv 2) (pv 4) (fun _ _ => rfl)) pa_nil))) (pg_tup (by rfl) (pgs_cons (pg_sub (pv 10) (pv 4) set_list) (pgs_cons (pg_sub (pv 10) (pv 5) set_list) pgs_nil))))
      (pss_cons (ps_expr (pe_bm PySem.F.plainAttrs_list PySem.F.slot_list_append PySem.F.type_list_append mt_append (pv 8) (pa_cons (pv 10) pa_nil)))
      (pss_cons (ps_set (i := 11) nd rfl (by first | exact Or.inl rfl | exact Or.inr rfl) (pe_op op_cat (pe_op op_cat (pe_slice sl_list (pv 2) po_none (po_some (pv 7))) (pe_lst (pa_cons (pv 4) pa_nil))) (pe_slice sl_list (pv 2) (po_some (pe_op op_add (pv 7) pe_int)) po_none)))
      (pss_cons (ps_asg pe_non (pg_sub (pv 11) (pv 5) set_list))
      (pss_one (ps_ret (pe_op op_cat (pv 8) (pe_lst (pa_cons (pv 11) pa_nil)))))))))))))))))), ?_⟩
    rw [show start ["cell", "k", "parents", "many", "at", "to", "far", "root", "found", "parent", "turned", "shifted"] [(.int c), (.int k), (.ref a)] = [some (.int c), some (.int k), some (.ref a), none, none, none, none, none, none, none, none, none] from rfl]
    have hpos := ht.pos
    walk_at "go"
    walk_at "stir"
    rw [List.length_map]
    have ha0 : 0 ≤ z % ((ps.length : Nat) : Int) := Int.emod_nonneg _ (by omega)
    have ha1 : z % ((ps.length : Nat) : Int) < ps.length := Int.emod_lt_of_pos _ (by omega)
    walk_at "go"
    generalize z % ((ps.length : Nat) : Int) = atz at ha0 ha1 ⊢
    clear hz0 hz1 z
    obtain ⟨at_, rfl⟩ : ∃ n : Nat, atz = n := ⟨atz.toNat, by omega⟩
    walk_at "stir"
    have ht0 : 0 ≤ z % ((ps.length : Nat) : Int) := Int.emod_nonneg _ (by omega)
    have ht1 : z % ((ps.length : Nat) : Int) < ps.length := Int.emod_lt_of_pos _ (by omega)
    walk_at "go"
    generalize z % ((ps.length : Nat) : Int) = toz at ht0 ht1 ⊢
    clear hz0 hz1 z
    obtain ⟨to_, rfl⟩ : ∃ n : Nat, toz = n := ⟨toz.toNat, by omega⟩
    refine uFarS (by omega) (by omega) (fun far H1 hf s1 => ?_)
    replace L := L.call s1
    clear s1
    walk_at "go"
    obtain ⟨r, hr0, er⟩ := ht.rootsJ
    have hrn := ht.root r hr0
    have hrl := (List.getElem?_eq_some_iff.mp hrn).1
    refine r_index (j := r) (y := .non) (z := .non) (SqL.of (L.old ha (by simp))) rfl (flatV_oV ps) (by rw [List.getElem?_map, hrn]; rfl) rfl (fun m z' hm hz => ?_) ?_
    · obtain ⟨o, eo, rfl⟩ : ∃ o, ps[m]? = some o ∧ z' = oV o := by
        rw [List.getElem?_map] at hz
        cases e : ps[m]? with
        | none => rw [e] at hz; cases hz
        | some o => rw [e] at hz; exact ⟨o, rfl, (Option.some.inj hz).symm⟩
      cases o with
      | some y => rfl
      | none =>
        exfalso
        have : m ∈ rootsI (emb ps) (emb ps).length := by
          unfold rootsI
          rw [List.mem_filter, List.mem_range, decide_eq_true_eq, emb_none, emb_len]
          exact ⟨by omega, eo⟩
        rw [er] at this
        have : m = r := by simpa using this
        omega
    walk_at "go"
    rename_i p10 h10 p9 h9 p8 h8 p7 h7 p6 h6 p5 h5 p4 h4 p3 h3 p2 h2 p1 h1 pf hf1
    obtain ⟨pl, rfl⟩ : ∃ pl, pl = p := ⟨p, rfl⟩
    replace L := (L.sub (.cons₂ _ (.cons₂ _ (.cons₂ _ (.cons₂ _ (.cons _ (.cons₂ _ (.cons _ (.cons₂ _ (.cons _ (.cons₂ _ (.cons _ (.cons₂ _ .slnil))))))))))))).perm ((List.Perm.swap _ _ _).trans (((List.reverse_perm _).symm.cons _).cons _))
    have hOT := OLn.tree ps
    have hc1 := cutV_length (ps.map oV) none (some at_)
    have hc2 := cutV_length (ps.map oV) (some (at_ + 1)) none
    rw [List.length_map] at hc1 hc2
    refine f_list (xs := [V.non, V.int at_, V.int (-1), V.int (-1 - far), V.int (ps.length : Nat), V.int ((ps.length : Nat) + far), V.int to_]) (fun i σ H2 => ∃ (rs : List Addr) (css : List (List V)) (v9 : Option V), σ = [some (.int c), some (.int k), some (.ref a), some (.int (ps.length : Nat)), some (.int at_), some (.int to_), some (.int far), some (.int (r : Nat)), some (.ref pf), v9, none, none] ∧ rs.length = css.length ∧ rs.length ≤ 6 + i ∧ (∀ c ∈ css, OL c) ∧
      Led H [] H2 ((pf, .lst (rs.map V.ref)) :: (pl, .lst [V.non, V.int at_, V.int (-1), V.int (-1 - far), V.int (ps.length : Nat), V.int ((ps.length : Nat) + far), V.int to_]) :: rowsL rs css)) (SqL.of L.get1)
      ⟨[p10, p8, p6, p4, p2, p1], [[], List.replicate ((ps.length : Nat) : Int).toNat V.non, ps.map oV ++ [V.non], ps.map oV ++ [V.int (ps.length : Nat)], ps.map oV ++ [V.int ((ps.length : Nat) + 1 + far)], cutV (ps.map oV) none (some (-1))], _, rfl, rfl, by simp, ?_, L⟩ ?_ ?_ ?_
    · intro x hx
      simp only [List.mem_cons, List.not_mem_nil, or_false] at hx
      rcases hx with rfl | rfl | rfl | rfl | rfl | rfl
      · exact OLn.nil.mono (by omega)
      · exact (OLn.rep _).mono (by omega)
      · exact (hOT.app (OLn.one none)).mono (by omega)
      · exact (hOT.app (OLn.one (some _))).mono (by omega)
      · exact (hOT.app (OLn.one (some _))).mono (by omega)
      · exact (hOT.cut _ _).mono (by omega)
    · rintro i σ H2 _ ⟨rs, css, v9, rfl, _, _, _, L⟩
      exact SqL.of L.get1
    · rintro i x σ H2 hx ⟨rs, css, v9, rfl, hrc, hrl2, hcss, L⟩
      have hi7 : i < 7 := (List.getElem?_eq_some_iff.mp hx).1
      obtain ⟨o, rfl⟩ : ∃ o, x = oJ o := by
        have hm := List.mem_of_getElem? hx
        simp only [List.mem_cons, List.not_mem_nil, or_false] at hm
        rcases hm with rfl | rfl | rfl | rfl | rfl | rfl | rfl
        · exact ⟨none, rfl⟩
        all_goals exact ⟨some _, rfl⟩
      walk_at "go"
      exact ⟨rs ++ [p], _, _, rfl, by simp [hrc], by simp; omega, all_snoc hcss ((OLn.mid ha0 ha1 o).mono (by omega)), by rw [List.map_append]; exact rows_end1 hrc L.drop1.drop1.drop1.drop1⟩
    · rintro σ H2 ⟨rs, css, v9, rfl, hrc, hrl2, hcss, L⟩
      replace L := L.drop1
      have hrl2 : rs.length ≤ 13 := hrl2
      have hd1 := cutV_length (ps.map oV) none (some (r : Nat))
      have hd2 := cutV_length (ps.map oV) (some ((r : Nat) + 1)) none
      rw [List.length_map] at hd1 hd2
      walk_at "go"
      rename_i g0 j0 g1 j1 g2 j2 g3 j3 g4 j4 j5
      obtain ⟨px, rfl⟩ : ∃ px, px = p := ⟨p, rfl⟩
      have L0 := rows_end2 hrc L.drop2.drop2.drop2.drop2
      clear L
      have L := L0
      clear L0
      have hcss2 := all_snoc hcss ((OLn.mid (ps := ps) (b := (r : Nat)) (by omega) (by omega) (some to_)).mono (by omega : ps.length ≤ 200))
      obtain ⟨on, en⟩ : ∃ o, (emb ps)[at_]? = some o := ⟨_, List.getElem?_eq_getElem (by rw [emb_len]; omega)⟩
      obtain ⟨om, em⟩ : ∃ o, (emb ps)[to_]? = some o := ⟨_, List.getElem?_eq_getElem (by rw [emb_len]; omega)⟩
      refine r_selN (v := oJ om) (SqL.of (L.old ha (by simp))) (by rw [← map_emb, List.getElem?_map, em]; rfl) ?_
      walk_at "go"
      refine r_selN (v := oJ on) (SqL.of (L.old ha (by simp))) (by rw [← map_emb, List.getElem?_map, en]; rfl) ?_
      walk_at "go"
      refine r_setL (by walk_at "hb h") (ix_lit (j := at_) rfl (by rw [List.length_map]; omega)) fun H3 ex => ?_
      walk_at "hb put"
      walk_at "go"
      refine r_setL (by walk_at "hb h") (ix_lit (j := to_) rfl (by rw [List.length_set, List.length_map]; omega)) fun H4 ex => ?_
      walk_at "hb put"
      replace L := L.drop0
      walk_at "go"
      obtain ⟨pz, rfl⟩ : ∃ pz, pz = p := ⟨p, rfl⟩
      refine r_setL L.get0 (ix_lit (j := to_) rfl (by rw [mid_len (by omega) (by omega)]; omega)) fun H5 ex => ?_
      walk_at "hb put"
      replace L := L.drop1.drop1.drop1.drop1
      walk_at "go"
      have hl1 : (rs ++ [g4]).length = (css ++ [cutV (ps.map oV) none (some ((r : Nat) : Int)) ++ [V.int (to_ : Nat)] ++ cutV (ps.map oV) (some (((r : Nat) : Int) + 1)) none]).length := by simp [hrc]
      have L1 := (L.drop1.sub (.cons₂ _ (.cons₂ _ (.cons₂ _ (.cons _ (List.Sublist.refl _)))))).perm ((List.Perm.swap _ _ _).cons _)
      have L2 := rows_end0 (by simp [hrc]) (rows_end2 hl1 L1)
      refine q _ _ p _ ?_ (by simp) ?_ (all_snoc (all_snoc hcss2 (((hOT.set at_ om).set to_ on).mono (by omega))) (((OLn.mid (ps := ps) (b := (r : Nat)) (by omega) (by omega) (some ((at_ : Nat) : Int))).set to_ none).mono (by omega))) (fun i x c hx hc => L2.get (List.mem_cons_of_mem _ (rowsL_mem hx hc))) L2.fresh0 ?_ L2.same
      · simp [hrc]
      · simp; omega
      · rw [L2.get0]
        simp
end
end H36


set_option Elab.async false
set_option linter.all false
set_option maxRecDepth 100000
set_option maxHeartbeats 8000000

namespace H36
open PySem L2 Hb
section
variable {P : Program} {w : World} {K : PySem.W.Frag} {mg : Str → Option Value} {base : Heap}
abbrev s__law_refused : Stmt := top 34
theorem sc__law_refused : FnScope ["parents", "hues", "found", "handed", "e"] ["parents", "hues"] (defScope s__law_refused) := ⟨rfl, rfl, rfl, by decide +kernel, rfl, by decide +kernel, by decide +kernel⟩
theorem ok_refused {cH C D : Addr} {c1 c2 c3 c4 c5 c6 c7 c8 c9 : Addr} (X : Tx K mg "_law_refused" s__law_refused ["parents", "hues"]) (T : Txt mg) (x_HueError : XCls K mg "HueError" cH) {xn xm : Str} (xC : XCls K mg xn C) (hsub : subB K C cH = true) (xD : XCls K mg xm D) (hsubD : subB K D cH = true)
    (fcC : FlagC K c1 c2 c3 c4 c5 c6 c7 c8 c9 C 1) (fcD : FlagC K c1 c2 c3 c4 c5 c6 c7 c8 c9 D 2) (Gtree_text : DfE P w K mg base "tree_text" ["parents", "hues"] 6 spText (spTextJ C D))
    (G_law_flags : DfN P w K mg base "_law_flags" ["e"] (spFlags K c1 c2 c3 c4 c5 c6 c7 c8 c9)) : Df P w K mg base "_law_refused" ["parents", "hues"] 8 spRefT := by
  have nd := sc__law_refused.nd
  refine X.ok (k := 7) sc__law_refused (fun vs H Q E h => ?_) (fun f cdv A outer s H vs Q E hr h => ?_)
  · obtain ⟨a, b, qs, hs, rfl, _⟩ := h; rfl
  · obtain ⟨a, b, qs, hs, rfl, ha, hb, hl, hl2, hbd, k⟩ := h
    have L := Led.start (H := H)
    refine ⟨_, (pss_cons (ps_set (i := 2) nd rfl (by first | exact Or.inl rfl | exact Or.inr rfl) (pe_lst pa_nil))
      (pss_cons (ps_set (i := 3) nd rfl (by first | exact Or.inl rfl | exact Or.inr rfl) (pe_lst (pa_cons (pe_callTy call_listQ (by rfl) T.b_list (by decide +kernel) (pa_cons (pv 0) pa_nil)) (pa_cons (pe_callTy call_listQ (by rfl) T.b_list (by decide +kernel) (pa_cons (pv 1) pa_nil)) pa_nil))))
      (pss_cons (ps_j (ps_tryG (ie := 4) rfl rfl rfl x_HueError (by rfl) nd rfl rfl (fun _ _ z => z) rfl (px_callE (fun _ _ z => z) (Gtree_text.mono (by decide)) hr (by rfl) (pa_cons (pe_ix ix_list (pv 3) pe_int (fun _ _ => rfl)) (pa_cons (pe_ix ix_list (pv 3) pe_int (fun _ _ => rfl)) pa_nil))) (fun ea => (ps_set (i := 2) nd rfl (by first | exact Or.inl rfl | exact Or.inr rfl) (pe_cdN G_law_flags hr.depth (by rfl) (pa_cons (pv 4) pa_nil))))))
      (pss_cons (ps_if (pt_cmpR (op_neD hr.units) (pv 3) (pe_lst (pa_cons (pv 0) (pa_cons (pv 1) pa_nil))) (nomark _))
      (pss_one (ps_ret (pe_lst (pa_cons pe_str pa_nil))))
      pss_nil)
      (pss_one (ps_ret (pv 2))))))), ?_⟩
    rw [show start ["parents", "hues", "found", "handed", "e"] [(.ref a), (.ref b)] = [some (.ref a), some (.ref b), none, none, none] from rfl]
    walk_at "go"
    rename_i pf _ p1 _ p2 _
    obtain ⟨ph, rfl⟩ : ∃ ph, ph = p := ⟨p, rfl⟩
    refine r_js (fun σ H1 => ∃ (q : Addr) (j : Nat), σ = [some (.ref a), some (.ref b), some (.ref q), some (.ref ph), none] ∧ RefD qs hs 0 0 j ∧ Led H [] H1 [(q, .lst (outV j)), (ph, .lst [.ref p1, .ref p2]), (p2, .lst (intsV hs)), (p1, .lst (qs.map oJ))]) (fun nx hnx => ?_) ?_
    · have L0 := L.perm (List.perm_append_comm (l₁ := [(ph, HO.lst [V.ref p1, V.ref p2]), (p2, HO.lst (intsV hs)), (p1, HO.lst (List.map oJ qs))]) (l₂ := [(pf, HO.lst [])]))
      clear L
      have L : Led H [] _ [(pf, .lst []), (ph, .lst [.ref p1, .ref p2]), (p2, .lst (intsV hs)), (p1, .lst (qs.map oJ))] := L0
      clear L0
      walk_at "go"
      have h1 := L.get3
      have h2 := L.get2
      by_cases hg : IsT qs ∧ hs.length = qs.length
      · obtain ⟨hT, he⟩ := hg
        have he2 := he
        obtain ⟨ps, ks, rfl, ht⟩ := id hT
        have h1' := h1
        rw [map_emb] at h1'
        rw [emb_len] at hl he2
        refine Or.inl (uText h1' h2 hl ht he2 hbd (fun H2 s2 => ?_))
        have L3 := L.call s2
        walk_at "go"
        exact hnx _ _ ⟨pf, 0, rfl, .inr (.inr (.inr ⟨hT, he, .inl rfl, rfl⟩)), L3⟩
      · refine Or.inr (uTextJ h1 h2 (by omega) hl2 hg (fun hT he H2 s2 => ⟨D, rfl, ⟨_, _, xD⟩, hsubD, fun ea hea => ?_⟩) (fun hT H2 s2 => ⟨C, rfl, ⟨_, _, xC⟩, hsub, fun ea hea => ?_⟩))
        · have L2 := (L.call s2).new (o := excO ea D) hea rfl
          show tAsg _ _ _ [some (V.ref a), some (V.ref b), some (V.ref pf), some (V.ref ph), some (V.ref ea)] _
          walk_at "go"
          refine uFlags L2.get0 fcD (fun q1 H3 nx hq s3 => ?_)
          walk_at "go"
          have L3 := (L2.callNew s3 nx hq).drop1.drop1
          exact hnx _ _ ⟨q1, 2, rfl, (.inr (.inl ⟨hT, he, rfl⟩)), L3⟩
        · have L2 := (L.call s2).new (o := excO ea C) hea rfl
          show tAsg _ _ _ [some (V.ref a), some (V.ref b), some (V.ref pf), some (V.ref ph), some (V.ref ea)] _
          walk_at "go"
          refine uFlags L2.get0 fcC (fun q1 H3 nx hq s3 => ?_)
          walk_at "go"
          have L3 := (L2.callNew s3 nx hq).drop1.drop1
          exact hnx _ _ ⟨q1, 1, rfl, (.inl ⟨hT, rfl⟩), L3⟩
    · rintro σ H1 ⟨q, j, rfl, hj, L⟩
      have ha1 := L.old ha (by simp)
      have hb1 := L.old hb (by simp)
      walk_at "go"
      refine r_neTwo (SqL.of L.get2) (SqL.of L.get0) (SqL.of L.get4) (SqL.of L.get3) (SqL.of (L.old ha (by simp))) (SqL.of (L.old hb (by simp))) (flat_oJ qs) (flat_ints hs) ?_
      walk_at "go"
      exact k j q _ hj (L.freshM (List.Mem.tail _ (List.Mem.head _))) L.get1 L.same
end
end H36


set_option Elab.async false
set_option linter.all false
set_option maxRecDepth 100000
set_option maxHeartbeats 8000000

namespace H36
open PySem L2 Hb
section
variable {P : Program} {w : World} {K : PySem.W.Frag} {mg : Str → Option Value} {base : Heap}
abbrev s_law : Stmt := top 35
theorem sc_law : FnScope ["script", "cell", "parents", "hues", "handed", "turn", "some", "good", "there", "due", "k"] ["script"] (defScope s_law) := ⟨rfl, rfl, rfl, by decide +kernel, rfl, by decide +kernel, by decide +kernel⟩
theorem ok_law {fl : Addr} {fd : FuncData} (F : Fun K "law" "law" s_law fl fd) (T : Txt mg) (G_law_cells : Df P w K mg base "_law_cells" ["script", "many"] 1 (spCells K)) (G_law_tree : Df P w K mg base "_law_tree" ["cell", "most"] 3 spTree) (G_law_hues : Df P w K mg base "_law_hues" ["cell", "many"] 2 spLHuesC)
    (G_law_text : Df P w K mg base "_law_text" ["parents", "hues"] 1 spText) (Gtree_text : Df P w K mg base "tree_text" ["parents", "hues"] 6 spText) (G_law_same : Df P w K mg base "_law_same" ["found", "due"] 1 (spSame 1)) (G_law_no_trees : Df P w K mg base "_law_no_trees" ["cell", "k", "parents"] 3 spNoTreesS)
    (G_law_is_tree : Df P w K mg base "_law_is_tree" ["parents"] 1 spIsTreeJ) (G_law_refused : Df P w K mg base "_law_refused" ["parents", "hues"] 8 spRefT) :
    FnOk P w K mg base CX0 9 fl fd ["script"] (spLaw K) := by
  have nd := sc_law.nd
  refine F.ok (k := 8) sc_law (fun vs H Q E h => ?_) (fun cdv A outer s H vs Q E hr h => ?_)
  · obtain ⟨a, ns, rfl, _⟩ := h; rfl
  · obtain ⟨a, ns, rfl, hS, hl, kQ⟩ := h
    have L := Led.start (H := H)
    refine ⟨_, (pss_cons (ps_for PassesOwn.never rfl (pi_list (pe_cd (G_law_cells.mono (by decide)) hr (by rfl) (pa_cons (pv 0) (pa_cons pe_int pa_nil)))) (pg_name (i := 1) nd rfl (by first | exact Or.inl rfl | exact Or.inr rfl))
      (pss_cons (ps_set (i := 2) nd rfl (by first | exact Or.inl rfl | exact Or.inr rfl) (pe_cd (G_law_tree.mono (by decide)) hr (by rfl) (pa_cons (pv 1) (pa_cons pe_int pa_nil))))
        (pss_cons (ps_set (i := 3) nd rfl (by first | exact Or.inl rfl | exact Or.inr rfl) (pe_cd (G_law_hues.mono (by decide)) hr (by rfl) (pa_cons (pv 1) (pa_cons (pe_callB call_lenQ (by rfl) T.b_len PySem.boot_len (pa_cons (pv 2) pa_nil)) pa_nil))))
        (pss_cons (ps_set (i := 4) nd rfl (by first | exact Or.inl rfl | exact Or.inr rfl) (pe_lst (pa_cons (pe_callTy call_listQ (by rfl) T.b_list (by decide +kernel) (pa_cons (pv 2) pa_nil)) (pa_cons (pe_callTy call_listQ (by rfl) T.b_list (by decide +kernel) (pa_cons (pv 3) pa_nil)) pa_nil))))
        (pss_cons (ps_for PassesOwn.never rfl (pi_range1 (by rfl) T.b_range (pa_cons pe_int pa_nil)) (pg_name (i := 5) nd rfl (by first | exact Or.inl rfl | exact Or.inr rfl))
        (pss_one (ps_if (pt_not (pt_val (pe_cd (G_law_same.mono (by decide)) hr (by rfl) (pa_cons (pe_cd (Gtree_text.mono (by decide)) hr (by rfl) (pa_cons (pe_ix ix_list (pv 4) pe_int (fun _ _ => rfl)) (pa_cons (pe_ix ix_list (pv 4) pe_int (fun _ _ => rfl)) pa_nil))) (pa_cons (pe_cd (G_law_text.mono (by decide)) hr (by rfl) (pa_cons (pv 2) (pa_cons (pv 3) pa_nil))) pa_nil)))))
          (pss_one (ps_ret pe_bl))
          pss_nil)))
        (pss_cons (ps_if (pt_cmpR (op_neD hr.units) (pv 4) (pe_lst (pa_cons (pv 2) (pa_cons (pv 3) pa_nil))) (nomark _))
        (pss_one (ps_ret pe_bl))
        pss_nil)
        (pss_one (ps_for PassesOwn.never rfl (pi_list (pe_op op_cat (pe_cd (G_law_no_trees.mono (by decide)) hr (by rfl) (pa_cons (pv 1) (pa_cons pe_int (pa_cons (pv 2) pa_nil)))) (pe_lst (pa_cons (pv 2) pa_nil)))) (pg_name (i := 6) nd rfl (by first | exact Or.inl rfl | exact Or.inr rfl))
        (pss_cons (ps_set (i := 7) nd rfl (by first | exact Or.inl rfl | exact Or.inr rfl) (pe_cd (G_law_is_tree.mono (by decide)) hr (by rfl) (pa_cons (pv 6) pa_nil)))
          (pss_one (ps_for PassesOwn.never rfl (pi_list (pe_lst (pa_cons (pv 3) (pa_cons (pe_slice sl_list (pv 3) (po_some pe_int) po_none) (pa_cons (pe_op op_cat (pv 3) (pe_lst (pa_cons pe_int pa_nil))) (pa_cons (pe_lst pa_nil) pa_nil)))))) (pg_name (i := 8) nd rfl (by first | exact Or.inl rfl | exact Or.inr rfl))
          (pss_cons (ps_set (i := 9) nd rfl (by first | exact Or.inl rfl | exact Or.inr rfl) (pe_j (pe_ix ix_list (pe_lst (pa_cons (pe_ix ix_list (pe_lst (pa_cons pe_int (pa_cons pe_int pa_nil))) (pe_callTy call_int1 (by rfl) T.b_int (by decide +kernel) (pa_cons (pv 7) pa_nil)) (fun _ _ => rfl)) (pa_cons (pe_un un_neg pe_int) pa_nil))) (pe_callTy call_int1 (by rfl) T.b_int (by decide +kernel) (pa_cons (pe_and (pv 7) (pe_one (pe_cmpR op_eq (pe_callB call_lenQ (by rfl) T.b_len PySem.boot_len (pa_cons (pv 8) pa_nil)) (pe_callB call_lenQ (by rfl) T.b_len PySem.boot_len (pa_cons (pv 6) pa_nil)) (nomark _)))) pa_nil)) (fun _ _ => rfl))))
            (pss_one (ps_if (pt_cmpR (op_neD hr.units) (pe_cd (G_law_refused.mono (by decide)) hr (by rfl) (pa_cons (pv 6) (pa_cons (pv 8) pa_nil))) (pe_lc (own := [("k", 10)]) (g := gName 10) (by rfl) nd (pi_range1 (by rfl) T.b_range (pa_cons (pe_op op_mul pe_int (pe_callTy call_int1 (by rfl) T.b_int (by decide +kernel) (pa_cons (pe_cmpR op_ge (pv 9) pe_int (nomark _)) pa_nil))) pa_nil)) (blkOk_by (own := [("k", 10)]) (N := ["script", "cell", "parents", "hues", "handed", "turn", "some", "good", "there", "due", "k"]) (sc := defScope s_law) (by decide +kernel)) (fun _ _ _ _ _ => pg_name (i := 10) nd rfl (by first | exact Or.inl rfl | exact Or.inr rfl)) (fun _ _ _ _ _ => pts_nil) (fun _ _ _ _ _ => (pe_cmpR op_eq (pv 10) (pv 9) (nomark _)))) (nomark _))
            (pss_one (ps_ret pe_bl))
            pss_nil))))))))))))))
      (pss_one (ps_ret (pe_cmpR op_eq (pe_cd (Gtree_text.mono (by decide)) hr (by rfl) (pa_cons (pe_lst (pa_cons pe_non pa_nil)) (pa_cons (pe_lst (pa_cons (pe_un un_neg pe_int) pa_nil)) pa_nil))) pe_str (nomark _))))), ?_⟩
    rw [show start ["script", "cell", "parents", "hues", "handed", "turn", "some", "good", "there", "due", "k"] [(.ref a)] = [some (.ref a), none, none, none, none, none, none, none, none, none, none] from rfl]
    walk_at "go"
    refine uCells hS (by omega) (by decide) (by decide) (fun cs pc H1 hcl nx hq s1 => ?_)
    replace L := L.callNew s1 nx hq
    clear nx hq s1
    walk_at "go"
    refine f_list (xs := cs.map V.int) (fun i σ H2 => ∃ o1 o2 o3 o4 o5 o6 o7 o8 o9 o10 : Option V, σ = [some (.ref a), o1, o2, o3, o4, o5, o6, o7, o8, o9, o10] ∧ Led H [] H2 [(pc, .lst (cs.map V.int))]) (SqL.of L.get0) ⟨_, _, _, _, _, _, _, _, _, _, rfl, L⟩ ?_ ?_ ?_
    · rintro i σ H2 _ ⟨o1, o2, o3, o4, o5, o6, o7, o8, o9, o10, rfl, L⟩
      exact SqL.of L.get0
    · rintro i x σ H2 hx ⟨o1, o2, o3, o4, o5, o6, o7, o8, o9, o10, rfl, L⟩
      obtain ⟨c, rfl⟩ := int_mem hx
      walk_at "go"
      refine uTree (by decide) (by decide) (fun ps ks pp H3 ht hpl nx hq s3 => ?_)
      have hpl : ps.length ≤ 199 := hpl
      have hpl2 : ps.length ≤ 200 := by omega
      replace L := L.callNew s3 nx hq
      clear nx hq s3
      walk_at "go"
      rw [List.length_map]
      refine uLHuesC hpl2 (fun hs ph H4 hhl hb nx hq s4 => ?_)
      replace L := L.callNew s4 nx hq
      clear nx hq s4
      have hbH := hb.H
      have hpos := ht.pos
      walk_at "go"
      obtain ⟨pd, rfl⟩ : ∃ pd, pd = p := ⟨p, rfl⟩
      obtain ⟨q2, rfl⟩ : ∃ q2, q2 = p := ⟨p, rfl⟩
      obtain ⟨q1, rfl⟩ : ∃ q1, q1 = p := ⟨p, rfl⟩
      refine f_rng1 (by decide) (by decide) (fun t σ H5 => ∃ o5 : Option V, σ = [some (.ref a), some (.int c), some (.ref pp), some (.ref ph), some (.ref pd), o5, o6, o7, o8, o9, o10] ∧ Led H [] H5 [(pd, .lst [.ref q1, .ref q2]), (q2, .lst (intsV hs)), (q1, .lst (ps.map oV)), (ph, .lst (intsV hs)), (pp, .lst (ps.map oV)), (pc, .lst (cs.map V.int))]) ⟨_, rfl, L⟩ ?_ ?_
      · rintro t σ H5 _ ⟨o5, rfl, L⟩
        walk_at "go"
        refine uText L.get2 L.get1 hpl2 ht hhl hbH (fun H6 s6 => ?_)
        replace L := L.call s6
        clear s6
        walk_at "go"
        refine uText L.get4 L.get3 hpl2 ht hhl hbH (fun H7 s7 => ?_)
        replace L := L.call s7
        clear s7
        walk_at "go"
        refine uSame (.str _) (fun H8 s8 => ?_)
        replace L := L.call s8
        clear s8
        walk_at "go"
        exact ⟨_, rfl, L⟩
      · rintro σ H5 ⟨o5, rfl, L⟩
        walk_at "go"
        refine r_neTwo (SqL.of L.get1) (SqL.of L.get0) (SqL.of L.get3) (SqL.of L.get2) (SqL.of L.get5) (SqL.of L.get4) (flat_opts ps) (flat_ints hs) ?_
        replace L := L.drop0.drop0.drop0.drop0
        walk_at "go"
        refine uNoTreesS (by decide) (by decide) L.get1 hpl ht (fun rs css q H6 hrc hr0 hr1 hcss hrows hnq hq s6 => ?_)
        have ha1 := s6 _ _ L.get1
        have hb1 := s6 _ _ L.get0
        have hpc1 := s6 _ _ L.get2
        have s06 := L.same.trans s6
        have L9 := L.call s6
        clear L
        have L := Led.start (H := H6)
        walk_at "go"
        obtain ⟨pl, rfl⟩ : ∃ pl, pl = p := ⟨p, rfl⟩
        obtain ⟨HX, rfl⟩ : ∃ HX, HX = H' := ⟨_, rfl⟩
        have hplX : HX pl = some (.lst ((rs ++ [pp]).map V.ref)) := by rw [L.get0, List.map_append]; rfl
        have sX := L.same
        clear L
        have hT : ∀ t ∈ rs ++ [pp], ∃ qs : List (Option Int), H6 t = some (.lst (qs.map oJ)) ∧ qs.length ≤ 200 := fun t hm => by
          rcases List.mem_append.mp hm with hm | hm
          · obtain ⟨j, hj⟩ := List.mem_iff_getElem?.mp hm
            obtain ⟨cc, ecc⟩ : ∃ cc, css[j]? = some cc := ⟨_, List.getElem?_eq_getElem (by have := (List.getElem?_eq_some_iff.mp hj).1; omega)⟩
            obtain ⟨qs, rfl, hql⟩ := hcss cc (List.mem_of_getElem? ecc)
            exact ⟨qs, hrows _ _ _ hj ecc, by omega⟩
          · have : t = pp := by simpa using hm
            subst this
            exact ⟨_, by rw [ha1, map_emb], by rw [emb_len]; omega⟩
        generalize rs ++ [pp] = tl at hplX hT
        refine f_list (xs := tl.map V.ref) (fun i σ H2 => ∃ o6 o7 o8 o9 o10 : Option V, σ = [some (.ref a), some (.int c), some (.ref pp), some (.ref ph), some (.ref pd), o5, o6, o7, o8, o9, o10] ∧ Same HX H2) (SqL.of hplX) ⟨_, _, _, _, _, rfl, fun _ _ h => h⟩ ?_ ?_ ?_
        · rintro j σ H2 _ ⟨o6, o7, o8, o9, o10, rfl, s2⟩
          exact SqL.of (s2 _ _ hplX)
        · rintro j v σ H2 hv ⟨o6, o7, o8, o9, o10, rfl, s2⟩
          obtain ⟨t, ht0, rfl⟩ := ref_mem hv
          obtain ⟨qs, hqs0, hql⟩ := hT t ht0
          have hqs := s2 _ _ (sX _ _ hqs0)
          have hph2 := s2 _ _ (sX _ _ hb1)
          have L := Led.start (H := H2)
          walk_at "go"
          refine uIsTreeB hqs (by omega) (fun g H3 hg s3 => ?_)
          replace L := L.call s3
          clear s3
          walk_at "go"
          rw [cut_from (by decide), ← List.map_drop] at L
          walk_at "go"
          obtain ⟨pm, rfl⟩ : ∃ pm, pm = p := ⟨p, rfl⟩
          obtain ⟨HY, rfl⟩ : ∃ HY, HY = H' := ⟨_, rfl⟩
          obtain ⟨us, hus, hT2⟩ : ∃ us : List Addr, HY pm = some (.lst (us.map V.ref)) ∧ ∀ t ∈ us, ∃ hs2 : List Int, HY t = some (.lst (intsV hs2)) ∧ hs2.length ≤ 1000 ∧ BndH hs2 := by
            refine ⟨[_, _, _, _], L.get0, fun t hm => ?_⟩
            simp only [List.mem_cons, List.not_mem_nil, or_false] at hm
            rcases hm with rfl | rfl | rfl | rfl
            · exact ⟨hs, L.oldE hph2, by omega, hbH⟩
            · exact ⟨hs.drop 1, L.get4, by rw [List.length_drop]; omega, fun k hk => hbH k (List.mem_of_mem_drop hk)⟩
            · refine ⟨hs ++ [0], by rw [intsV_snoc]; exact L.get2, by rw [List.length_append, List.length_singleton]; omega, fun k hk => ?_⟩
              rcases List.mem_append.mp hk with hk | hk
              · exact hbH k hk
              · have : k = 0 := by simpa using hk
                subst this
                decide
            · exact ⟨[], L.get1, by simp, fun k hk => by cases hk⟩
          have hqsY := L.oldE hqs
          have sY := L.same
          clear L
          refine f_list (xs := us.map V.ref) (fun i σ H3 => ∃ o8 o9 o10 : Option V, σ = [some (.ref a), some (.int c), some (.ref pp), some (.ref ph), some (.ref pd), o5, some (.ref t), some (.bl g), o8, o9, o10] ∧ Same HY H3) (SqL.of hus) ⟨_, _, _, rfl, fun _ _ h => h⟩ ?_ ?_ ?_
          · rintro i2 σ H3 _ ⟨o8, o9, o10, rfl, s3⟩
            exact SqL.of (s3 _ _ hus)
          · rintro i2 v σ H3 hv ⟨o8, o9, o10, rfl, s3⟩
            obtain ⟨u, hu0, rfl⟩ := ref_mem hv
            obtain ⟨hs2, hhs, hhl2, hbd2⟩ := hT2 u hu0
            have hhs3 := s3 _ _ hhs
            have hqs3 := s3 _ _ hqsY
            have L := Led.start (H := H3)
            walk_at "go"
            refine r_j (fun v H4 => ∃ (e : Int) (j : Nat), v = .int e ∧ RefD qs hs2 0 0 j ∧ e = (j : Int) - 1 ∧ Led H3 [] H4 []) (fun Q' kq => ?_) ?_
            · walk_at "go"
              cases g with
              | true =>
                have hT := hg.mp rfl
                walk_at "go"
                rw [show (intsV hs2).length = hs2.length by rw [intsV, List.length_map], List.length_map]
                by_cases he : hs2.length = qs.length
                · rw [if_pos (by simp [he])]
                  refine r_selN (j := 1) (v := V.int (-1)) (SqL.of L.get0) rfl ?_
                  exact kq _ _ ⟨-1, 0, rfl, .inr (.inr (.inr ⟨hT, he, .inl rfl, rfl⟩)), rfl, L.drop0.drop0⟩
                · rw [if_neg (by simp; omega)]
                  refine r_selN (j := 0) (v := V.int 1) (SqL.of L.get0) rfl ?_
                  exact kq _ _ ⟨1, 2, rfl, .inr (.inl ⟨hT, he, rfl⟩), rfl, L.drop0.drop0⟩
              | false =>
                have hT : ¬ IsT qs := fun z => by have := hg.mpr z; cases this
                walk_at "go"
                exact kq _ _ ⟨0, 1, rfl, .inl ⟨hT, rfl⟩, rfl, L.drop0.drop0⟩
            rintro v H4 ⟨e, j, rfl, hj, ee, L⟩
            walk_at "go"
            refine uRefT (L.oldE hqs3) (L.oldE hhs3) hql hhl2 hbd2 (fun j' q1 H5 hj' nx hq s7 => ?_)
            rw [hj'.det hj] at hq
            replace L := L.callNew s7 nx hq
            clear nx hq s7
            walk_at "go"
            obtain ⟨n, en⟩ : ∃ n : Int, n = 10 * (if decide (0 ≤ e) = true then 1 else 0) := ⟨_, rfl⟩
            rw [← en]
            have hn : 0 ≤ n ∧ n ≤ 10 := by rw [en]; split <;> omega
            have hj4 : j = 0 ∨ j = 1 ∨ j = 2 ∨ j = 5 := by
              rcases hj with ⟨_, h⟩ | ⟨_, _, h⟩ | ⟨_, _, _, _, h⟩ | ⟨_, _, _, h⟩ <;> omega
            refine c_rng1 (by omega) (by omega) (σw := [some (.ref a), some (.int c), some (.ref pp), some (.ref ph), some (.ref pd), o5, some (.ref t), some (.bl g), some (.ref u), some (.int e), none]) (by rfl) (fun D i H6 => Led H3 [] H6 [(D, .lst ((List.range i).map fun (k : Nat) => V.bl (decide ((k : Int) = e)))), (q1, .lst (outV j))]) ?_ ?_ ?_
            · intro D H6 nx ex
              exact L.new nx ex
            · intro D i4 H6 _ hi4 L
              walk_at "go"
              refine ⟨rfl, ?_⟩
              walk_at "go"
              refine ⟨_, L.get0, small_lt (by rw [List.length_map, List.length_range]; omega), ?_⟩
              rw [List.range_succ, List.map_append]
              exact L.put0 rfl
            · intro D H6 _ L
              rw [flags_due ee hj4 en] at L
              walk_at "go"
              refine r_neSame (SqL.of L.get1) (SqL.of L.get0) (flat_out j) ?_
              walk_at "go"
              exact ⟨_, _, _, rfl, s3.trans L.same⟩
          · rintro σ H3 ⟨o8, o9, o10, rfl, s3⟩
            exact ⟨_, _, _, _, _, rfl, s2.trans (sY.trans s3)⟩
        · rintro σ H2 ⟨o6, o7, o8, o9, o10, rfl, s2⟩
          have LE : Led H [] H2 [(pc, .lst (cs.map V.int))] := (Led.call L9 (sX.trans s2)).drop0.drop0
          exact ⟨_, _, _, _, _, _, _, _, _, _, rfl, LE⟩
    · rintro σ H2 ⟨o1, o2, o3, o4, o5, o6, o7, o8, o9, o10, rfl, L⟩
      walk_at "go"
      refine uText (ps := [none]) (ks := [0]) (hs := [-5]) L.get1 L.get0 (by decide) tr1 rfl bnd_five (fun H6 s6 => ?_)
      rw [text_small]
      walk_at "go"
      refine r_eqS (decide_eq_true rfl) ?_
      exact kQ _
end
end H36


set_option Elab.async false
set_option linter.all false
set_option maxRecDepth 100000
set_option maxHeartbeats 8000000
namespace H36
open PySem L2 Hb
theorem all_mk {l : PySem.W.OpenLaw} {w : World} {K : PySem.W.Frag} {h : Heap} {mg : Str → Option Value} {fa : Addr} (X : K.In h) (G : h.Ns mainGlobals mg) (hfa : mg "law" = some (.ref fa))
    {c_HueError : Addr}
    {c_NoTree : Addr}
    {c_NoHues : Addr}
    {c_NoPlace : Addr}
    {c_NoPart : Addr}
    {c_NoNumber : Addr}
    {c_NoLeaf : Addr}
    {c_NoText : Addr}
    {c_NoForm : Addr}
    {c_NoneYet : Addr}
    {f0 : Addr} {od0 an0 : Option Addr} {sl0 : Array (Option Value)} {oc0 kV0 dc0 pm0 cd0 ct0 : Value}
    {f1 : Addr} {od1 an1 : Option Addr} {sl1 : Array (Option Value)} {oc1 kV1 dc1 pm1 cd1 ct1 : Value}
    {f2 : Addr} {od2 an2 : Option Addr} {sl2 : Array (Option Value)} {oc2 kV2 dc2 pm2 cd2 ct2 : Value}
    {f3 : Addr} {od3 an3 : Option Addr} {sl3 : Array (Option Value)} {oc3 kV3 dc3 pm3 cd3 ct3 : Value}
    {f4 : Addr} {od4 an4 : Option Addr} {sl4 : Array (Option Value)} {oc4 kV4 dc4 pm4 cd4 ct4 : Value}
    {f5 : Addr} {od5 an5 : Option Addr} {sl5 : Array (Option Value)} {oc5 kV5 dc5 pm5 cd5 ct5 : Value}
    {f6 : Addr} {od6 an6 : Option Addr} {sl6 : Array (Option Value)} {oc6 kV6 dc6 pm6 cd6 ct6 : Value}
    {f7 : Addr} {od7 an7 : Option Addr} {sl7 : Array (Option Value)} {oc7 kV7 dc7 pm7 cd7 ct7 : Value}
    {f8 : Addr} {od8 an8 : Option Addr} {sl8 : Array (Option Value)} {oc8 kV8 dc8 pm8 cd8 ct8 : Value}
    {f9 : Addr} {od9 an9 : Option Addr} {sl9 : Array (Option Value)} {oc9 kV9 dc9 pm9 cd9 ct9 : Value}
    {f10 : Addr} {od10 an10 : Option Addr} {sl10 : Array (Option Value)} {oc10 kV10 dc10 pm10 cd10 ct10 : Value}
    {f11 : Addr} {od11 an11 : Option Addr} {sl11 : Array (Option Value)} {oc11 kV11 dc11 pm11 cd11 ct11 : Value}
    {f12 : Addr} {od12 an12 : Option Addr} {sl12 : Array (Option Value)} {oc12 kV12 dc12 pm12 cd12 ct12 : Value}
    {f13 : Addr} {od13 an13 : Option Addr} {sl13 : Array (Option Value)} {oc13 kV13 dc13 pm13 cd13 ct13 : Value}
    {f14 : Addr} {od14 an14 : Option Addr} {sl14 : Array (Option Value)} {oc14 kV14 dc14 pm14 cd14 ct14 : Value}
    {f15 : Addr} {od15 an15 : Option Addr} {sl15 : Array (Option Value)} {oc15 kV15 dc15 pm15 cd15 ct15 : Value}
    {f16 : Addr} {od16 an16 : Option Addr} {sl16 : Array (Option Value)} {oc16 kV16 dc16 pm16 cd16 ct16 : Value}
    {f17 : Addr} {od17 an17 : Option Addr} {sl17 : Array (Option Value)} {oc17 kV17 dc17 pm17 cd17 ct17 : Value}
    {f18 : Addr} {od18 an18 : Option Addr} {sl18 : Array (Option Value)} {oc18 kV18 dc18 pm18 cd18 ct18 : Value}
    {f19 : Addr} {od19 an19 : Option Addr} {sl19 : Array (Option Value)} {oc19 kV19 dc19 pm19 cd19 ct19 : Value}
    {f20 : Addr} {od20 an20 : Option Addr} {sl20 : Array (Option Value)} {oc20 kV20 dc20 pm20 cd20 ct20 : Value}
    {tc_ROOT : Tok}
    (q_HueError : PySem.W.nsIn K mainGlobals "HueError" = some (some (.ref c_HueError)))
    (q_NoTree : PySem.W.nsIn K mainGlobals "NoTree" = some (some (.ref c_NoTree)))
    (q_NoHues : PySem.W.nsIn K mainGlobals "NoHues" = some (some (.ref c_NoHues)))
    (q_NoPlace : PySem.W.nsIn K mainGlobals "NoPlace" = some (some (.ref c_NoPlace)))
    (q_NoPart : PySem.W.nsIn K mainGlobals "NoPart" = some (some (.ref c_NoPart)))
    (q_NoNumber : PySem.W.nsIn K mainGlobals "NoNumber" = some (some (.ref c_NoNumber)))
    (q_NoLeaf : PySem.W.nsIn K mainGlobals "NoLeaf" = some (some (.ref c_NoLeaf)))
    (q_NoText : PySem.W.nsIn K mainGlobals "NoText" = some (some (.ref c_NoText)))
    (q_NoForm : PySem.W.nsIn K mainGlobals "NoForm" = some (some (.ref c_NoForm)))
    (q_NoneYet : PySem.W.nsIn K mainGlobals "NoneYet" = some (some (.ref c_NoneYet)))
    (a0 : PySem.W.nsIn K mainGlobals "is_place" = some (some (.ref f0))) (l0 : K.lookup f0 = some ⟨oc0, od0, .func (PySem.W.fnOf "is_place" "is_place" (defArgs s_is_place) (defBody s_is_place) (defScope s_is_place) .none kV0 dc0 pm0 an0 cd0 ct0), sl0⟩) (c0 : PySem.W.codeIn K cd0 "is_place" = true) (k0 : PySem.W.keepIn K (.ref f0) = true)
    (a1 : PySem.W.nsIn K mainGlobals "only_root" = some (some (.ref f1))) (l1 : K.lookup f1 = some ⟨oc1, od1, .func (PySem.W.fnOf "only_root" "only_root" (defArgs s_only_root) (defBody s_only_root) (defScope s_only_root) .none kV1 dc1 pm1 an1 cd1 ct1), sl1⟩) (c1 : PySem.W.codeIn K cd1 "only_root" = true) (k1 : PySem.W.keepIn K (.ref f1) = true)
    (a2 : PySem.W.nsIn K mainGlobals "child_lists" = some (some (.ref f2))) (l2 : K.lookup f2 = some ⟨oc2, od2, .func (PySem.W.fnOf "child_lists" "child_lists" (defArgs s_child_lists) (defBody s_child_lists) (defScope s_child_lists) .none kV2 dc2 pm2 an2 cd2 ct2), sl2⟩) (c2 : PySem.W.codeIn K cd2 "child_lists" = true) (k2 : PySem.W.keepIn K (.ref f2) = true)
    (a3 : PySem.W.nsIn K mainGlobals "walk" = some (some (.ref f3))) (l3 : K.lookup f3 = some ⟨oc3, od3, .func (PySem.W.fnOf "walk" "walk" (defArgs s_walk) (defBody s_walk) (defScope s_walk) .none kV3 dc3 pm3 an3 cd3 ct3), sl3⟩) (c3 : PySem.W.codeIn K cd3 "walk" = true) (k3 : PySem.W.keepIn K (.ref f3) = true)
    (a4 : PySem.W.nsIn K mainGlobals "need_tree" = some (some (.ref f4))) (l4 : K.lookup f4 = some ⟨oc4, od4, .func (PySem.W.fnOf "need_tree" "need_tree" (defArgs s_need_tree) (defBody s_need_tree) (defScope s_need_tree) .none kV4 dc4 pm4 an4 cd4 ct4), sl4⟩) (c4 : PySem.W.codeIn K cd4 "need_tree" = true) (k4 : PySem.W.keepIn K (.ref f4) = true)
    (a5 : PySem.W.nsIn K mainGlobals "need_hues" = some (some (.ref f5))) (l5 : K.lookup f5 = some ⟨oc5, od5, .func (PySem.W.fnOf "need_hues" "need_hues" (defArgs s_need_hues) (defBody s_need_hues) (defScope s_need_hues) .none kV5 dc5 pm5 an5 cd5 ct5), sl5⟩) (c5 : PySem.W.codeIn K cd5 "need_hues" = true) (k5 : PySem.W.keepIn K (.ref f5) = true)
    (a6 : PySem.W.nsIn K mainGlobals "place_text" = some (some (.ref f6))) (l6 : K.lookup f6 = some ⟨oc6, od6, .func (PySem.W.fnOf "place_text" "place_text" (defArgs s_place_text) (defBody s_place_text) (defScope s_place_text) .none kV6 dc6 pm6 an6 cd6 ct6), sl6⟩) (c6 : PySem.W.codeIn K cd6 "place_text" = true) (k6 : PySem.W.keepIn K (.ref f6) = true)
    (a7 : PySem.W.nsIn K mainGlobals "tree_text" = some (some (.ref f7))) (l7 : K.lookup f7 = some ⟨oc7, od7, .func (PySem.W.fnOf "tree_text" "tree_text" (defArgs s_tree_text) (defBody s_tree_text) (defScope s_tree_text) .none kV7 dc7 pm7 an7 cd7 ct7), sl7⟩) (c7 : PySem.W.codeIn K cd7 "tree_text" = true) (k7 : PySem.W.keepIn K (.ref f7) = true)
    (a8 : PySem.W.nsIn K mainGlobals "_law_stir" = some (some (.ref f8))) (l8 : K.lookup f8 = some ⟨oc8, od8, .func (PySem.W.fnOf "_law_stir" "_law_stir" (defArgs s__law_stir) (defBody s__law_stir) (defScope s__law_stir) .none kV8 dc8 pm8 an8 cd8 ct8), sl8⟩) (c8 : PySem.W.codeIn K cd8 "_law_stir" = true) (k8 : PySem.W.keepIn K (.ref f8) = true)
    (a9 : PySem.W.nsIn K mainGlobals "_law_cells" = some (some (.ref f9))) (l9 : K.lookup f9 = some ⟨oc9, od9, .func (PySem.W.fnOf "_law_cells" "_law_cells" (defArgs s__law_cells) (defBody s__law_cells) (defScope s__law_cells) .none kV9 dc9 pm9 an9 cd9 ct9), sl9⟩) (c9 : PySem.W.codeIn K cd9 "_law_cells" = true) (k9 : PySem.W.keepIn K (.ref f9) = true)
    (a10 : PySem.W.nsIn K mainGlobals "_law_order" = some (some (.ref f10))) (l10 : K.lookup f10 = some ⟨oc10, od10, .func (PySem.W.fnOf "_law_order" "_law_order" (defArgs s__law_order) (defBody s__law_order) (defScope s__law_order) .none kV10 dc10 pm10 an10 cd10 ct10), sl10⟩) (c10 : PySem.W.codeIn K cd10 "_law_order" = true) (k10 : PySem.W.keepIn K (.ref f10) = true)
    (a11 : PySem.W.nsIn K mainGlobals "_law_tree" = some (some (.ref f11))) (l11 : K.lookup f11 = some ⟨oc11, od11, .func (PySem.W.fnOf "_law_tree" "_law_tree" (defArgs s__law_tree) (defBody s__law_tree) (defScope s__law_tree) .none kV11 dc11 pm11 an11 cd11 ct11), sl11⟩) (c11 : PySem.W.codeIn K cd11 "_law_tree" = true) (k11 : PySem.W.keepIn K (.ref f11) = true)
    (a12 : PySem.W.nsIn K mainGlobals "_law_hues" = some (some (.ref f12))) (l12 : K.lookup f12 = some ⟨oc12, od12, .func (PySem.W.fnOf "_law_hues" "_law_hues" (defArgs s__law_hues) (defBody s__law_hues) (defScope s__law_hues) .none kV12 dc12 pm12 an12 cd12 ct12), sl12⟩) (c12 : PySem.W.codeIn K cd12 "_law_hues" = true) (k12 : PySem.W.keepIn K (.ref f12) = true)
    (a13 : PySem.W.nsIn K mainGlobals "_law_same" = some (some (.ref f13))) (l13 : K.lookup f13 = some ⟨oc13, od13, .func (PySem.W.fnOf "_law_same" "_law_same" (defArgs s__law_same) (defBody s__law_same) (defScope s__law_same) .none kV13 dc13 pm13 an13 cd13 ct13), sl13⟩) (c13 : PySem.W.codeIn K cd13 "_law_same" = true) (k13 : PySem.W.keepIn K (.ref f13) = true)
    (a14 : PySem.W.nsIn K mainGlobals "_law_flags" = some (some (.ref f14))) (l14 : K.lookup f14 = some ⟨oc14, od14, .func (PySem.W.fnOf "_law_flags" "_law_flags" (defArgs s__law_flags) (defBody s__law_flags) (defScope s__law_flags) .none kV14 dc14 pm14 an14 cd14 ct14), sl14⟩) (c14 : PySem.W.codeIn K cd14 "_law_flags" = true) (k14 : PySem.W.keepIn K (.ref f14) = true)
    (a15 : PySem.W.nsIn K mainGlobals "_law_far" = some (some (.ref f15))) (l15 : K.lookup f15 = some ⟨oc15, od15, .func (PySem.W.fnOf "_law_far" "_law_far" (defArgs s__law_far) (defBody s__law_far) (defScope s__law_far) .none kV15 dc15 pm15 an15 cd15 ct15), sl15⟩) (c15 : PySem.W.codeIn K cd15 "_law_far" = true) (k15 : PySem.W.keepIn K (.ref f15) = true)
    (a16 : PySem.W.nsIn K mainGlobals "_law_is_tree" = some (some (.ref f16))) (l16 : K.lookup f16 = some ⟨oc16, od16, .func (PySem.W.fnOf "_law_is_tree" "_law_is_tree" (defArgs s__law_is_tree) (defBody s__law_is_tree) (defScope s__law_is_tree) .none kV16 dc16 pm16 an16 cd16 ct16), sl16⟩) (c16 : PySem.W.codeIn K cd16 "_law_is_tree" = true) (k16 : PySem.W.keepIn K (.ref f16) = true)
    (a17 : PySem.W.nsIn K mainGlobals "_law_no_trees" = some (some (.ref f17))) (l17 : K.lookup f17 = some ⟨oc17, od17, .func (PySem.W.fnOf "_law_no_trees" "_law_no_trees" (defArgs s__law_no_trees) (defBody s__law_no_trees) (defScope s__law_no_trees) .none kV17 dc17 pm17 an17 cd17 ct17), sl17⟩) (c17 : PySem.W.codeIn K cd17 "_law_no_trees" = true) (k17 : PySem.W.keepIn K (.ref f17) = true)
    (a18 : PySem.W.nsIn K mainGlobals "_law_text" = some (some (.ref f18))) (l18 : K.lookup f18 = some ⟨oc18, od18, .func (PySem.W.fnOf "_law_text" "_law_text" (defArgs s__law_text) (defBody s__law_text) (defScope s__law_text) .none kV18 dc18 pm18 an18 cd18 ct18), sl18⟩) (c18 : PySem.W.codeIn K cd18 "_law_text" = true) (k18 : PySem.W.keepIn K (.ref f18) = true)
    (a19 : PySem.W.nsIn K mainGlobals "_law_refused" = some (some (.ref f19))) (l19 : K.lookup f19 = some ⟨oc19, od19, .func (PySem.W.fnOf "_law_refused" "_law_refused" (defArgs s__law_refused) (defBody s__law_refused) (defScope s__law_refused) .none kV19 dc19 pm19 an19 cd19 ct19), sl19⟩) (c19 : PySem.W.codeIn K cd19 "_law_refused" = true) (k19 : PySem.W.keepIn K (.ref f19) = true)
    (a20 : PySem.W.nsIn K mainGlobals "law" = some (some (.ref f20))) (l20 : K.lookup f20 = some ⟨oc20, od20, .func (PySem.W.fnOf "law" "law" (defArgs s_law) (defBody s_law) (defScope s_law) .none kV20 dc20 pm20 an20 cd20 ct20), sl20⟩) (c20 : PySem.W.codeIn K cd20 "law" = true) (k20 : PySem.W.keepIn K (.ref f20) = true)
    (q_ROOT : PySem.W.nsIn K mainGlobals "ROOT" = some (some (.str (PySem.Str.ofString "-") tc_ROOT)))
    (z0 : PySem.W.nsIn K mainGlobals "range" = some none)
    (z1 : PySem.W.nsIn K mainGlobals "list" = some none)
    (z2 : PySem.W.nsIn K mainGlobals "max" = some none)
    (z3 : PySem.W.nsIn K mainGlobals "min" = some none)
    (z4 : PySem.W.nsIn K mainGlobals "len" = some none)
    (z5 : PySem.W.nsIn K mainGlobals "enumerate" = some none)
    (z6 : PySem.W.nsIn K mainGlobals "isinstance" = some none)
    (z7 : PySem.W.nsIn K mainGlobals "sorted" = some none)
    (z8 : PySem.W.nsIn K mainGlobals "set" = some none)
    (z9 : PySem.W.nsIn K mainGlobals "str" = some none)
    (z10 : PySem.W.nsIn K mainGlobals "tuple" = some none)
    (z11 : PySem.W.nsIn K mainGlobals "int" = some none)
    (z12 : PySem.W.nsIn K mainGlobals "bool" = some none)
    (z13 : PySem.W.nsIn K mainGlobals "zip" = some none)
    (z14 : PySem.W.nsIn K mainGlobals "reversed" = some none)
    (z15 : PySem.W.nsIn K mainGlobals "sum" = some none)
    (z16 : PySem.W.nsIn K mainGlobals "abs" = some none)
    (z17 : PySem.W.nsIn K mainGlobals "any" = some none)
    (z18 : PySem.W.nsIn K mainGlobals "all" = some none)
    (z19 : PySem.W.nsIn K mainGlobals "dict" = some none)
    (z20 : PySem.W.nsIn K mainGlobals "ValueError" = some none)
    (e1 : PySem.W.excIn K c_HueError vB "ValueError.__new__" = true)
    (x7 : PySem.W.specialIn K (.builtin "object.__class__") "__get__" = some (some (.builtin "getset_descriptor.__get__")))
    (x8 : PySem.W.takesIn K (.builtin "object.__class__") = some true)
    (te2 : PySem.W.excIn K c_NoTree vB "ValueError.__new__" = true)
    (te3 : subB K c_NoTree c_HueError = true)
    (tx1 : (PySem.W.clsIn K c_NoTree).isSome = true)
    (tx2 : PySem.W.findIn K (.ref c_NoTree) "__getattribute__" = some (some (.builtin "BaseException.__getattribute__")))
    (tx3 : PySem.W.findIn K (.ref c_NoTree) "__getattr__" = some none)
    (tx4 : PySem.W.findIn K (.ref c_NoTree) "__class__" = some (some (.builtin "object.__class__")))
    (tx5 : PySem.W.mroIn K c_NoTree (.type "object") = some true)
    (tx6 : PySem.W.mroIn K c_NoTree (.type "BaseException") = some true)
    (ty1 : PySem.W.kitOne K (.ref c_NoTree) (.ref c_NoTree) = some true)
    (ty2 : PySem.W.kitOne K (.ref c_NoTree) (.ref c_NoHues) = some false)
    (ty3 : PySem.W.kitOne K (.ref c_NoTree) (.ref c_NoPlace) = some false)
    (ty4 : PySem.W.kitOne K (.ref c_NoTree) (.ref c_NoPart) = some false)
    (ty5 : PySem.W.kitOne K (.ref c_NoTree) (.ref c_NoNumber) = some false)
    (ty6 : PySem.W.kitOne K (.ref c_NoTree) (.ref c_NoLeaf) = some false)
    (ty7 : PySem.W.kitOne K (.ref c_NoTree) (.ref c_NoText) = some false)
    (ty8 : PySem.W.kitOne K (.ref c_NoTree) (.ref c_NoForm) = some false)
    (ty9 : PySem.W.kitOne K (.ref c_NoTree) (.ref c_NoneYet) = some false)
    (tyv : PySem.W.kitOne K (.ref c_NoTree) (.type "ValueError") = some true)
    (he2 : PySem.W.excIn K c_NoHues vB "ValueError.__new__" = true)
    (he3 : subB K c_NoHues c_HueError = true)
    (hx1 : (PySem.W.clsIn K c_NoHues).isSome = true)
    (hx2 : PySem.W.findIn K (.ref c_NoHues) "__getattribute__" = some (some (.builtin "BaseException.__getattribute__")))
    (hx3 : PySem.W.findIn K (.ref c_NoHues) "__getattr__" = some none)
    (hx4 : PySem.W.findIn K (.ref c_NoHues) "__class__" = some (some (.builtin "object.__class__")))
    (hx5 : PySem.W.mroIn K c_NoHues (.type "object") = some true)
    (hx6 : PySem.W.mroIn K c_NoHues (.type "BaseException") = some true)
    (hy1 : PySem.W.kitOne K (.ref c_NoHues) (.ref c_NoTree) = some false)
    (hy2 : PySem.W.kitOne K (.ref c_NoHues) (.ref c_NoHues) = some true)
    (hy3 : PySem.W.kitOne K (.ref c_NoHues) (.ref c_NoPlace) = some false)
    (hy4 : PySem.W.kitOne K (.ref c_NoHues) (.ref c_NoPart) = some false)
    (hy5 : PySem.W.kitOne K (.ref c_NoHues) (.ref c_NoNumber) = some false)
    (hy6 : PySem.W.kitOne K (.ref c_NoHues) (.ref c_NoLeaf) = some false)
    (hy7 : PySem.W.kitOne K (.ref c_NoHues) (.ref c_NoText) = some false)
    (hy8 : PySem.W.kitOne K (.ref c_NoHues) (.ref c_NoForm) = some false)
    (hy9 : PySem.W.kitOne K (.ref c_NoHues) (.ref c_NoneYet) = some false)
    (hyv : PySem.W.kitOne K (.ref c_NoHues) (.type "ValueError") = some true) :
    ∃ fd : FuncData, (∀ (s : Shared) (v : Value), BindsTo s fd ⟨[v], []⟩ [("script", v)]) ∧ ∀ base : Heap, K.In base → base.Ns mainGlobals mg → FnOk l.prog w K mg base CX0 9 fa fd ["script"] (spLaw K) := by
  have e := hfa.symm.trans (PySem.W.mg_of X G a20)
  cases e
  have m_HueError : mg "HueError" = some (.ref c_HueError) := PySem.W.mg_of X G q_HueError
  have m_NoTree : mg "NoTree" = some (.ref c_NoTree) := PySem.W.mg_of X G q_NoTree
  have m_NoHues : mg "NoHues" = some (.ref c_NoHues) := PySem.W.mg_of X G q_NoHues
  have m_NoPlace : mg "NoPlace" = some (.ref c_NoPlace) := PySem.W.mg_of X G q_NoPlace
  have m_NoPart : mg "NoPart" = some (.ref c_NoPart) := PySem.W.mg_of X G q_NoPart
  have m_NoNumber : mg "NoNumber" = some (.ref c_NoNumber) := PySem.W.mg_of X G q_NoNumber
  have m_NoLeaf : mg "NoLeaf" = some (.ref c_NoLeaf) := PySem.W.mg_of X G q_NoLeaf
  have m_NoText : mg "NoText" = some (.ref c_NoText) := PySem.W.mg_of X G q_NoText
  have m_NoForm : mg "NoForm" = some (.ref c_NoForm) := PySem.W.mg_of X G q_NoForm
  have m_NoneYet : mg "NoneYet" = some (.ref c_NoneYet) := PySem.W.mg_of X G q_NoneYet
  have F0 := fun_mk (st := s_is_place) l0 c0 k0
  have X_is_place : Tx K mg "is_place" s_is_place ["parents", "number"] := ⟨f0, _, PySem.W.mg_of X G a0, F0, F0.binds (ps := ["parents", "number"]) fun _ _ _ _ _ _ us hl => match us, hl with | [_, _], _ => rfl⟩
  have F1 := fun_mk (st := s_only_root) l1 c1 k1
  have X_only_root : Tx K mg "only_root" s_only_root ["parents"] := ⟨f1, _, PySem.W.mg_of X G a1, F1, F1.binds (ps := ["parents"]) fun _ _ _ _ _ _ us hl => match us, hl with | [_], _ => rfl⟩
  have F2 := fun_mk (st := s_child_lists) l2 c2 k2
  have X_child_lists : Tx K mg "child_lists" s_child_lists ["parents"] := ⟨f2, _, PySem.W.mg_of X G a2, F2, F2.binds (ps := ["parents"]) fun _ _ _ _ _ _ us hl => match us, hl with | [_], _ => rfl⟩
  have F3 := fun_mk (st := s_walk) l3 c3 k3
  have X_walk : Tx K mg "walk" s_walk ["parents"] := ⟨f3, _, PySem.W.mg_of X G a3, F3, F3.binds (ps := ["parents"]) fun _ _ _ _ _ _ us hl => match us, hl with | [_], _ => rfl⟩
  have F4 := fun_mk (st := s_need_tree) l4 c4 k4
  have X_need_tree : Tx K mg "need_tree" s_need_tree ["parents"] := ⟨f4, _, PySem.W.mg_of X G a4, F4, F4.binds (ps := ["parents"]) fun _ _ _ _ _ _ us hl => match us, hl with | [_], _ => rfl⟩
  have F5 := fun_mk (st := s_need_hues) l5 c5 k5
  have X_need_hues : Tx K mg "need_hues" s_need_hues ["parents", "hues"] := ⟨f5, _, PySem.W.mg_of X G a5, F5, F5.binds (ps := ["parents", "hues"]) fun _ _ _ _ _ _ us hl => match us, hl with | [_, _], _ => rfl⟩
  have F6 := fun_mk (st := s_place_text) l6 c6 k6
  have X_place_text : Tx K mg "place_text" s_place_text ["parent", "hue"] := ⟨f6, _, PySem.W.mg_of X G a6, F6, F6.binds (ps := ["parent", "hue"]) fun _ _ _ _ _ _ us hl => match us, hl with | [_, _], _ => rfl⟩
  have F7 := fun_mk (st := s_tree_text) l7 c7 k7
  have X_tree_text : Tx K mg "tree_text" s_tree_text ["parents", "hues"] := ⟨f7, _, PySem.W.mg_of X G a7, F7, F7.binds (ps := ["parents", "hues"]) fun _ _ _ _ _ _ us hl => match us, hl with | [_, _], _ => rfl⟩
  have F8 := fun_mk (st := s__law_stir) l8 c8 k8
  have X__law_stir : Tx K mg "_law_stir" s__law_stir ["cell", "k"] := ⟨f8, _, PySem.W.mg_of X G a8, F8, F8.binds (ps := ["cell", "k"]) fun _ _ _ _ _ _ us hl => match us, hl with | [_, _], _ => rfl⟩
  have F9 := fun_mk (st := s__law_cells) l9 c9 k9
  have X__law_cells : Tx K mg "_law_cells" s__law_cells ["script", "many"] := ⟨f9, _, PySem.W.mg_of X G a9, F9, F9.binds (ps := ["script", "many"]) fun _ _ _ _ _ _ us hl => match us, hl with | [_, _], _ => rfl⟩
  have F10 := fun_mk (st := s__law_order) l10 c10 k10
  have X__law_order : Tx K mg "_law_order" s__law_order ["cell", "base", "many"] := ⟨f10, _, PySem.W.mg_of X G a10, F10, F10.binds (ps := ["cell", "base", "many"]) fun _ _ _ _ _ _ us hl => match us, hl with | [_, _, _], _ => rfl⟩
  have F11 := fun_mk (st := s__law_tree) l11 c11 k11
  have X__law_tree : Tx K mg "_law_tree" s__law_tree ["cell", "most"] := ⟨f11, _, PySem.W.mg_of X G a11, F11, F11.binds (ps := ["cell", "most"]) fun _ _ _ _ _ _ us hl => match us, hl with | [_, _], _ => rfl⟩
  have F12 := fun_mk (st := s__law_hues) l12 c12 k12
  have X__law_hues : Tx K mg "_law_hues" s__law_hues ["cell", "many"] := ⟨f12, _, PySem.W.mg_of X G a12, F12, F12.binds (ps := ["cell", "many"]) fun _ _ _ _ _ _ us hl => match us, hl with | [_, _], _ => rfl⟩
  have F13 := fun_mk (st := s__law_same) l13 c13 k13
  have X__law_same : Tx K mg "_law_same" s__law_same ["found", "due"] := ⟨f13, _, PySem.W.mg_of X G a13, F13, F13.binds (ps := ["found", "due"]) fun _ _ _ _ _ _ us hl => match us, hl with | [_, _], _ => rfl⟩
  have F14 := fun_mk (st := s__law_flags) l14 c14 k14
  have X__law_flags : Tx K mg "_law_flags" s__law_flags ["e"] := ⟨f14, _, PySem.W.mg_of X G a14, F14, F14.binds (ps := ["e"]) fun _ _ _ _ _ _ us hl => match us, hl with | [_], _ => rfl⟩
  have F15 := fun_mk (st := s__law_far) l15 c15 k15
  have X__law_far : Tx K mg "_law_far" s__law_far ["cell", "k"] := ⟨f15, _, PySem.W.mg_of X G a15, F15, F15.binds (ps := ["cell", "k"]) fun _ _ _ _ _ _ us hl => match us, hl with | [_, _], _ => rfl⟩
  have F16 := fun_mk (st := s__law_is_tree) l16 c16 k16
  have X__law_is_tree : Tx K mg "_law_is_tree" s__law_is_tree ["parents"] := ⟨f16, _, PySem.W.mg_of X G a16, F16, F16.binds (ps := ["parents"]) fun _ _ _ _ _ _ us hl => match us, hl with | [_], _ => rfl⟩
  have F17 := fun_mk (st := s__law_no_trees) l17 c17 k17
  have X__law_no_trees : Tx K mg "_law_no_trees" s__law_no_trees ["cell", "k", "parents"] := ⟨f17, _, PySem.W.mg_of X G a17, F17, F17.binds (ps := ["cell", "k", "parents"]) fun _ _ _ _ _ _ us hl => match us, hl with | [_, _, _], _ => rfl⟩
  have F18 := fun_mk (st := s__law_text) l18 c18 k18
  have X__law_text : Tx K mg "_law_text" s__law_text ["parents", "hues"] := ⟨f18, _, PySem.W.mg_of X G a18, F18, F18.binds (ps := ["parents", "hues"]) fun _ _ _ _ _ _ us hl => match us, hl with | [_, _], _ => rfl⟩
  have F19 := fun_mk (st := s__law_refused) l19 c19 k19
  have X__law_refused : Tx K mg "_law_refused" s__law_refused ["parents", "hues"] := ⟨f19, _, PySem.W.mg_of X G a19, F19, F19.binds (ps := ["parents", "hues"]) fun _ _ _ _ _ _ us hl => match us, hl with | [_, _], _ => rfl⟩
  have F20 := fun_mk (st := s_law) l20 c20 k20
  have m_ROOT : mg "ROOT" = some (.str (PySem.Str.ofString "-") tc_ROOT) := PySem.W.mg_of X G q_ROOT
  have b_range : mg "range" = none := PySem.W.mg_none_of X G z0
  have b_list : mg "list" = none := PySem.W.mg_none_of X G z1
  have b_max : mg "max" = none := PySem.W.mg_none_of X G z2
  have b_min : mg "min" = none := PySem.W.mg_none_of X G z3
  have b_len : mg "len" = none := PySem.W.mg_none_of X G z4
  have b_enumerate : mg "enumerate" = none := PySem.W.mg_none_of X G z5
  have b_isinstance : mg "isinstance" = none := PySem.W.mg_none_of X G z6
  have b_sorted : mg "sorted" = none := PySem.W.mg_none_of X G z7
  have b_set : mg "set" = none := PySem.W.mg_none_of X G z8
  have b_str : mg "str" = none := PySem.W.mg_none_of X G z9
  have b_tuple : mg "tuple" = none := PySem.W.mg_none_of X G z10
  have b_int : mg "int" = none := PySem.W.mg_none_of X G z11
  have b_bool : mg "bool" = none := PySem.W.mg_none_of X G z12
  have b_zip : mg "zip" = none := PySem.W.mg_none_of X G z13
  have b_reversed : mg "reversed" = none := PySem.W.mg_none_of X G z14
  have b_sum : mg "sum" = none := PySem.W.mg_none_of X G z15
  have b_abs : mg "abs" = none := PySem.W.mg_none_of X G z16
  have b_any : mg "any" = none := PySem.W.mg_none_of X G z17
  have b_all : mg "all" = none := PySem.W.mg_none_of X G z18
  have b_dict : mg "dict" = none := PySem.W.mg_none_of X G z19
  have b_ValueError : mg "ValueError" = none := PySem.W.mg_none_of X G z20
  refine ⟨PySem.W.fnOf "law" "law" (defArgs s_law) (defBody s_law) (defScope s_law) .none kV20 dc20 pm20 an20 cd20 ct20, fun s v => .of_eq rfl, fun base _ _ => ?_⟩
  have T : Txt mg := ⟨b_range, b_list, b_max, b_min, b_len, b_enumerate, b_isinstance, b_sorted, b_set, b_str, b_tuple, b_int, b_bool, b_zip, b_reversed, b_sum, b_abs, b_any, b_all, b_dict⟩
  have xt : XCls K mg "NoTree" c_NoTree := ⟨m_NoTree, te2⟩
  have ft : FlagC K c_NoTree c_NoHues c_NoPlace c_NoPart c_NoNumber c_NoLeaf c_NoText c_NoForm c_NoneYet c_NoTree 1 := ⟨⟨tx1, tx2, tx3, tx4, tx5, tx6, x7, x8⟩, ty1, ty2, ty3, ty4, ty5, ty6, ty7, ty8, ty9, tyv⟩
  have xh : XCls K mg "NoHues" c_NoHues := ⟨m_NoHues, he2⟩
  have fh : FlagC K c_NoTree c_NoHues c_NoPlace c_NoPart c_NoNumber c_NoLeaf c_NoText c_NoForm c_NoneYet c_NoHues 2 := ⟨⟨hx1, hx2, hx3, hx4, hx5, hx6, x7, x8⟩, hy1, hy2, hy3, hy4, hy5, hy6, hy7, hy8, hy9, hyv⟩
  have Gp : Df l.prog w K mg base "is_place" ["parents", "number"] 1 spPlace := ok_place X_is_place T
  have Gk : Df l.prog w K mg base "child_lists" ["parents"] 2 spKids := ok_kids X_child_lists T Gp
  have Gw : Df l.prog w K mg base "walk" ["parents"] 3 spWalk := ok_walk X_walk T (ok_root X_only_root T) Gk
  have Gnt : Df l.prog w K mg base "need_tree" ["parents"] 4 spNeed := ok_need X_need_tree Gw
  have Gnh : Df l.prog w K mg base "need_hues" ["parents", "hues"] 5 spNeedH := ok_needH X_need_hues T Gnt
  have Gs : Df l.prog w K mg base "_law_stir" ["cell", "k"] 1 spStir := ok_stir X__law_stir
  have Gpt : Df l.prog w K mg base "place_text" ["parent", "hue"] 1 spPlText := ok_plText X_place_text T m_ROOT
  have Gtt : Df l.prog w K mg base "tree_text" ["parents", "hues"] 6 spText := ok_treeText X_tree_text T Gnh Gpt
  have Jp : Df l.prog w K mg base "is_place" ["parents", "number"] 1 spPlaceJ := ok_xplace X_is_place T
  have Jk : DfR l.prog w K mg base "child_lists" ["parents"] 2 (spKidsJ c_NoTree) := ok_xkids X_child_lists T xt Jp
  have Jw : DfR l.prog w K mg base "walk" ["parents"] 3 (spWalkJ c_NoTree) := ok_xwalk X_walk T xt (ok_xroot X_only_root T xt) Jk
  have Jn : DfR l.prog w K mg base "need_tree" ["parents"] 4 (spNeedJ c_NoTree) := ok_xneed X_need_tree Jw
  have Jnh : DfR l.prog w K mg base "need_hues" ["parents", "hues"] 5 (spNeedHJ c_NoTree c_NoHues) := ok_xneedH X_need_hues T xh Jn
  have Jtt : DfR l.prog w K mg base "tree_text" ["parents", "hues"] 6 (spTextJ c_NoTree c_NoHues) := ok_xtreeText X_tree_text T Jnh Gpt
  have Gfl : DfN l.prog w K mg base "_law_flags" ["e"] (spFlags K c_NoTree c_NoHues c_NoPlace c_NoPart c_NoNumber c_NoLeaf c_NoText c_NoForm c_NoneYet) := ok_flags X__law_flags ⟨b_isinstance, b_ValueError, m_NoTree, m_NoHues, m_NoPlace, m_NoPart, m_NoNumber, m_NoLeaf, m_NoText, m_NoForm, m_NoneYet⟩
  have Gfa : Df l.prog w K mg base "_law_far" ["cell", "k"] 2 spFarS := ok_far X__law_far Gs
  have Gre : Df l.prog w K mg base "_law_refused" ["parents", "hues"] 8 spRefT := ok_refused X__law_refused T ⟨m_HueError, e1⟩ xt te3 xh he3 ft fh ⟨Gtt.r, Jtt⟩ Gfl
  exact ok_law F20 T (ok_cells X__law_cells T) (ok_tree X__law_tree T Gs (ok_order X__law_order T Gs)) (ok_lhuesC X__law_hues T Gs) (ok_ltext X__law_text T) Gtt (ok_lsame X__law_same T 1) (ok_noTreesS X__law_no_trees T Gs Gfa) (ok_isTreeS X__law_is_tree T) Gre
theorem walk {l : PySem.W.OpenLaw} {q : Program} {loose : List Str} {XP : (Str → Option Value) → Heap → Prop} {YP : World → Heap → Prop} {d : DefRec} {K : Params → PySem.W.Frag} (hn : l.most = some 63) (hdf : d.params.defaults = [])
    (hY : ∀ (w : World) (h : Heap), YP w h → (K w.params).In h)
    (F : ∀ (w : World) (mg : Str → Option Value) (fa : Addr) (h : Heap), (K w.params).In h → h.Ns mainGlobals mg → mg d.name = some (.ref fa) →
      ∃ fd : FuncData, (∀ (s : Shared) (u : Value), BindsTo s fd ⟨[u], []⟩ [("script", u)]) ∧ ∀ base : Heap, (K w.params).In base → base.Ns mainGlobals mg → FnOk l.prog w (K w.params) mg base CX0 9 fa fd ["script"] (spLaw (K w.params))) :
    PySem.W.WalkO q loose XP YP l.row.toRowW d [] (fun f vs => PySem.call f vs) :=
  L2.walk_of (n := 63) (k := 9) (x := "script") (CX := fun _ => CX0) (sp := fun w => spLaw (K w.params)) hn (by decide) hdf ⟨rfl, by decide, by decide⟩ hY F (fun _ _ a ns hl _ hS => ⟨a, ns, rfl, hS, hl, fun _ => rfl⟩) fun _ _ _ _ _ z => z
end H36
open PySem PySem.W PyProof.Rows
set_option maxRecDepth 100000 in
set_option maxHeartbeats 0 in
theorem PySem.Challenge.cw_huesbelow_k36_trees_written_holds : PySem.Challenge.rw_huesbelow_k36_trees_written.Holds := by
  w_on; o_law; k_head; (case hw => w_witness2)
  k_fill
  refine H36.walk (l := PySem.Challenge.rw_huesbelow_k36_trees_written) rfl rfl (fun w h Y => PySem.W.kIn_of Y) ?F
  case F =>
    intro w mg fa h KX G hmg
    refine' H36.all_mk KX G hmg ?q_HueError ?q_NoTree ?q_NoHues ?q_NoPlace ?q_NoPart ?q_NoNumber ?q_NoLeaf ?q_NoText ?q_NoForm ?q_NoneYet ?a0 ?l0 ?c0 ?k0 ?a1 ?l1 ?c1 ?k1 ?a2 ?l2 ?c2 ?k2 ?a3 ?l3 ?c3 ?k3 ?a4 ?l4 ?c4 ?k4 ?a5 ?l5 ?c5 ?k5 ?a6 ?l6 ?c6 ?k6 ?a7 ?l7 ?c7 ?k7 ?a8 ?l8 ?c8 ?k8 ?a9 ?l9 ?c9 ?k9 ?a10 ?l10 ?c10 ?k10 ?a11 ?l11 ?c11 ?k11 ?a12 ?l12 ?c12 ?k12 ?a13 ?l13 ?c13 ?k13 ?a14 ?l14 ?c14 ?k14 ?a15 ?l15 ?c15 ?k15 ?a16 ?l16 ?c16 ?k16 ?a17 ?l17 ?c17 ?k17 ?a18 ?l18 ?c18 ?k18 ?a19 ?l19 ?c19 ?k19 ?a20 ?l20 ?c20 ?k20 ?q_ROOT ?z0 ?z1 ?z2 ?z3 ?z4 ?z5 ?z6 ?z7 ?z8 ?z9 ?z10 ?z11 ?z12 ?z13 ?z14 ?z15 ?z16 ?z17 ?z18 ?z19 ?z20 ?e1 ?x7 ?x8 ?te2 ?te3 ?tx1 ?tx2 ?tx3 ?tx4 ?tx5 ?tx6 ?ty1 ?ty2 ?ty3 ?ty4 ?ty5 ?ty6 ?ty7 ?ty8 ?ty9 ?tyv ?he2 ?he3 ?hx1 ?hx2 ?hx3 ?hx4 ?hx5 ?hx6 ?hy1 ?hy2 ?hy3 ?hy4 ?hy5 ?hy6 ?hy7 ?hy8 ?hy9 ?hyv
    (case q_HueError => first | k_is | kernel_rfl)
    (case q_NoTree => first | k_is | kernel_rfl)
    (case q_NoHues => first | k_is | kernel_rfl)
    (case q_NoPlace => first | k_is | kernel_rfl)
    (case q_NoPart => first | k_is | kernel_rfl)
    (case q_NoNumber => first | k_is | kernel_rfl)
    (case q_NoLeaf => first | k_is | kernel_rfl)
    (case q_NoText => first | k_is | kernel_rfl)
    (case q_NoForm => first | k_is | kernel_rfl)
    (case q_NoneYet => first | k_is | kernel_rfl)
    (case a0 => first | k_is | kernel_rfl)
    (case l0 => first | k_is | kernel_rfl)
    (case c0 => first | k_is | kernel_rfl)
    (case k0 => first | k_is | kernel_rfl)
    (case a1 => first | k_is | kernel_rfl)
    (case l1 => first | k_is | kernel_rfl)
    (case c1 => first | k_is | kernel_rfl)
    (case k1 => first | k_is | kernel_rfl)
    (case a2 => first | k_is | kernel_rfl)
    (case l2 => first | k_is | kernel_rfl)
    (case c2 => first | k_is | kernel_rfl)
    (case k2 => first | k_is | kernel_rfl)
    (case a3 => first | k_is | kernel_rfl)
    (case l3 => first | k_is | kernel_rfl)
    (case c3 => first | k_is | kernel_rfl)
    (case k3 => first | k_is | kernel_rfl)
    (case a4 => first | k_is | kernel_rfl)
    (case l4 => first | k_is | kernel_rfl)
    (case c4 => first | k_is | kernel_rfl)
    (case k4 => first | k_is | kernel_rfl)
    (case a5 => first | k_is | kernel_rfl)
    (case l5 => first | k_is | kernel_rfl)
    (case c5 => first | k_is | kernel_rfl)
    (case k5 => first | k_is | kernel_rfl)
    (case a6 => first | k_is | kernel_rfl)
    (case l6 => first | k_is | kernel_rfl)
    (case c6 => first | k_is | kernel_rfl)
    (case k6 => first | k_is | kernel_rfl)
    (case a7 => first | k_is | kernel_rfl)
    (case l7 => first | k_is | kernel_rfl)
    (case c7 => first | k_is | kernel_rfl)
    (case k7 => first | k_is | kernel_rfl)
    (case a8 => first | k_is | kernel_rfl)
    (case l8 => first | k_is | kernel_rfl)
    (case c8 => first | k_is | kernel_rfl)
    (case k8 => first | k_is | kernel_rfl)
    (case a9 => first | k_is | kernel_rfl)
    (case l9 => first | k_is | kernel_rfl)
    (case c9 => first | k_is | kernel_rfl)
    (case k9 => first | k_is | kernel_rfl)
    (case a10 => first | k_is | kernel_rfl)
    (case l10 => first | k_is | kernel_rfl)
    (case c10 => first | k_is | kernel_rfl)
    (case k10 => first | k_is | kernel_rfl)
    (case a11 => first | k_is | kernel_rfl)
    (case l11 => first | k_is | kernel_rfl)
    (case c11 => first | k_is | kernel_rfl)
    (case k11 => first | k_is | kernel_rfl)
    (case a12 => first | k_is | kernel_rfl)
    (case l12 => first | k_is | kernel_rfl)
    (case c12 => first | k_is | kernel_rfl)
    (case k12 => first | k_is | kernel_rfl)
    (case a13 => first | k_is | kernel_rfl)
    (case l13 => first | k_is | kernel_rfl)
    (case c13 => first | k_is | kernel_rfl)
    (case k13 => first | k_is | kernel_rfl)
    (case a14 => first | k_is | kernel_rfl)
    (case l14 => first | k_is | kernel_rfl)
    (case c14 => first | k_is | kernel_rfl)
    (case k14 => first | k_is | kernel_rfl)
    (case a15 => first | k_is | kernel_rfl)
    (case l15 => first | k_is | kernel_rfl)
    (case c15 => first | k_is | kernel_rfl)
    (case k15 => first | k_is | kernel_rfl)
    (case a16 => first | k_is | kernel_rfl)
    (case l16 => first | k_is | kernel_rfl)
    (case c16 => first | k_is | kernel_rfl)
    (case k16 => first | k_is | kernel_rfl)
    (case a17 => first | k_is | kernel_rfl)
    (case l17 => first | k_is | kernel_rfl)
    (case c17 => first | k_is | kernel_rfl)
    (case k17 => first | k_is | kernel_rfl)
    (case a18 => first | k_is | kernel_rfl)
    (case l18 => first | k_is | kernel_rfl)
    (case c18 => first | k_is | kernel_rfl)
    (case k18 => first | k_is | kernel_rfl)
    (case a19 => first | k_is | kernel_rfl)
    (case l19 => first | k_is | kernel_rfl)
    (case c19 => first | k_is | kernel_rfl)
    (case k19 => first | k_is | kernel_rfl)
    (case a20 => first | k_is | kernel_rfl)
    (case l20 => first | k_is | kernel_rfl)
    (case c20 => first | k_is | kernel_rfl)
    (case k20 => first | k_is | kernel_rfl)
    (case q_ROOT => first | k_is | kernel_rfl)
    (case z0 => first | k_is | kernel_rfl)
    (case z1 => first | k_is | kernel_rfl)
    (case z2 => first | k_is | kernel_rfl)
    (case z3 => first | k_is | kernel_rfl)
    (case z4 => first | k_is | kernel_rfl)
    (case z5 => first | k_is | kernel_rfl)
    (case z6 => first | k_is | kernel_rfl)
    (case z7 => first | k_is | kernel_rfl)
    (case z8 => first | k_is | kernel_rfl)
    (case z9 => first | k_is | kernel_rfl)
    (case z10 => first | k_is | kernel_rfl)
    (case z11 => first | k_is | kernel_rfl)
    (case z12 => first | k_is | kernel_rfl)
    (case z13 => first | k_is | kernel_rfl)
    (case z14 => first | k_is | kernel_rfl)
    (case z15 => first | k_is | kernel_rfl)
    (case z16 => first | k_is | kernel_rfl)
    (case z17 => first | k_is | kernel_rfl)
    (case z18 => first | k_is | kernel_rfl)
    (case z19 => first | k_is | kernel_rfl)
    (case z20 => first | k_is | kernel_rfl)
    (case e1 => first | k_is | kernel_rfl)
    (case x7 => first | k_is | kernel_rfl)
    (case x8 => first | k_is | kernel_rfl)
    (case te2 => first | k_is | kernel_rfl)
    (case te3 => first | k_is | kernel_rfl)
    (case tx1 => first | k_is | kernel_rfl)
    (case tx2 => first | k_is | kernel_rfl)
    (case tx3 => first | k_is | kernel_rfl)
    (case tx4 => first | k_is | kernel_rfl)
    (case tx5 => first | k_is | kernel_rfl)
    (case tx6 => first | k_is | kernel_rfl)
    (case ty1 => first | k_is | kernel_rfl)
    (case ty2 => first | k_is | kernel_rfl)
    (case ty3 => first | k_is | kernel_rfl)
    (case ty4 => first | k_is | kernel_rfl)
    (case ty5 => first | k_is | kernel_rfl)
    (case ty6 => first | k_is | kernel_rfl)
    (case ty7 => first | k_is | kernel_rfl)
    (case ty8 => first | k_is | kernel_rfl)
    (case ty9 => first | k_is | kernel_rfl)
    (case tyv => first | k_is | kernel_rfl)
    (case he2 => first | k_is | kernel_rfl)
    (case he3 => first | k_is | kernel_rfl)
    (case hx1 => first | k_is | kernel_rfl)
    (case hx2 => first | k_is | kernel_rfl)
    (case hx3 => first | k_is | kernel_rfl)
    (case hx4 => first | k_is | kernel_rfl)
    (case hx5 => first | k_is | kernel_rfl)
    (case hx6 => first | k_is | kernel_rfl)
    (case hy1 => first | k_is | kernel_rfl)
    (case hy2 => first | k_is | kernel_rfl)
    (case hy3 => first | k_is | kernel_rfl)
    (case hy4 => first | k_is | kernel_rfl)
    (case hy5 => first | k_is | kernel_rfl)
    (case hy6 => first | k_is | kernel_rfl)
    (case hy7 => first | k_is | kernel_rfl)
    (case hy8 => first | k_is | kernel_rfl)
    (case hy9 => first | k_is | kernel_rfl)
    (case hyv => first | k_is | kernel_rfl)

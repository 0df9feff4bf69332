import PyProof.Rows.All
import Wide.All
import OpenK.AllK
import Wide.FinOn
import PyProof.EqAt
import PyProof.EqKinds
import PyProof.TupleCall
import KE.BitLaws
import Open.SpecLaws
import KE.OsHead
import KE.OsGo
import PyFlatLaws
import PySem.Challenge.RW_forestroads_s01_answers
set_option Elab.async false
set_option linter.all false
set_option maxRecDepth 100000
/-! THE HAND LAYER, for ints, bools, texts, own classes, lists, tuples, dicts, comprehensions, walks over dicts, enumerate, zip, reversed, texts, calls, loops. Paste it whole ahead of your own text; what your proof does not reach may be deleted. -/
namespace L2
open PySem PySem.Spec PyProof.Rows

/-- a key: an int or a str -/
abbrev Key := Sum Int Str
def keyIs : Key → Value → Bool
  | .inl k, v => Value.isInt k v
  | .inr x, v => Value.isStrOf x v
def keyH (w : World) : Key → Int
  | .inl k => hashInt k
  | .inr x => hashStr w x
theorem keyIs_shape : ∀ {k : Key} {v : Value}, keyIs k v = true → (∃ i t, k = Sum.inl i ∧ v = Value.int i t) ∨ (∃ x t, k = Sum.inr x ∧ v = Value.str x t)
  | .inl i, v, h => by
    obtain ⟨t, e⟩ := Value.isInt_shape (k := i) (v := v) h
    exact .inl ⟨i, t, rfl, e⟩
  | .inr x, v, h => by
    obtain ⟨t, e⟩ := Value.isStrOf_shape (x := x) (v := v) h
    exact .inr ⟨x, t, rfl, e⟩
theorem key_ll (a b : Int) : decide ((Sum.inl a : Key) = Sum.inl b) = (a == b) := by
  by_cases e : a = b
  · subst e; simp
  · have h : ¬ (Sum.inl a : Key) = Sum.inl b := fun q => e (Sum.inl.inj q)
    rw [decide_eq_false h]
    exact (beq_eq_false_iff_ne.mpr e).symm
theorem key_rr (a b : Str) : decide ((Sum.inr a : Key) = Sum.inr b) = decide (a = b) := by
  by_cases e : a = b
  · subst e; simp
  · have h : ¬ (Sum.inr a : Key) = Sum.inr b := fun q => e (Sum.inr.inj q)
    rw [decide_eq_false h, decide_eq_false e]
theorem key_lr (a : Int) (b : Str) : decide ((Sum.inl a : Key) = Sum.inr b) = false := decide_eq_false (fun q => nomatch q)
theorem key_rl (a : Str) (b : Int) : decide ((Sum.inr a : Key) = Sum.inl b) = false := decide_eq_false (fun q => nomatch q)

def mixKind (prog : Program) (w : World) : PySem.KeyKind prog w Key where
  is := keyIs
  hash := keyH w
  inj := fun v a b ha hb => by
    rcases keyIs_shape ha with ⟨i, t, rfl, rfl⟩ | ⟨x, t, rfl, rfl⟩
    · rcases keyIs_shape hb with ⟨j, u, rfl, e⟩ | ⟨y, u, rfl, e⟩
      · injection e with e1 _; rw [e1]
      · exact nomatch e
    · rcases keyIs_shape hb with ⟨j, u, rfl, e⟩ | ⟨y, u, rfl, e⟩
      · exact nomatch e
      · injection e with e1 _; rw [e1]
  byValue := fun k v h => by
    rcases keyIs_shape h with ⟨i, t, rfl, rfl⟩ | ⟨x, t, rfl, rfl⟩ <;> rfl
  pyHash := fun hv h => by
    rcases keyIs_shape hv with ⟨i, t, rfl, rfl⟩ | ⟨x, t, rfl, rfl⟩
    · exact wpAny_pyHash_int h
    · exact wpAny_pyHash_str h
  eqBool := fun hu hv h => by
    rcases keyIs_shape hu with ⟨i, t, rfl, rfl⟩ | ⟨x, t, rfl, rfl⟩
    · rcases keyIs_shape hv with ⟨j, u, rfl, rfl⟩ | ⟨y, u, rfl, rfl⟩
      · rw [key_ll] at h; exact wpAny_eqBool_int h
      · rw [key_lr] at h; exact SeqAt.EqAt.int_str i t y u _ _ _ _ h
    · rcases keyIs_shape hv with ⟨j, u, rfl, rfl⟩ | ⟨y, u, rfl, rfl⟩
      · rw [key_rl] at h; exact SeqAt.EqAt.str_int x t j u _ _ _ _ h
      · rw [key_rr] at h; exact wpAny_eqBool_str h
  «strs» := fun k x t v h => by
    rcases keyIs_shape h with ⟨i, u, rfl, e⟩ | ⟨y, u, rfl, e⟩
    · exact nomatch e
    · injection e with e1 _
      subst e1
      cases v <;> rfl

end L2

namespace L2
open PySem PySem.Spec PyProof.Rows

/-- a value, without the heap -/
inductive V where
  | non | bl (b : Bool) | int (i : Int) | str (x : Str) | byt (b : Array UInt8) | flt (b : UInt64) | ref (a : Addr) | ty (n : String)
  deriving DecidableEq

def RelV : V → Value → Prop
  | .non, u => u = Value.none
  | .bl b, u => u = Value.bool b
  | .int i, u => ∃ t, u = Value.int i t
  | .str x, u => ∃ t, u = Value.str x t
  | .byt b, u => ∃ t, u = Value.bytes b t
  | .flt b, u => ∃ t, u = Value.float b t
  | .ref a, u => u = Value.ref a
  | .ty n, u => u = Value.type n

abbrev Vals : List V → List Value → Prop := Paired RelV
theorem Vals.length {xs : List V} {us : List Value} (r : Vals xs us) : xs.length = us.length := Paired.length r
theorem Vals.get : ∀ {xs : List V} {us : List Value} {i : Nat} {x : V}, Vals xs us → xs[i]? = some x → ∃ u, us[i]? = some u ∧ RelV x u
  | _, _, _, _, .nil, e => by simp at e
  | _, _, 0, _, .cons r _, e => by simp at e; subst e; exact ⟨_, rfl, r⟩
  | _, _, i + 1, x, .cons _ t, e => by
    obtain ⟨u, h1, h2⟩ := Vals.get (i := i) (x := x) t (by simpa using e)
    exact ⟨u, by simpa using h1, h2⟩
theorem Vals.set {x : V} {u : Value} (r : RelV x u) : ∀ {xs : List V} {us : List Value} (i : Nat), Vals xs us → Vals (xs.set i x) (us.set i u)
  | _, _, _, .nil => .nil
  | _, _, 0, .cons _ t => .cons r t
  | _, _, i + 1, .cons q t => .cons q (Vals.set r i t)
theorem Vals.append : ∀ {xs ys : List V} {us ws : List Value}, Vals xs us → Vals ys ws → Vals (xs ++ ys) (us ++ ws)
  | _, _, _, _, .nil, s => s
  | _, _, _, _, .cons r t, s => .cons r (Vals.append t s)
theorem Vals.take : ∀ {xs : List V} {us : List Value} (n : Nat), Vals xs us → Vals (xs.take n) (us.take n)
  | _, _, 0, _ => .nil
  | _, _, _ + 1, .nil => .nil
  | _, _, n + 1, .cons r t => .cons r (Vals.take n t)
theorem Vals.drop : ∀ {xs : List V} {us : List Value} (n : Nat), Vals xs us → Vals (xs.drop n) (us.drop n)
  | _, _, 0, r => r
  | _, _, _ + 1, .nil => .nil
  | _, _, n + 1, .cons _ t => Vals.drop n t
theorem Vals.none_of : ∀ {xs : List V} {us : List Value} {i : Nat}, Vals xs us → xs[i]? = none → us[i]? = none := fun {xs us i} r e => by
  have h1 := r.length
  have h2 : xs.length ≤ i := List.getElem?_eq_none_iff.mp e
  exact List.getElem?_eq_none_iff.mpr (by omega)

def RelO : Option V → Option Value → Prop
  | some v, some u => RelV v u
  | none, none => True
  | _, _ => False
def KV {κ : Type} : List (κ × V) → List (κ × Value) → Prop := Paired fun (p : κ × V) (q : κ × Value) => p.1 = q.1 ∧ RelV p.2 q.2

/-- a key of a dict (00_mix): an int or a text -/
def kV : Key → V
  | .inl i => .int i
  | .inr x => .str x

/-- what stands at a tracked address -/
inductive HO where
  /-- a list -/
  | lst (xs : List V)
  /-- a tuple (never changes) -/
  | tup (xs : List V)
  /-- a dict whose keys are ints and texts; one whose keys are tuples of ints and texts (the empty one is both) -/
  | dK (kvs : List (Key × V)) | dT (kvs : List (List Key × V))
  /-- a set of ints: its members, its size -/
  | set (S : Int → Bool) (n : Nat)
  /-- an instance of the class at C, its dict at dx, its attributes -/
  | ins (C dx : Addr) (fs : List (Str × V))
  /-- the dict of the instance at x -/
  | own (x : Addr)
  /-- the dict of an exception -/
  | xd (fs : List (Str × V))
  /-- a bound method, f of x -/
  | met (f x : Addr)
  /-- a range object lo, lo + 1, .. below hi -/
  | rng (lo hi : Int)
  /-- a thing that is known to the object (the script; a dict while a loop walks it): read, never written while it is so -/
  | frz (o : Obj) (u : HO)
  /-- a code object's table -/
  | tbl (ps : Array Value)
  /-- any other thing, by what is true of its one object (a def of one's own: SetO a S n := HO.ext fun h => ..) -/
  | ext (φ : Heap → Prop)

abbrev Hp := Addr → Option HO
def upd (H : Hp) (a : Addr) (o : HO) : Hp := fun b => if b = a then some o else H b
theorem upd_same {H : Hp} {a : Addr} {o : HO} : upd H a o a = some o := by unfold upd; rw [if_pos rfl]
theorem upd_ne {H : Hp} {a b : Addr} {o : HO} (h : b ≠ a) : upd H a o b = H b := by unfold upd; rw [if_neg h]
/-- two objects of different content stand apart -/
theorem ne_of {H : Hp} {a b : Addr} {o u : HO} (h : H a = some o) (h' : H b = some u) (d : o ≠ u) : a ≠ b := by
  intro e; subst e; rw [h] at h'; exact d (Option.some.inj h')
theorem ne_of_none {H : Hp} {a b : Addr} {o : HO} (h : H a = some o) (h' : H b = none) : a ≠ b := by
  intro e; subst e; rw [h] at h'; cases h'

section
variable (P : Program) (w : World)
def ObjOk (H : Hp) (h : Heap) (a : Addr) : HO → Prop
  | .lst xs => xs.length ≤ sizeLine ∧ ∃ (its : List Value) (n : Nat), Vals xs its ∧ h.get? a = some { cls := .type "list", data := .seq its.toArray n }
  | .tup xs => xs.length ≤ sizeLine ∧ ∃ its : List Value, Vals xs its ∧ IsTup h a its.toArray
  | .dK kvs => kvs.length ≤ sizeLine ∧ (a == sysModules) = false ∧ ∃ vs, KV kvs vs ∧ h.DictOf (mixKind P w) a vs
  | .dT kvs => kvs.length ≤ sizeLine ∧ (a == sysModules) = false ∧ ∃ xs : List (List Key × Addr × Value),
      Paired (fun (p : List Key × V) (q : List Key × Addr × Value) => p.1 = q.1 ∧ H q.2.1 = some (.tup (p.1.map kV)) ∧ RelV p.2 q.2.2) kvs xs ∧
      ∃ o es ep, h.get? a = some o ∧ o.ExactDict ∧ o.data = .dict es ep ∧ es.toList = xs.map (entryOfKey (tupleKind (mixKind P w))) ∧ (xs.map (·.1)).Nodup
  | .set S n => h.SetOf (intKind P w) a S n
  | .ins C dx fs => H dx = some (.own a) ∧ fs.length ≤ 1000 ∧ dx ≠ a ∧ h.get? a = some (PySem.W.instObj C dx) ∧
      ∃ mA, h.Ns1 dx mA ∧ (∀ f, RelO (fs.lookup f) (mA f)) ∧ PySem.Within mA (fs.map (·.1))
  | .own _ => ∃ o, h.get? a = some o
  | .xd fs => ∃ mA, h.Ns1 a mA ∧ ∀ f, RelO (fs.lookup f) (mA f)
  | .rng lo hi => ∃ t u v, h.get? a = some { cls := .type "range", data := .fields #[.int lo t, .int hi u, .int 1 v] }
  | .frz o u => h.get? a = some o ∧ ObjOk H h a u
  | .tbl ps => h.get? a = some { cls := .none, data := .fields ps }
  | .met f x => h.get? a = some (PySem.W.methodObj (.ref f) (.ref x))
  | .ext φ => φ h ∧ (∃ o, h.get? a = some o) ∧ ∀ h1 h2 : Heap, φ h1 → (∀ o, h1.get? a = some o → h2.get? a = some o) → φ h2
/-- the abstract heap is held -/
def HOk (H : Hp) (h : Heap) : Prop := ∀ a o, H a = some o → ObjOk P w H h a o
end

section
variable {P : Program} {w : World} {H H' : Hp} {h h' : Heap} {a : Addr} {o : HO}
theorem ObjOk.lt (x : ObjOk P w H h a o) : a < h.objs.size := by
  cases o with
  | lst xs => obtain ⟨_, _, _, _, e⟩ := x; exact Heap.lt_size e
  | tup xs => obtain ⟨_, _, _, p⟩ := x; exact p.lt
  | dK kvs => obtain ⟨_, _, _, _, o, _, _, e, _⟩ := x; exact Heap.lt_size e
  | dT kvs => obtain ⟨_, _, _, _, o, _, _, e, _⟩ := x; exact Heap.lt_size e
  | set S n => obtain ⟨o, _, _, _, e, _⟩ := x; exact Heap.lt_size e
  | ins C dx fs => obtain ⟨_, _, _, e, _⟩ := x; exact Heap.lt_size e
  | own y => obtain ⟨_, e⟩ := x; exact Heap.lt_size e
  | xd fs => obtain ⟨_, ⟨_, _, _, e, _⟩, _⟩ := x; exact Heap.lt_size e
  | rng lo hi => obtain ⟨_, _, _, e⟩ := x; exact Heap.lt_size e
  | frz ob u => obtain ⟨e, _⟩ := x; exact Heap.lt_size e
  | tbl ps => exact Heap.lt_size (show h.get? a = some _ from x)
  | met f y => exact Heap.lt_size (show h.get? a = some _ from x)
  | ext φ => obtain ⟨_, ⟨_, e⟩, _⟩ := x; exact Heap.lt_size e
theorem Paired.mapP {α β : Type} {F G : α → β → Prop} : ∀ {l₁ : List α} {l₂ : List β}, Paired F l₁ l₂ → (∀ a b, F a b → G a b) → Paired G l₁ l₂
  | _, _, .nil, _ => .nil
  | _, _, .cons r t, f => .cons (f _ _ r) (Paired.mapP t f)
/-- what an object's description leans on: its own object, its own dict, the tuples -/
theorem ObjOk.stay (x : ObjOk P w H h a o) (k : ∀ b u, (b = a ∨ H b = some (.own a)) → h.get? b = some u → h'.get? b = some u)
    (ho : ∀ b, H b = some (.own a) → H' b = some (.own a)) (ht : ∀ b xs, H b = some (.tup xs) → H' b = some (.tup xs)) : ObjOk P w H' h' a o := by
  induction o with
  | lst xs => obtain ⟨z, its, n, r, e⟩ := x; exact ⟨z, its, n, r, k _ _ (.inl rfl) e⟩
  | tup xs => obtain ⟨z, its, r, ob, e, c⟩ := x; exact ⟨z, its, r, ob, k _ _ (.inl rfl) e, c⟩
  | dK kvs => obtain ⟨z, y, vs, r, ob, es, ep, e, c⟩ := x; exact ⟨z, y, vs, r, ob, es, ep, k _ _ (.inl rfl) e, c⟩
  | dT kvs =>
    obtain ⟨z, y, xs, r, ob, es, ep, e, c⟩ := x
    exact ⟨z, y, xs, Paired.mapP r fun p q z => ⟨z.1, ht _ _ z.2.1, z.2.2⟩, ob, es, ep, k _ _ (.inl rfl) e, c⟩
  | set S n => obtain ⟨ob, es, ep, t, e, c⟩ := x; exact ⟨ob, es, ep, t, k _ _ (.inl rfl) e, c⟩
  | ins C dx fs =>
    obtain ⟨d, z, ne, e, mA, ⟨od, es, ep, e2, c⟩, r⟩ := x
    exact ⟨ho _ d, z, ne, k _ _ (.inl rfl) e, mA, ⟨od, es, ep, k _ _ (.inr d) e2, c⟩, r⟩
  | own y => obtain ⟨ob, e⟩ := x; exact ⟨ob, k _ _ (.inl rfl) e⟩
  | xd fs => obtain ⟨mA, ⟨od, es, ep, e, c⟩, r⟩ := x; exact ⟨mA, ⟨od, es, ep, k _ _ (.inl rfl) e, c⟩, r⟩
  | rng lo hi => obtain ⟨t, u, v, e⟩ := x; exact ⟨t, u, v, k _ _ (.inl rfl) e⟩
  | frz ob u ih => obtain ⟨e, q⟩ := x; exact ⟨k _ _ (.inl rfl) e, ih q⟩
  | tbl ps =>
    have e : h.get? a = some { cls := .none, data := .fields ps } := x
    show h'.get? a = some { cls := .none, data := .fields ps }
    exact k a _ (.inl rfl) e
  | met f y =>
    have e : h.get? a = some (PySem.W.methodObj (.ref f) (.ref y)) := x
    show h'.get? a = some (PySem.W.methodObj (.ref f) (.ref y))
    exact k a _ (.inl rfl) e
  | ext φ => obtain ⟨p, ⟨o, e⟩, st⟩ := x; exact ⟨st _ _ p fun o q => k _ _ (.inl rfl) q, ⟨o, k _ _ (.inl rfl) e⟩, st⟩
theorem HOk.lt (x : HOk P w H h) (e : H a = some o) : a < h.objs.size := (x a o e).lt
theorem HOk.fresh (x : HOk P w H h) (e : h.objs.size ≤ a) : H a = none := by
  cases q : H a with
  | none => rfl
  | some u => exact absurd (Nat.lt_of_lt_of_le (x.lt q) e) (Nat.lt_irrefl _)
/-- every object of the heap is kept -/
theorem HOk.kept (x : HOk P w H h) (k : ∀ b u, h.get? b = some u → h'.get? b = some u) : HOk P w H h' := fun a o e =>
  (x a o e).stay (fun b u _ q => k b u q) (fun _ q => q) fun _ _ q => q
/-- a new object is laid and tracked -/
theorem HOk.laid (x : HOk P w H h) (k : ∀ b u, h.get? b = some u → h'.get? b = some u) (hp : h.objs.size ≤ a) (new : ObjOk P w (upd H a o) h' a o) : HOk P w (upd H a o) h' := fun b u e => by
  have hn := x.fresh hp
  by_cases hb : b = a
  · subst hb; rw [upd_same] at e; cases e; exact new
  · rw [upd_ne hb] at e
    exact (x b u e).stay (fun c v _ q => k c v q) (fun c q => by rw [upd_ne (ne_of_none q hn)]; exact q) fun c xs q => by rw [upd_ne (ne_of_none q hn)]; exact q
end

/-- what may be read as u: it is u, or a known u -/
def Rd (H : Hp) (a : Addr) (u : HO) : Prop := H a = some u ∨ ∃ o, H a = some (.frz o u)
theorem Rd.of {H : Hp} {a : Addr} {u : HO} (h : H a = some u) : Rd H a u := .inl h
theorem Rd.ok {P : Program} {w : World} {H : Hp} {h : Heap} {a : Addr} {u : HO} (r : Rd H a u) (x : HOk P w H h) : ObjOk P w H h a u := by
  rcases r with r | ⟨o, r⟩
  · exact x a u r
  · obtain ⟨_, q⟩ := x a _ r
    exact q
/-- what may be written -/
def Mut : Option HO → Prop
  | some (.lst _) => True
  | some (.dK _) => True
  | some (.dT _) => True
  | some (.set _ _) => True
  | some (.ins _ _ _) => True
  | some (.ext _) => True
  | _ => False
section
variable {P : Program} {w : World} {H : Hp} {h h' : Heap} {x e : Addr} {o' : HO}
/-- the object at e is changed: x itself, or the dict of the instance x -/
theorem HOk.write (ok : HOk P w H h) (mu : Mut (H x)) (he : e = x ∨ H e = some (.own x)) (k : ∀ b u, b ≠ e → h.get? b = some u → h'.get? b = some u) (heo : ∃ u, h'.get? e = some u)
    (new : ObjOk P w (upd H x o') h' x o') : HOk P w (upd H x o') h' := fun b u q => by
  have nown : ∀ c y, H c = some (.own y) → c ≠ x := fun c y r z => by subst z; rw [r] at mu; exact mu
  have ntup : ∀ c xs, H c = some (.tup xs) → c ≠ x := fun c xs r z => by subst z; rw [r] at mu; exact mu
  by_cases hb : b = x
  · subst hb; rw [upd_same] at q; cases q; exact new
  · rw [upd_ne hb] at q
    by_cases hbe : b = e
    · have q' : H b = some (.own x) := by
        rcases he with z | z
        · exact absurd (hbe.trans z) hb
        · rw [hbe]; exact z
      rw [q] at q'; cases q'
      obtain ⟨v, hv⟩ := heo
      exact ⟨v, by rw [hbe]; exact hv⟩
    · refine (ok b u q).stay (fun c v hc r => k c v ?_ r) (fun c r => by rw [upd_ne (nown c b r)]; exact r) fun c xs r => by rw [upd_ne (ntup c xs r)]; exact r
      rcases hc with rfl | hc
      · exact hbe
      · rintro rfl
        rcases he with z | z
        · exact nown c b hc z
        · rw [hc] at z; cases z; exact hb rfl
end

/-! ### kept unless tracked; of the frames at fs (the callers') the slots may change (an exception that passes writes there); of the records at ex (iterators) nothing is said -/
structure Un (fs ex : List Addr) (H H' : Hp) (h h' : Heap) : Prop where
  keep : ∀ b o, h.get? b = some o → H b = none → b ∉ fs → b ∉ ex → h'.get? b = some o
  slot : ∀ b o, h.get? b = some o → H b = none → b ∈ fs → b ∉ ex → ∃ sl, h'.get? b = some { o with slots := sl }
  free : ∀ b o, h.get? b = some o → H b = none → b ∉ ex → H' b = none
  there : ∀ b o, h.get? b = some o → b ∉ ex → ∃ o', h'.get? b = some o'
  tups : ∀ b xs, H b = some (.tup xs) → H' b = some (.tup xs)
  frzs : ∀ b o u, H b = some (.frz o u) → H' b = some (.frz o u)
  tbls : ∀ b ps, H b = some (.tbl ps) → ∃ more, H' b = some (.tbl (ps ++ more))
section
variable {fs fs' ex ex' : List Addr} {H H1 H2 : Hp} {h h1 h2 h' : Heap} {a x e : Addr} {o : HO}
theorem Un.any (u : Un fs ex H H1 h h1) {b : Addr} {ob : Obj} (q : h.get? b = some ob) (n : H b = none) (hx : b ∉ ex) : ∃ sl, h1.get? b = some { ob with slots := sl } := by
  by_cases hb : b ∈ fs
  · exact u.slot b ob q n hb hx
  · exact ⟨ob.slots, u.keep b ob q n hb hx⟩
theorem Un.trans (a : Un fs ex H H1 h h1) (b : Un fs ex H1 H2 h1 h2) : Un fs ex H H2 h h2 where
  keep := fun c ob q n hc hx => b.keep c ob (a.keep c ob q n hc hx) (a.free c ob q n hx) hc hx
  slot := fun c ob q n hc hx => by
    obtain ⟨sl, e1⟩ := a.slot c ob q n hc hx
    obtain ⟨sl', e2⟩ := b.slot c _ e1 (a.free c ob q n hx) hc hx
    exact ⟨sl', e2⟩
  free := fun c ob q n hx => by
    obtain ⟨o', e1⟩ := a.there c ob q hx
    exact b.free c o' e1 (a.free c ob q n hx) hx
  there := fun c ob q hx => by
    obtain ⟨o', e1⟩ := a.there c ob q hx
    exact b.there c o' e1 hx
  tups := fun c xs q => b.tups c xs (a.tups c xs q)
  frzs := fun c ob xs q => b.frzs c ob xs (a.frzs c ob xs q)
  tbls := fun c ps q => by
    obtain ⟨m1, e1⟩ := a.tbls c ps q
    obtain ⟨m2, e2⟩ := b.tbls c _ e1
    exact ⟨m1 ++ m2, by rw [e2, Array.append_assoc]⟩
theorem Un.kept (k : ∀ b u, h.get? b = some u → h'.get? b = some u) : Un fs ex H H h h' :=
  ⟨fun b ob q _ _ _ => k b ob q, fun b ob q _ _ _ => ⟨ob.slots, k b ob q⟩, fun _ _ _ n _ => n, fun b ob q _ => ⟨ob, k b ob q⟩, fun _ _ q => q, fun _ _ _ q => q, fun _ ps q => ⟨#[], by rw [q]; simp⟩⟩
theorem Un.refl : Un fs ex H H h h := Un.kept fun _ _ q => q
theorem Un.laid (k : ∀ b u, h.get? b = some u → h'.get? b = some u) (hp : h.objs.size ≤ a) (hn : H a = none) : Un fs ex H (upd H a o) h h' where
  keep := fun b u q _ _ _ => k b u q
  slot := fun b u q _ _ _ => ⟨u.slots, k b u q⟩
  free := fun b u q n _ => by rw [upd_ne (Nat.ne_of_lt (Nat.lt_of_lt_of_le (Heap.lt_size q) hp))]; exact n
  there := fun b u q _ => ⟨u, k b u q⟩
  tups := fun b xs q => by rw [upd_ne (ne_of_none q hn)]; exact q
  frzs := fun b u xs q => by rw [upd_ne (ne_of_none q hn)]; exact q
  tbls := fun b ps q => ⟨#[], by rw [upd_ne (ne_of_none q hn), q]; simp⟩
theorem Un.write (mu : Mut (H x)) (he : e = x ∨ H e = some (.own x)) (k : ∀ b u, b ≠ e → h.get? b = some u → h'.get? b = some u) (heo : ∃ u, h'.get? e = some u) : Un fs ex H (upd H x o) h h' := by
  have hx : ∀ b, H b = none → b ≠ x := fun b n z => by subst z; rw [n] at mu; exact mu
  have hb : ∀ b, H b = none → b ≠ e := fun b n z => by
    subst z
    rcases he with r | r
    · exact hx b n r
    · rw [n] at r; cases r
  have hm : ∀ b u, H b = some u → ¬ Mut (some u) → b ≠ x := fun b u q nm z => by subst z; rw [q] at mu; exact nm mu
  refine ⟨fun b u q n _ _ => k b u (hb b n) q, fun b u q n _ _ => ⟨u.slots, k b u (hb b n) q⟩, fun b u q n _ => by rw [upd_ne (hx b n)]; exact n, fun b u q _ => ?_,
    fun b xs q => by rw [upd_ne (hm b _ q fun z => z)]; exact q, fun b u xs q => by rw [upd_ne (hm b _ q fun z => z)]; exact q, fun b ps q => ⟨#[], by rw [upd_ne (hm b _ q fun z => z), q]; simp⟩⟩
  by_cases hbe : b = e
  · subst hbe; exact heo
  · exact ⟨u, k b u hbe q⟩
theorem Un.mono (u : Un fs ex H H1 h h1) (hs : ∀ b ∈ fs, b ∈ fs') (hx : ∀ b ∈ ex, b ∈ ex') : Un fs' ex' H H1 h h1 :=
  ⟨fun b ob q n hb he => u.keep b ob q n (fun z => hb (hs b z)) fun z => he (hx b z), fun _ _ q n _ he => u.any q n fun z => he (hx _ z), fun b ob q n he => u.free b ob q n fun z => he (hx b z), fun b ob q he => u.there b ob q fun z => he (hx b z), u.tups, u.frzs, u.tbls⟩
end

/-! ### the heap without what is tracked -/
def trk (h : Heap) (H : Hp) : List Addr := (List.range h.objs.size).filter fun a => (H a).isSome
def hidT (h : Heap) (H : Hp) : Heap := PySem.W.hideAll h (trk h H)
theorem hidT_size (h : Heap) (H : Hp) : (hidT h H).objs.size = h.objs.size := PySem.W.hideAll_size _ _
theorem hidT_get {h : Heap} {H : Hp} {b : Addr} {o : Obj} (e : h.get? b = some o) (n : H b = none) : (hidT h H).get? b = some o :=
  PySem.W.hideAll_get _ e fun hm => by
    have q : (H b).isSome = true := (List.mem_filter.mp hm).2
    rw [n] at q; simp at q
theorem of_hidT {h : Heap} {H : Hp} {b : Addr} {o : Obj} (e : (hidT h H).get? b = some o) : h.get? b = some o ∧ H b = none := by
  have e' : h.get? b = some o := PySem.W.of_hideAll (trk h H) e
  refine ⟨e', ?_⟩
  cases q : H b with
  | none => rfl
  | some x =>
    have hm : b ∈ trk h H := List.mem_filter.mpr ⟨List.mem_range.mpr (Heap.lt_size e'), by simp [q]⟩
    have z : (hidT h H).get? b = none := PySem.W.hideAll_none (trk h H) hm
    rw [z] at e; cases e

/-! ### OpenK's ledger, filled with every new object but one -/
def allNews (g h : Heap) (L : Addr) : List (Addr × Obj) := (List.range h.objs.size).filterMap fun a => if a = L ∨ (g.get? a).isSome = true then none else (h.get? a).map fun o => (a, o)
def rest (g h : Heap) (L d : Addr) : List (Addr × Obj) := (allNews g h L).filter fun p => decide (p.1 ≠ d)
end L2

namespace L2
open PySem PySem.Spec PyProof.Rows

/-- the module's facts, over the base: the heap at the law's entry without what is tracked there -/
structure Mod (K : PySem.W.Frag) (mg : Str → Option Value) (base : Heap) : Prop where
  kin : K.In base
  glob : base.Ns mainGlobals mg
  blt : ∃ mb, base.Ns builtinsNs mb ∧ ∀ x : Str, x ≠ "__name__" → mb x = bootBuiltins x
  nolimit : base.NoLimit

/-- the context: a def's body (or a comprehension's block) running. base: fixed through the whole law; s₀, H₀: the entry; outer: the frames whose slots others may change (a def's callers); stack: all frames that run;
   ex: iterators that were made ahead of the entry and are walked here (a comprehension's); fn: the names whose cells were made at the entry (a def: all; a comprehension's block: its own); calm: not within an except suite; pn: pins that every state bears; xe: what is wanted of an exception that leaves the code -/
structure Cx where
  prog : Program
  w : World
  K : PySem.W.Frag
  mg : Str → Option Value
  base : Heap
  A : Around
  N : List Str
  s_0 : Shared
  H_0 : Hp
  env : Env
  outer : List Env
  stack : List Env
  ex : List Addr
  fn : Str → Bool
  calm : Bool
  pn : List (Addr × Obj)
  xe : Value → Shared → Prop
/-- the callers' frames -/
def frs (l : List Env) : List Addr := l.filterMap (·.frame)
abbrev Cx.fs (X : Cx) : List Addr := frs X.outer

def Vis (sc : Scope) (x : Str) : Prop := sc.names.lookup x = some .local ∨ sc.names.lookup x = some .cell ∨ sc.names.lookup x = some .free
def Loc (sc : Scope) (x : Str) : Prop := sc.names.lookup x = some .local ∨ sc.names.lookup x = some .cell
def Look (env : Env) (h : Heap) (m : Str → Option Value) (x : Str) (u : Value) : Prop :=
  (env.kindOf x = some .local ∧ m x = some u) ∨ ((env.kindOf x = some .cell ∨ env.kindOf x = some .free) ∧ ∃ c, env.cells.lookup x = some c ∧ h.IsCell c (some u))

structure Cx.Ok (X : Cx) : Prop where
  mod : Mod X.K X.mg X.base
  kind : X.env.scope.kind = .function
  glob : X.env.globals = mainGlobals
  blt : X.env.builtins = builtinsNs
  above : X.s_0.heap.objs.size ≤ X.env.locals
  inj : ∀ x y c, X.env.cells.lookup x = some c → X.env.cells.lookup y = some c → x = y
  has : ∀ x, (X.env.kindOf x = some .cell ∨ X.env.kindOf x = some .free) → ∃ c, X.env.cells.lookup x = some c
  cab : ∀ x c, X.fn x = true → X.env.cells.lookup x = some c → X.s_0.heap.objs.size ≤ c
  hd : X.calm = true → X.A.handled = none
  frames : X.A.frames = some X.stack
  stk : X.stack = X.outer ∨ (X.stack = X.env :: X.outer ∧ X.env.frame = some X.env.locals)
  exf : ∀ b ∈ X.ex, b ≠ X.env.locals ∧ ∀ x c, X.env.cells.lookup x = some c → c ≠ b
  bs : ∀ b o, X.base.get? b = some o → X.s_0.heap.get? b = some o ∧ X.H_0 b = none
  bsz : X.base.objs.size ≤ X.s_0.heap.objs.size
  noex : ∀ b o, X.base.get? b = some o → b ∉ X.ex
  exfs : ∀ b ∈ X.ex, b ∉ X.fs
  funs : X.s_0.heap.FunFrames X.base X.outer
  frf : ∀ b ∈ X.fs, X.H_0 b = none

structure Inv (X : Cx) (pins : List (Addr × Obj)) (σ : List (Option V)) (H : Hp) (s : Shared) : Prop where
  ok : X.Ok
  os : s.os = X.s_0.os
  bare : AllBare s.gens
  base : Un X.fs X.ex X.H_0 H X.s_0.heap s.heap
  loc : ∃ m, s.heap.Ns X.env.locals m ∧ ∀ (i : Nat) (x : Str) (v : V), X.N[i]? = some x → σ[i]? = some (some v) → Vis X.env.scope x → ∃ u, RelV v u ∧ Look X.env s.heap m x u
  cell : ∀ x c, X.env.cells.lookup x = some c → ∃ v, s.heap.IsCell c v
  free : H X.env.locals = none
  freeC : ∀ x c, X.env.cells.lookup x = some c → H c = none
  pin : ∀ p ∈ X.pn ++ pins, s.heap.get? p.1 = some p.2 ∧ H p.1 = none ∧ p.1 ≠ X.env.locals ∧ p.1 ∉ X.fs ∧ ∀ v, p.2.data ≠ .cell v
  hok : HOk X.prog X.w H s.heap
  len : σ.length = X.N.length

section
variable {X : Cx} {pins : List (Addr × Obj)} {σ : List (Option V)} {H H' : Hp} {s : Shared} {h' : Heap}

theorem Cx.Ok.nofr (ok : X.Ok) {b : Addr} {o : Obj} (e : X.base.get? b = some o) : b ∉ X.fs := fun hb => by
  have := (ok.funs.mem hb).1
  rw [e] at this; cases this
theorem Inv.bs (I : Inv X pins σ H s) : ∀ b o, X.base.get? b = some o → s.heap.get? b = some o ∧ H b = none := fun b o e =>
  ⟨I.base.keep b o (I.ok.bs b o e).1 (I.ok.bs b o e).2 (I.ok.nofr e) (I.ok.noex b o e), I.base.free b o (I.ok.bs b o e).1 (I.ok.bs b o e).2 (I.ok.noex b o e)⟩
theorem Inv.bk (I : Inv X pins σ H s) : ∀ b o, X.base.get? b = some o → s.heap.get? b = some o := fun b o e => (I.bs b o e).1
theorem Inv.mod (I : Inv X pins σ H s) : Mod X.K X.mg X.base := I.ok.mod
theorem Inv.kIn (I : Inv X pins σ H s) : X.K.In s.heap := I.ok.mod.kin.keeps I.bk
theorem Inv.nolimit (I : Inv X pins σ H s) : s.heap.NoLimit := I.ok.mod.nolimit.keeps I.bk
/-- the frame over the base: for OpenK's rules (K.In X.base is I.mod.kin) -/
theorem Inv.fr (I : Inv X pins σ H s) : ∃ m, Fr X.base X.env.locals s.heap m :=
  let ⟨m, hn, _⟩ := I.loc
  ⟨m, hn, I.bk, Nat.le_trans I.ok.bsz I.ok.above⟩
theorem Inv.lt (I : Inv X pins σ H s) : X.env.locals < s.heap.objs.size := let ⟨_, hn, _⟩ := I.loc; hn.lt
theorem Inv.sz (I : Inv X pins σ H s) : X.s_0.heap.objs.size ≤ s.heap.objs.size := Nat.le_trans I.ok.above (Nat.le_of_lt I.lt)
theorem Inv.nofs (I : Inv X pins σ H s) {a : Addr} (h : s.heap.objs.size ≤ a) : a ∉ X.fs := fun hb => by
  obtain ⟨_, o, ho, _⟩ := I.ok.funs.mem hb
  exact absurd (Nat.lt_of_lt_of_le (Heap.lt_size ho) (Nat.le_trans I.sz h)) (Nat.lt_irrefl _)
theorem Inv.cne (I : Inv X pins σ H s) : ∀ x c, X.env.cells.lookup x = some c → c ≠ X.env.locals := fun x c e z => by
  obtain ⟨v, o, ho, hd⟩ := I.cell x c e
  obtain ⟨m, ⟨o', es, ep, ho', hd', _⟩, _⟩ := I.loc
  rw [z, ho'] at ho; cases ho; rw [hd'] at hd; cases hd
theorem Inv.funs (I : Inv X pins σ H s) : s.heap.FunFrames X.base X.outer := by
  have all : ∀ (l : List Env), (∀ b ∈ frs l, b ∈ X.fs) → X.s_0.heap.FunFrames X.base l → s.heap.FunFrames X.base l := by
    intro l
    induction l with
    | nil => intro _ _; trivial
    | cons env r ih =>
      intro hs hl
      obtain ⟨hk, ⟨L, o, hf, hn, ho, hd⟩, hr⟩ := hl
      have hL : L ∈ X.fs := hs L (by unfold frs; rw [List.filterMap_cons, hf]; exact List.mem_cons_self)
      obtain ⟨sl, e⟩ := I.base.slot L o ho (I.ok.frf L hL) hL fun z => I.ok.exfs L z hL
      exact ⟨hk, ⟨L, _, hf, hn, e, hd⟩, ih (fun b hb => hs b (by unfold frs; rw [List.filterMap_cons, hf]; exact List.mem_cons_of_mem _ hb)) hr⟩
  exact all X.outer (fun _ hb => hb) I.ok.funs

/-- the frames that run, for a call -/
theorem Inv.stack (I : Inv X pins σ H s) : s.heap.FunFrames X.base X.stack := by
  rcases I.ok.stk with e | ⟨e, hf⟩
  · rw [e]; exact I.funs
  · rw [e]
    obtain ⟨m, hn, _⟩ := I.loc
    refine .cons (by rw [I.ok.kind]; decide) hf hn ?_ I.funs
    exact Heap.get?_none_of_le (Nat.le_trans I.ok.bsz I.ok.above)
theorem Inv.stkSub (I : Inv X pins σ H s) : ∀ b ∈ frs X.stack, b ∈ X.env.locals :: X.fs := fun b hb => by
  rcases I.ok.stk with e | ⟨e, hf⟩
  · rw [e] at hb; exact List.mem_cons_of_mem _ hb
  · rw [e] at hb
    unfold frs at hb
    rw [List.filterMap_cons, hf] at hb
    exact hb
theorem Inv.stkFree (I : Inv X pins σ H s) : ∀ b ∈ frs X.stack, H b = none := fun b hb => by
  rcases List.mem_cons.mp (I.stkSub b hb) with e | hb
  · rw [e]; exact I.free
  · obtain ⟨_, o, ho, _⟩ := I.ok.funs.mem hb
    exact I.base.free b o ho (I.ok.frf b hb) fun z => I.ok.exfs b z hb

/-- THE STEP: the untracked objects but the frame and the records at ch are kept (the callers' frames up to slots), the frame's map is kept, the new abstract heap is held -/
theorem Inv.step {g' : Array GenState} {t' : Nat} {d' : Drawn} {ch : List Addr} (I : Inv X pins σ H s)
    (hch : ∀ b ∈ ch, (b ∈ X.ex ∨ X.s_0.heap.objs.size ≤ b) ∧ b ≠ X.env.locals ∧ (∀ x c, X.env.cells.lookup x = some c → c ≠ b) ∧ ∀ p ∈ X.pn ++ pins, p.1 ≠ b)
    (keep : ∀ b o, b ≠ X.env.locals → b ∉ X.fs → b ∉ ch → s.heap.get? b = some o → H b = none → h'.get? b = some o)
    (slot : ∀ b o, b ≠ X.env.locals → b ∈ X.fs → b ∉ ch → s.heap.get? b = some o → H b = none → ∃ sl, h'.get? b = some { o with slots := sl }) (free : ∀ b o, b ∉ ch → s.heap.get? b = some o → H b = none → H' b = none)
    (there : ∀ b o, b ∉ ch → s.heap.get? b = some o → ∃ o', h'.get? b = some o')
    (tups : ∀ b xs, H b = some (.tup xs) → H' b = some (.tup xs)) (frzs : ∀ b o u, H b = some (.frz o u) → H' b = some (.frz o u)) (tbls : ∀ b ps, H b = some (.tbl ps) → ∃ more, H' b = some (.tbl (ps ++ more)))
    (ns : ∀ m, s.heap.Ns X.env.locals m → h'.Ns X.env.locals m) (hok : HOk X.prog X.w H' h') (hg : AllBare g') :
    Inv X pins σ H' { s with heap := h', gens := g', drawn := d', toks := t' } := by
  have neL : ∀ b o, X.s_0.heap.get? b = some o → b ≠ X.env.locals := fun b o e => Nat.ne_of_lt (Nat.lt_of_lt_of_le (Heap.lt_size e) I.ok.above)
  have neC : ∀ b o, X.s_0.heap.get? b = some o → b ∉ X.ex → b ∉ ch := fun b o e hx hb => by
    rcases (hch b hb).1 with z | z
    · exact hx z
    · exact absurd (Nat.lt_of_lt_of_le (Heap.lt_size e) z) (Nat.lt_irrefl _)
  have cellK : ∀ x c, X.env.cells.lookup x = some c → ∀ v, s.heap.IsCell c v → h'.IsCell c v := fun x c e v ⟨o, ho, hd⟩ => by
    have nch : c ∉ ch := fun z => (hch c z).2.2.1 x c e rfl
    by_cases hc : c ∈ X.fs
    · obtain ⟨sl, q⟩ := slot c o (I.cne x c e) hc nch ho (I.freeC x c e)
      exact ⟨_, q, hd⟩
    · exact ⟨o, keep c o (I.cne x c e) hc nch ho (I.freeC x c e), hd⟩
  refine ⟨I.ok, I.os, hg, ⟨fun b o e n hb hx => ?_, fun b o e n hb hx => ?_, fun b o e n hx => ?_, fun b o e hx => ?_, fun b xs e => tups b xs (I.base.tups b xs e), fun b o xs e => frzs b o xs (I.base.frzs b o xs e), fun b ps e => ?_⟩, ?_, fun x c e => ?_, ?_, fun x c e => ?_, fun p hp => ?_, hok, I.len⟩
  · exact keep b o (neL b o e) hb (neC b o e hx) (I.base.keep b o e n hb hx) (I.base.free b o e n hx)
  · obtain ⟨sl, e1⟩ := I.base.slot b o e n hb hx
    obtain ⟨sl', e2⟩ := slot b _ (neL b o e) hb (neC b o e hx) e1 (I.base.free b o e n hx)
    exact ⟨sl', e2⟩
  · obtain ⟨o', e1⟩ := I.base.there b o e hx
    exact free b o' (neC b o e hx) e1 (I.base.free b o e n hx)
  · obtain ⟨o', e1⟩ := I.base.there b o e hx
    exact there b o' (neC b o e hx) e1
  · obtain ⟨m1, e1⟩ := I.base.tbls b ps e
    obtain ⟨m2, e2⟩ := tbls b _ e1
    exact ⟨m1 ++ m2, by rw [e2, Array.append_assoc]⟩
  · obtain ⟨m, hn, hl⟩ := I.loc
    refine ⟨m, ns m hn, fun i x v e1 e2 e3 => ?_⟩
    obtain ⟨u, r, l⟩ := hl i x v e1 e2 e3
    refine ⟨u, r, ?_⟩
    rcases l with l | ⟨k, c, e, z⟩
    · exact .inl l
    · exact .inr ⟨k, c, e, cellK x c e _ z⟩
  · obtain ⟨v, z⟩ := I.cell x c e
    exact ⟨v, cellK x c e v z⟩
  · obtain ⟨m, ⟨o, _, _, ho, _⟩, _⟩ := I.loc
    exact free _ o (fun z => (hch _ z).2.1 rfl) ho I.free
  · obtain ⟨v, o, ho, hd⟩ := I.cell x c e
    exact free c o (fun z => (hch c z).2.2.1 x c e rfl) ho (I.freeC x c e)
  · obtain ⟨e, n, ne, nf, d⟩ := I.pin p hp
    have nch : p.1 ∉ ch := fun z => (hch p.1 z).2.2.2 p hp rfl
    exact ⟨keep p.1 p.2 ne nf nch e n, free p.1 p.2 nch e n, ne, nf, d⟩
/-- .. where the frame's own object is kept too -/
theorem Inv.un {t' : Nat} (I : Inv X pins σ H s) (u : Un X.fs [] H H' s.heap h') (hok : HOk X.prog X.w H' h') : Inv X pins σ H' { s with heap := h', toks := t' } := by
  obtain ⟨m, ⟨o, es, ep, ho, r⟩, _⟩ := id I.loc
  obtain ⟨sl, hL⟩ := u.any ho I.free (by simp)
  exact I.step (g' := s.gens) (d' := s.drawn) (ch := []) (fun _ z => nomatch z) (fun b o _ hb _ e n => u.keep b o e n hb (by simp)) (fun b o _ hb _ e n => u.slot b o e n hb (by simp)) (fun b o _ e n => u.free b o e n (by simp)) (fun b o _ e => u.there b o e (by simp)) u.tups u.frzs u.tbls (fun m' hm => by
    obtain ⟨o', es', ep', ho', r'⟩ := hm
    rw [ho] at ho'; cases ho'
    exact ⟨_, es', ep', hL, r'⟩) hok I.bare
/-- behind a call (or a comprehension's block): the slots of this frame may have changed too, the records at ch may have turned -/
theorem Inv.call {g' : Array GenState} {t' : Nat} {d' : Drawn} {ch : List Addr} (I : Inv X pins σ H s) (u : Un (frs X.stack) ch H H' s.heap h') (hok : HOk X.prog X.w H' h') (hg : AllBare g')
    (hch : ∀ b ∈ ch, (b ∈ X.ex ∨ X.s_0.heap.objs.size ≤ b) ∧ b ≠ X.env.locals ∧ (∀ x c, X.env.cells.lookup x = some c → c ≠ b) ∧ ∀ p ∈ X.pn ++ pins, p.1 ≠ b) :
    Inv X pins σ H' { s with heap := h', gens := g', drawn := d', toks := t' } := by
  obtain ⟨m, ⟨o, es, ep, ho, r⟩, _⟩ := id I.loc
  obtain ⟨sl, hL⟩ := u.any ho I.free fun z => (hch _ z).2.1 rfl
  exact I.step (ch := ch) hch (fun b o hL hb hc e n => u.keep b o e n (fun z => (List.mem_cons.mp (I.stkSub b z)).elim hL hb) hc) (fun b o _ _ hc e n => u.any e n hc) (fun b o hc e n => u.free b o e n hc) (fun b o hc e => u.there b o e hc) u.tups u.frzs u.tbls (fun m' hm => by
    obtain ⟨o', es', ep', ho', r'⟩ := hm
    rw [ho] at ho'; cases ho'
    exact ⟨_, es', ep', hL, r'⟩) hok hg
/-- an untracked record of ours (an iterator) has turned -/
theorem Inv.turned {t' : Nat} {it : Addr} (I : Inv X pins σ H s) (k : ∀ b o, b ≠ it → s.heap.get? b = some o → h'.get? b = some o) (hn : H it = none) (hL : it ≠ X.env.locals)
    (h1 : it ∈ X.ex ∨ X.s_0.heap.objs.size ≤ it) (h2 : ∀ x c, X.env.cells.lookup x = some c → c ≠ it) (h3 : ∀ p ∈ X.pn ++ pins, p.1 ≠ it) : Inv X pins σ H { s with heap := h', toks := t' } := by
  have nit : ∀ b u, H b = some u → b ≠ it := fun b u e z => by rw [z, hn] at e; cases e
  refine I.step (g' := s.gens) (d' := s.drawn) (ch := [it]) (fun b hb => ?_) (fun b o _ _ hc e _ => k b o (fun z => hc (by simp [z])) e) (fun b o _ _ hc e _ => ⟨o.slots, k b o (fun z => hc (by simp [z])) e⟩) (fun _ _ _ _ n => n)
    (fun b o hc e => ⟨o, k b o (fun z => hc (by simp [z])) e⟩) (fun _ _ e => e) (fun _ _ _ e => e) (fun b ps e => ⟨#[], by rw [e]; simp⟩) (fun m hm => ?_) (fun b u e => ?_) I.bare
  · have e : b = it := by simpa using hb
    subst e
    exact ⟨h1, hL, h2, h3⟩
  · obtain ⟨o, es, ep, ho, r⟩ := hm
    exact ⟨o, es, ep, k _ o (Ne.symm hL) ho, r⟩
  · refine (I.hok b u e).stay (fun c v hc q => k c v ?_ q) (fun _ q => q) fun _ _ q => q
    rcases hc with z | z
    · rw [z]; exact nit b u e
    · exact nit c _ z
theorem Inv.tok (I : Inv X pins σ H s) (t : Nat) : Inv X pins σ H { s with toks := t } := I.un (h' := s.heap) (t' := t) Un.refl I.hok
/-- all objects kept -/
theorem Inv.kept {t' : Nat} (I : Inv X pins σ H s) (k : ∀ b u, s.heap.get? b = some u → h'.get? b = some u) : Inv X pins σ H { s with heap := h', toks := t' } := I.un (Un.kept k) (I.hok.kept k)
/-- a new object laid and tracked -/
theorem Inv.laid {a : Addr} {o : HO} {t' : Nat} (I : Inv X pins σ H s) (k : ∀ b u, s.heap.get? b = some u → h'.get? b = some u) (hp : s.heap.objs.size ≤ a) (new : ObjOk X.prog X.w (upd H a o) h' a o) :
    Inv X pins σ (upd H a o) { s with heap := h', toks := t' } := I.un (Un.laid k hp (I.hok.fresh hp)) (I.hok.laid k hp new)
/-- an object written -/
theorem Inv.write {x e : Addr} {o : HO} {t' : Nat} (I : Inv X pins σ H s) (mu : Mut (H x)) (he : e = x ∨ H e = some (.own x)) (k : ∀ b u, b ≠ e → s.heap.get? b = some u → h'.get? b = some u) (heo : ∃ u, h'.get? e = some u)
    (new : ObjOk X.prog X.w (upd H x o) h' x o) : Inv X pins σ (upd H x o) { s with heap := h', toks := t' } := I.un (Un.write mu he k heo) (I.hok.write mu he k heo new)
/-- forgetting slots, pins -/
theorem Inv.weak {σ' : List (Option V)} (I : Inv X pins σ H s) (hl : σ'.length = σ.length) (w : ∀ (i : Nat) v, σ'[i]? = some (some v) → σ[i]? = some (some v)) : Inv X pins σ' H s :=
  ⟨I.ok, I.os, I.bare, I.base, let ⟨m, hn, hl'⟩ := I.loc; ⟨m, hn, fun i x v e1 e2 e3 => hl' i x v e1 (w i v e2) e3⟩, I.cell, I.free, I.freeC, I.pin, I.hok, hl.trans I.len⟩
theorem Inv.pins_of {pins' : List (Addr × Obj)} (I : Inv X pins σ H s) (h : ∀ p ∈ pins', s.heap.get? p.1 = some p.2 ∧ H p.1 = none ∧ p.1 ≠ X.env.locals ∧ p.1 ∉ X.fs ∧ ∀ v, p.2.data ≠ .cell v) : Inv X pins' σ H s :=
  ⟨I.ok, I.os, I.bare, I.base, I.loc, I.cell, I.free, I.freeC, fun p hp => (List.mem_append.mp hp).elim (fun z => I.pin p (List.mem_append_left _ z)) (h p), I.hok, I.len⟩

theorem nodup_ix {N : List Str} (hN : N.Nodup) {i j : Nat} {x : Str} (a : N[i]? = some x) (b : N[j]? = some x) : i = j := by
  obtain ⟨h1, e1⟩ := List.getElem?_eq_some_iff.mp a
  obtain ⟨h2, e2⟩ := List.getElem?_eq_some_iff.mp b
  exact (List.getElem_inj hN).mp (e1.trans e2.symm)

/-- a name is stored; what changed -/
theorem store_ok2 {M : Model} {A : Around} {E : Value → Shared → Prop} {i : Nat} {x : Str} {v : V} {u : Value} {Q : Unit → Shared → Prop} (I : Inv X pins σ H s) (hN : X.N.Nodup) (hi : X.N[i]? = some x) (hx : Loc X.env.scope x) (r : RelV v u)
    (h : ∀ s', Inv X pins (σ.set i (some v)) H s' → (∃ a, Heap.SameBut a s.heap s'.heap ∧ (a = X.env.locals ∨ X.env.cells.lookup x = some a)) → Q () s') (hf : X.fn x = true ∨ X.env.scope.names.lookup x = some .local := by first | exact .inl rfl | exact .inr rfl | assumption) : wpAny M A (storeName X.env x u) Q E s := by
  obtain ⟨m, hn, hl⟩ := id I.loc
  have hcls : (X.env.scope.kind == .class || (X.env.scope.kind == .module && X.env.locals != X.env.globals)) = false := by rw [I.ok.kind]; rfl
  have hiσ : i < σ.length := by rw [I.len]; exact (List.getElem?_eq_some_iff.mp hi).1
  have cne := I.cne
  have tracked : ∀ {a : Addr} {h' : Heap}, (∃ o, s.heap.get? a = some o ∧ H a = none) → Heap.SameBut a s.heap h' → HOk X.prog X.w H h' := fun {a h'} ha hs b ob e => by
    obtain ⟨_, _, hfree⟩ := ha
    refine (I.hok b ob e).stay (fun c w' hc q => (hs.2 c ?_).trans q) (fun _ q => q) fun _ _ q => q
    rintro rfl
    rcases hc with rfl | hc
    · rw [hfree] at e; cases e
    · rw [hfree] at hc; cases hc
  rcases hx with hk | hk
  · refine wpAny_storeName_local hk hn (fun h' hn' hs => ?_) hcls
    obtain ⟨oL, _, _, hoL, _⟩ := id hn
    refine h _ ⟨I.ok, I.os, I.bare, ⟨fun b o e n hb hx => ?_, fun b o e n hb hx => ?_, I.base.free, fun b o e hx => ?_, I.base.tups, I.base.frzs, I.base.tbls⟩, ⟨_, hn', fun j y v' e1 e2 e3 => ?_⟩, fun y c e => ?_, I.free, I.freeC, fun p hp => ?_, tracked ⟨oL, hoL, I.free⟩ hs, by simpa using I.len⟩ ⟨_, hs, .inl rfl⟩
    · exact (hs.2 b (Nat.ne_of_lt (Nat.lt_of_lt_of_le (Heap.lt_size e) I.ok.above))).trans (I.base.keep b o e n hb hx)
    · obtain ⟨sl, e1⟩ := I.base.slot b o e n hb hx
      exact ⟨sl, (hs.2 b (Nat.ne_of_lt (Nat.lt_of_lt_of_le (Heap.lt_size e) I.ok.above))).trans e1⟩
    · obtain ⟨o', e1⟩ := I.base.there b o e hx
      exact ⟨o', (hs.2 b (Nat.ne_of_lt (Nat.lt_of_lt_of_le (Heap.lt_size e) I.ok.above))).trans e1⟩
    · by_cases hj : j = i
      · subst hj
        rw [hi] at e1; cases e1
        rw [List.getElem?_set_self hiσ] at e2
        cases e2
        exact ⟨u, r, .inl ⟨hk, by simp⟩⟩
      · rw [List.getElem?_set_ne (Ne.symm hj)] at e2
        obtain ⟨u', r', q⟩ := hl j y v' e1 e2 e3
        refine ⟨u', r', ?_⟩
        rcases q with ⟨k, e⟩ | ⟨k, c, e, z⟩
        · refine .inl ⟨k, ?_⟩
          have : y ≠ x := fun e => hj (nodup_ix hN e1 (e ▸ hi))
          simp [this, e]
        · exact .inr ⟨k, c, e, z.sameBut hs (cne y c e)⟩
    · obtain ⟨w', z⟩ := I.cell y c e
      exact ⟨w', z.sameBut hs (cne y c e)⟩
    · obtain ⟨e, n, ne, nf, d⟩ := I.pin p hp
      exact ⟨(hs.2 p.1 ne).trans e, n, ne, nf, d⟩
  · have hfn : X.fn x = true := by
      rcases hf with z | z
      · exact z
      · rw [z] at hk; cases hk
    obtain ⟨c, hc⟩ := I.ok.has x (.inl hk)
    obtain ⟨w', z⟩ := I.cell x c hc
    refine wpAny_storeName_cell I.ok.kind hk hc z (fun h' hc' hs => ?_)
    obtain ⟨oc, hoc, hocd⟩ := id z
    refine h { s with heap := h' } ⟨I.ok, I.os, I.bare, ⟨fun b o e n hb hx => ?_, fun b o e n hb hx => ?_, I.base.free, fun b o e hx => ?_, I.base.tups, I.base.frzs, I.base.tbls⟩, ⟨m, hn.sameBut hs (Ne.symm (cne x c hc)), fun j y v' e1 e2 e3 => ?_⟩, fun y c' e => ?_, I.free, I.freeC, fun p hp => ?_, tracked ⟨oc, hoc, I.freeC x c hc⟩ hs, by simpa using I.len⟩ ⟨c, hs, .inr hc⟩
    · exact (hs.2 b (Nat.ne_of_lt (Nat.lt_of_lt_of_le (Heap.lt_size e) (I.ok.cab x c hfn hc)))).trans (I.base.keep b o e n hb hx)
    · obtain ⟨sl, e1⟩ := I.base.slot b o e n hb hx
      exact ⟨sl, (hs.2 b (Nat.ne_of_lt (Nat.lt_of_lt_of_le (Heap.lt_size e) (I.ok.cab x c hfn hc)))).trans e1⟩
    · obtain ⟨o', e1⟩ := I.base.there b o e hx
      exact ⟨o', (hs.2 b (Nat.ne_of_lt (Nat.lt_of_lt_of_le (Heap.lt_size e) (I.ok.cab x c hfn hc)))).trans e1⟩
    · by_cases hj : j = i
      · subst hj
        rw [hi] at e1; cases e1
        rw [List.getElem?_set_self hiσ] at e2
        cases e2
        exact ⟨u, r, .inr ⟨.inl hk, c, hc, hc'⟩⟩
      · rw [List.getElem?_set_ne (Ne.symm hj)] at e2
        obtain ⟨u', r', q⟩ := hl j y v' e1 e2 e3
        refine ⟨u', r', ?_⟩
        rcases q with q | ⟨k, c', e, z'⟩
        · exact .inl q
        · refine .inr ⟨k, c', e, z'.sameBut hs ?_⟩
          rintro rfl
          exact hj (nodup_ix hN e1 (I.ok.inj _ _ _ e hc ▸ hi))
    · by_cases hcc : c' = c
      · subst hcc; exact ⟨_, hc'⟩
      · obtain ⟨w2, z2⟩ := I.cell y c' e
        exact ⟨w2, z2.sameBut hs hcc⟩
    · obtain ⟨e, n, ne, nf, d⟩ := I.pin p hp
      refine ⟨(hs.2 p.1 ?_).trans e, n, ne, nf, d⟩
      intro q
      rw [q, hoc] at e
      have q' : oc = p.2 := Option.some.inj e
      exact d w' (by rw [← q']; exact hocd)
theorem store_ok {M : Model} {A : Around} {E : Value → Shared → Prop} {i : Nat} {x : Str} {v : V} {u : Value} {Q : Unit → Shared → Prop} (I : Inv X pins σ H s) (hN : X.N.Nodup) (hi : X.N[i]? = some x) (hx : Loc X.env.scope x) (r : RelV v u)
    (h : ∀ s', Inv X pins (σ.set i (some v)) H s' → Q () s') (hf : X.fn x = true ∨ X.env.scope.names.lookup x = some .local := by first | exact .inl rfl | exact .inr rfl | assumption) : wpAny M A (storeName X.env x u) Q E s :=
  store_ok2 I hN hi hx r (fun s' I' _ => h s' I') hf
/-- behind a call or a block, the state as it is -/
theorem Inv.call' {s' : Shared} {ch : List Addr} (I : Inv X pins σ H s) (ho : s'.os = s.os) (u : Un (frs X.stack) ch H H' s.heap s'.heap) (hok : HOk X.prog X.w H' s'.heap) (hg : AllBare s'.gens)
    (hch : ∀ b ∈ ch, (b ∈ X.ex ∨ X.s_0.heap.objs.size ≤ b) ∧ b ≠ X.env.locals ∧ (∀ x c, X.env.cells.lookup x = some c → c ≠ b) ∧ ∀ p ∈ X.pn ++ pins, p.1 ≠ b) : Inv X pins σ H' s' := by
  obtain ⟨h', g', d', t', o'⟩ := s'
  have e : o' = s.os := ho
  subst e
  exact I.call (g' := g') (t' := t') (d' := d') u hok hg hch
end

/-! ### the judgements -/
/-- an exception: its class, its own dict's address (where it has one), the abstract heap behind it -/
abbrev XK := Value → Option Addr → Hp → Prop
abbrev St := List (Option V)
abbrev VK := V → Hp → Prop
/-- an expression's reading; a test's; an argument list's -/
abbrev TE := St → Hp → VK → Prop
abbrev TT := St → Hp → (Bool → Hp → Prop) → Prop
abbrev TA := St → Hp → (List V → Hp → Prop) → Prop
/-- what is wanted behind a statement -/
structure Ends where
  nx : St → Hp → Prop
  rt : VK
  bk : St → Hp → Prop := fun _ _ => False
  ct : St → Hp → Prop := fun _ _ => False
abbrev TS := Ends → St → Hp → Prop

def EP (X : Cx) (pins : List (Addr × Obj)) (σ : St) (Q : VK) (u : Value) (s' : Shared) : Prop := ∃ v H', Inv X pins σ H' s' ∧ RelV v u ∧ Q v H'
def TP (X : Cx) (pins : List (Addr × Obj)) (σ : St) (Q : Bool → Hp → Prop) (b : Bool) (s' : Shared) : Prop := ∃ H', Inv X pins σ H' s' ∧ Q b H'
def AP (X : Cx) (pins : List (Addr × Obj)) (σ : St) (Q : List V → Hp → Prop) (us : List Value) (s' : Shared) : Prop := ∃ vs H', Inv X pins σ H' s' ∧ Vals vs us ∧ Q vs H'
def SP (X : Cx) (pins : List (Addr × Obj)) (D : Ends) (f : Flow) (s' : Shared) : Prop :=
  match f with
  | .next => ∃ σ' H', Inv X pins σ' H' s' ∧ D.nx σ' H'
  | .brk => ∃ σ' H', Inv X pins σ' H' s' ∧ D.bk σ' H'
  | .cont => ∃ σ' H', Inv X pins σ' H' s' ∧ D.ct σ' H'
  | .ret u => ∃ v σ' H', Inv X pins σ' H' s' ∧ RelV v u ∧ D.rt v H'

def PE (X : Cx) (e : Expr) (t : TE) : Prop :=
  ∀ (pins : List (Addr × Obj)) (s : Shared) (σ : St) (H : Hp) (Q : VK), Inv X pins σ H s → t σ H Q → wpAny (model X.prog X.w) X.A (eval e X.env) (EP X pins σ Q) X.xe s
def PT (X : Cx) (e : Expr) (t : TT) : Prop :=
  ∀ (pins : List (Addr × Obj)) (s : Shared) (σ : St) (H : Hp) (Q : Bool → Hp → Prop), Inv X pins σ H s → t σ H Q → wpAny (model X.prog X.w) X.A (isTrue e X.env (eval e X.env)) (TP X pins σ Q) X.xe s
/-- a test whatever its 'whole' is (and, or) -/
def PW (X : Cx) (e : Expr) (t : TT) : Prop :=
  ∀ (whole : Sem Value) (pins : List (Addr × Obj)) (s : Shared) (σ : St) (H : Hp) (Q : Bool → Hp → Prop), Inv X pins σ H s → t σ H Q → wpAny (model X.prog X.w) X.A (isTrue e X.env whole) (TP X pins σ Q) X.xe s
theorem PW.pt {X : Cx} {e : Expr} {t : TT} (h : PW X e t) : PT X e t := h _
/-- an argument list (no star), from the left -/
def PA (X : Cx) (es : List Expr) (t : TA) : Prop :=
  ∀ (pos : Pos) (pins : List (Addr × Obj)) (s : Shared) (σ : St) (H : Hp) (Q : List V → Hp → Prop), Inv X pins σ H s → t σ H Q → wpAny (model X.prog X.w) X.A (spliced (backTo pos (starEach es X.env))) (AP X pins σ Q) X.xe s
def PS (X : Cx) (st : Stmt) (t : TS) : Prop :=
  ∀ (pins : List (Addr × Obj)) (s : Shared) (σ : St) (H : Hp) (D : Ends), Inv X pins σ H s → t D σ H → wpAny (model X.prog X.w) X.A (exec st X.env) (SP X pins D) X.xe s
def PSs (X : Cx) (st : List Stmt) (t : TS) : Prop :=
  ∀ (pins : List (Addr × Obj)) (s : Shared) (σ : St) (H : Hp) (D : Ends), Inv X pins σ H s → t D σ H → wpAny (model X.prog X.w) X.A (execs st X.env) (SP X pins D) X.xe s
/-- weaken the end -/
theorem thn {α : Type} {t : Sem α} {Q Q' : α → Shared → Prop} {M : Model} {A : Around} {E : Value → Shared → Prop} {s : Shared} (h : wpAny M A t Q E s) (hQ : ∀ a s, Q a s → Q' a s) : wpAny M A t Q' E s := wpAny_mono h hQ fun _ _ x => x
end L2

namespace L2
open PySem PySem.Spec PyProof.Rows
section
variable {X : Cx}


/-! ### names and constants -/
def tVar (i : Nat) : TE := fun σ H Q => ∃ v, σ[i]? = some (some v) ∧ Q v H
def tC (v : V) : TE := fun _ H Q => Q v H
theorem pe_var {i : Nat} {x : Str} {pos : Pos} (hN : X.N[i]? = some x) (hv : Vis X.env.scope x) (hd : (x == ("__debug__" : Str)) = false := by decide) (hcd : (x == ("__classdict__" : Str)) = false := by decide) : PE X (.Name x pos) (tVar i) := by
  intro pins s σ H Q I h
  obtain ⟨v, e, h⟩ := h
  obtain ⟨m, hn, hl⟩ := I.loc
  obtain ⟨u, r, l⟩ := hl i x v hN e hv
  have fin : EP X pins σ Q u s := ⟨v, H, I, r, h⟩
  rcases l with ⟨hk, hm⟩ | ⟨hk, c, hc, hcell⟩
  · exact wpAny_Name (wpAny_loadName_local I.ok.kind hk hn hm fin) hd
  · rcases hk with hk | hk
    · exact wpAny_Name (wpAny_loadName_cell I.ok.kind hk hc hcell fin) hd
    · exact wpAny_Name (wpAny_loadName_free I.ok.kind hk hc hcell fin hcd) hd
theorem pe_int {i j pos} : PE X (.Constant (.int i) j pos) (tC (.int i)) := fun _ _ _ H _ I h => wpAny_Constant_int ⟨.int i, H, I.tok _, ⟨_, rfl⟩, h⟩
theorem pe_non {j pos} : PE X (.Constant .none j pos) (tC .non) := fun _ _ _ H _ I h => Constant_none ⟨.non, H, I, rfl, h⟩

/-- a global name of the def -/
def Gl (X : Cx) (x : Str) : Prop := X.env.kindOf x = some .globalImplicit
theorem ld_glob {E : Value → Shared → Prop} {pins : List (Addr × Obj)} {s : Shared} {σ : St} {H : Hp} {x : Str} {u : Value} {pos : Pos} {Q : Value → Shared → Prop} (I : Inv X pins σ H s) (hg : Gl X x) (hm : X.mg x = some u) (h : Q u s)
    (hd : (x == ("__debug__" : Str)) = false := by decide) : wpAny (model X.prog X.w) X.A (eval (.Name x pos) X.env) Q E s :=
  Calls.Name_function_global I.ok.kind hg (Calls.loadGlobal_global (by rw [I.ok.glob]; exact I.mod.glob.keeps I.bk) hm h) hd
theorem ld_blt {E : Value → Shared → Prop} {pins : List (Addr × Obj)} {s : Shared} {σ : St} {H : Hp} {x : Str} {u : Value} {pos : Pos} {Q : Value → Shared → Prop} (I : Inv X pins σ H s) (hg : Gl X x) (hm : X.mg x = none) (hv : bootBuiltins x = some u) (h : Q u s)
    (hn : x ≠ "__name__" := by decide) (hd : (x == ("__debug__" : Str)) = false := by decide) : wpAny (model X.prog X.w) X.A (eval (.Name x pos) X.env) Q E s := by
  obtain ⟨mb, h1, h2⟩ := I.mod.blt
  exact Calls.Name_function_global I.ok.kind hg (Calls.loadGlobal_builtin (by rw [I.ok.glob]; exact I.mod.glob.keeps I.bk) hm (by rw [I.ok.blt]; exact h1.keeps I.bk) ((h2 x hn).trans hv) h) hd
/-- a module's constant, a class, a function, as a value -/
theorem pe_glob {x : Str} {v : V} {u : Value} {pos : Pos} (hg : Gl X x) (hm : X.mg x = some u) (r : RelV v u) (hd : (x == ("__debug__" : Str)) = false := by decide) : PE X (.Name x pos) (tC v) :=
  fun _ _ _ H _ I h => ld_glob I hg hm ⟨v, H, I, r, h⟩ hd

/-! ### arithmetic -/
/-- two ints -/
def t2I (ta tb : TE) (k : Int → Int → Hp → Prop) : St → Hp → Prop := fun σ H => ta σ H fun x H1 => tb σ H1 fun y H2 => ∃ i j, x = .int i ∧ y = .int j ∧ k i j H2
def tAdd (ta tb : TE) : TE := fun σ H Q => t2I ta tb (fun i j H2 => Q (.int (i + j)) H2) σ H
def tSub (ta tb : TE) : TE := fun σ H Q => t2I ta tb (fun i j H2 => Q (.int (i - j)) H2) σ H
/-- the left factor below 2^64 -/
def tMul (ta tb : TE) : TE := fun σ H Q => t2I ta tb (fun i j H2 => (-(2 ^ 64) < i ∧ i < 2 ^ 64) ∧ Q (.int (i * j)) H2) σ H
variable {a b : Expr} {ta tb : TE} {pos : Pos}

/-! ### comparisons -/
def PC (X : Cx) (op : CmpOp) (a b : Expr) (t : TE) : Prop :=
  ∀ (pins : List (Addr × Obj)) (s : Shared) (σ : St) (H : Hp) (Q : VK), Inv X pins σ H s → t σ H Q →
    wpAny (model X.prog X.w) X.A (eval a X.env) (fun v s₁ => wpAny (model X.prog X.w) X.A (eval b X.env) (fun u s₂ => wpAny (model X.prog X.w) X.A (compareOp op v u) (EP X pins σ Q) X.xe s₂) X.xe s₁) X.xe s
theorem nobehind (b : Expr) {op : CmpOp} (h : op ≠ .In) (h2 : op ≠ .NotIn) : behindInMarks op b = false := by
  have e1 : (op == CmpOp.In) = false := by cases op <;> first | rfl | exact absurd rfl h
  have e2 : (op == CmpOp.NotIn) = false := by cases op <;> first | rfl | exact absurd rfl h2
  cases b <;> simp [behindInMarks, e1, e2]
def tCmp (p : Int → Int → Bool) (ta tb : TE) : TE := fun σ H Q => t2I ta tb (fun i j H2 => Q (.bl (p i j)) H2) σ H
abbrev tLt : TE → TE → TE := tCmp fun i j => decide (i < j)
abbrev tLe : TE → TE → TE := tCmp fun i j => decide (i ≤ j)
abbrev tGt : TE → TE → TE := tCmp fun i j => decide (j < i)
abbrev tGe : TE → TE → TE := tCmp fun i j => decide (j ≤ i)
abbrev tEqI : TE → TE → TE := tCmp fun i j => decide (i = j)
abbrev tNeI : TE → TE → TE := tCmp fun i j => !decide (i = j)
/-- is None -/
def tIsN (ta : TE) : TE := fun σ H Q => ta σ H fun x H1 => Q (.bl (decide (x = .non))) H1
def tNotN (ta : TE) : TE := fun σ H Q => ta σ H fun x H1 => Q (.bl (!decide (x = .non))) H1
theorem RelV.none_iff {x : V} {v : Value} (r : RelV x v) : (v == Value.none) = decide (x = .non) := by
  cases x with
  | non => cases r; rfl
  | bl _ => cases r; rfl
  | int _ => obtain ⟨t, rfl⟩ := r; rfl
  | str _ => obtain ⟨t, rfl⟩ := r; rfl
  | byt _ => obtain ⟨t, rfl⟩ := r; rfl
  | flt _ => obtain ⟨t, rfl⟩ := r; rfl
  | ref _ => cases r; rfl
  | ty _ => cases r; rfl
theorem pc_isN {j pos'} (ha : PE X a ta) : PC X .Is a (.Constant .none j pos') (tIsN ta) := by
  intro pins s σ H Q I h
  refine thn (ha pins s σ H _ I h) fun v s1 ⟨x, H1, I1, r1, q1⟩ => ?_
  exact Constant_none (is_none_gen ⟨.bl _, H1, I1, by rw [r1.none_iff]; rfl, q1⟩)
theorem pc_notN {j pos'} (ha : PE X a ta) : PC X .IsNot a (.Constant .none j pos') (tNotN ta) := by
  intro pins s σ H Q I h
  refine thn (ha pins s σ H _ I h) fun v s1 ⟨x, H1, I1, r1, q1⟩ => ?_
  exact Constant_none (isnot_none_gen ⟨.bl _, H1, I1, by rw [r1.none_iff]; rfl, q1⟩)
/-- a comparison as a value, as a test -/
def tB (t : TE) : TT := fun σ H Q => t σ H fun x H1 => ∃ c, x = .bl c ∧ Q c H1
theorem pt_cmp {op : CmpOp} {t : TE} (h : PC X op a b t) (h1 : behindInMarks op b = false := by first | exact nobehind _ (by decide) (by decide) | rfl) : PT X (.Compare a [op] [b] pos) (tB t) := by
  intro pins s σ H Q I hw
  refine wpAny_isTrue_Compare1 (thn (h pins s σ H _ I hw) fun v s1 h1 => thn h1 fun u s2 h2 => thn h2 fun c s3 ⟨x, H1, I1, r1, q1⟩ => ?_) h1
  obtain ⟨d, rfl, q⟩ := q1
  cases r1
  exact wpAny_truthy_bool ⟨H1, I1, q⟩
/-- an expression whose value is a bool, as a test -/
theorem pt_val {e : Expr} {t : TE} (h : PE X e t) (he : ∀ whole, isTrue e X.env whole = (do let v ← whole; standAt e.pos; holding [v] (truthy v)) := by intro _; rfl) : PT X e (tB t) := by
  intro pins s σ H Q I hw
  refine isTrue_plain (thn (h pins s σ H _ I hw) fun v s1 ⟨x, H1, I1, r1, q1⟩ => ?_) (he _)
  obtain ⟨d, rfl, q⟩ := q1
  cases r1
  exact wpAny_truthy_bool ⟨H1, I1, q⟩

/-! ### and, or, not -/
variable {tA tB' : TT} {rest : List Expr}
def tAnd (t u : TT) : TT := fun σ H Q => t σ H fun c H1 => if c = true then u σ H1 Q else Q false H1
def tOr (t u : TT) : TT := fun σ H Q => t σ H fun c H1 => if c = true then Q true H1 else u σ H1 Q
def tNot (t : TT) : TT := fun σ H Q => t σ H fun c H1 => Q (!c) H1
theorem pw_and1 (ha : PT X a tA) : PW X (.BoolOp .And [a] pos) tA := by
  intro wh pins s σ H Q I h
  refine isTrue_and (thn (ha pins s σ H Q I h) fun c s1 e => ?_)
  cases c with
  | true => exact isTrue_and_nil e
  | false => exact e
theorem pw_or1 (ha : PT X a tA) : PW X (.BoolOp .Or [a] pos) tA := by
  intro wh pins s σ H Q I h
  refine isTrue_or (thn (ha pins s σ H Q I h) fun c s1 e => ?_)
  cases c with
  | false => exact isTrue_or_nil e
  | true => exact e
theorem pw_and (ha : PT X a tA) (hb : PW X (.BoolOp .And (b :: rest) pos) tB') : PW X (.BoolOp .And (a :: b :: rest) pos) (tAnd tA tB') := by
  intro wh pins s σ H Q I h
  refine isTrue_and (thn (ha pins s σ H _ I h) fun c s1 ⟨H1, I1, q1⟩ => ?_)
  cases c with
  | true => exact hb wh pins s1 σ H1 Q I1 q1
  | false => exact ⟨H1, I1, q1⟩
theorem pw_or (ha : PT X a tA) (hb : PW X (.BoolOp .Or (b :: rest) pos) tB') : PW X (.BoolOp .Or (a :: b :: rest) pos) (tOr tA tB') := by
  intro wh pins s σ H Q I h
  refine isTrue_or (thn (ha pins s σ H _ I h) fun c s1 ⟨H1, I1, q1⟩ => ?_)
  cases c with
  | true => exact ⟨H1, I1, q1⟩
  | false => exact hb wh pins s1 σ H1 Q I1 q1
theorem pt_not (ha : PT X a tA) : PT X (.UnaryOp .Not a pos) (tNot tA) := by
  intro pins s σ H Q I h
  exact isTrue_not (ha pins s σ H (fun c H1 => Q (!c) H1) I h)
/-- .. as values (bools) -/
def tAndV (ta tb : TE) : TE := fun σ H Q => ta σ H fun x H1 => ∃ c, x = .bl c ∧ if c = true then tb σ H1 Q else Q (.bl false) H1
def tOrV (ta tb : TE) : TE := fun σ H Q => ta σ H fun x H1 => ∃ c, x = .bl c ∧ if c = true then Q (.bl true) H1 else tb σ H1 Q
def tNotV (ta : TE) : TE := fun σ H Q => ta σ H fun x H1 => ∃ c, x = .bl c ∧ Q (.bl (!c)) H1
/-- a if t else b -/
def tIf (t : TT) (ta tb : TE) : TE := fun σ H Q => t σ H fun c H1 => if c = true then ta σ H1 Q else tb σ H1 Q
theorem pe_ifExp {c : Expr} (hc : PT X c tA) (ha : PE X a ta) (hb : PE X b tb) : PE X (.IfExp c a b pos) (tIf tA ta tb) := by
  intro pins s σ H Q I h
  refine wpAny_IfExp (thn (hc pins s σ H _ I h) fun d s1 ⟨H1, I1, q1⟩ => ?_)
  cases d with
  | true => exact ha pins s1 σ H1 Q I1 q1
  | false => exact hb pins s1 σ H1 Q I1 q1
end
end L2

namespace L2
open PySem PySem.Spec PyProof.Rows

/-! ### a list, a tuple that is read: tracked, frozen, or an object of the module -/
def SqL (K : PySem.W.Frag) (H : Hp) (a : Addr) (xs : List V) : Prop :=
  Rd H a (.lst xs) ∨
    ∃ (o : Obj) (its : Array Value) (n : Nat), K.lookup a = some o ∧ o.cls = .type "list" ∧ o.dict = none ∧ o.data = .seq its n ∧ its.size ≤ sizeLine ∧ Vals xs its.toList
def SqT (K : PySem.W.Frag) (H : Hp) (a : Addr) (xs : List V) : Prop :=
  Rd H a (.tup xs) ∨
    ∃ (o : Obj) (its : Array Value) (n : Nat), K.lookup a = some o ∧ o.cls = .type "tuple" ∧ o.data = .seq its n ∧ its.size ≤ sizeLine ∧ Vals xs its.toList
def absV : Value → Option V
  | .none => some .non
  | .bool b => some (.bl b)
  | .int i _ => some (.int i)
  | .str x _ => some (.str x)
  | .bytes b _ => some (.byt b)
  | .float b _ => some (.flt b)
  | .ref a => some (.ref a)
  | .type n => some (.ty n)
  | _ => none
theorem RelV.abs {x : V} {u : Value} (r : RelV x u) : absV u = some x := by
  cases x with
  | non => cases r; rfl
  | bl _ => cases r; rfl
  | int _ => obtain ⟨t, rfl⟩ := r; rfl
  | str _ => obtain ⟨t, rfl⟩ := r; rfl
  | byt _ => obtain ⟨t, rfl⟩ := r; rfl
  | flt _ => obtain ⟨t, rfl⟩ := r; rfl
  | ref _ => cases r; rfl
  | ty _ => cases r; rfl
theorem RelV.inj {x y : V} {u : Value} (r : RelV x u) (q : RelV y u) : x = y := Option.some.inj (r.abs.symm.trans q.abs)
theorem Vals.inj : ∀ {xs ys : List V} {us : List Value}, Vals xs us → Vals ys us → xs = ys
  | _, _, _, .nil, .nil => rfl
  | _, _, _, .cons r t, .cons r' t' => by rw [r.inj r', Vals.inj t t']
section
variable {X : Cx} {pins : List (Addr × Obj)} {σ : St} {H : Hp} {s : Shared} {a : Addr} {xs ys : List V}
theorem SqL.of {K : PySem.W.Frag} (h : H a = some (.lst xs)) : SqL K H a xs := .inl (.inl h)
theorem SqT.of {K : PySem.W.Frag} (h : H a = some (.tup xs)) : SqT K H a xs := .inl (.inl h)
theorem Inv.list (I : Inv X pins σ H s) (h : SqL X.K H a xs) : ∃ its : List Value, Vals xs its ∧ PlainL s.heap a its.toArray ∧ xs.length ≤ sizeLine := by
  rcases h with h | ⟨o, its, n, hk, hc, hd, hs, hz, r⟩
  · obtain ⟨z, its, n, r, e⟩ := h.ok I.hok
    exact ⟨its, r, ⟨_, n, e, rfl, rfl, rfl⟩, z⟩
  · refine ⟨its.toList, r, ⟨o, n, I.kIn a o hk, hc, hd, by simpa using hs⟩, ?_⟩
    have e := r.length
    simp only [Array.length_toList] at e
    omega
theorem Inv.tuple (I : Inv X pins σ H s) (h : SqT X.K H a xs) : ∃ its : List Value, Vals xs its ∧ IsTup s.heap a its.toArray ∧ xs.length ≤ sizeLine := by
  rcases h with h | ⟨o, its, n, hk, hc, hs, hz, r⟩
  · obtain ⟨z, its, r, p⟩ := h.ok I.hok
    exact ⟨its, r, p, z⟩
  · refine ⟨its.toList, r, ⟨o, I.kIn a o hk, hc, n, by simpa using hs⟩, ?_⟩
    have e := r.length
    simp only [Array.length_toList] at e
    omega
theorem Inv.list_inj (I : Inv X pins σ H s) (h : SqL X.K H a xs) (h' : SqL X.K H a ys) : xs = ys := by
  obtain ⟨its, r, ⟨o, n, e, _, _, d⟩, _⟩ := I.list h
  obtain ⟨its', r', ⟨o', n', e', _, _, d'⟩, _⟩ := I.list h'
  rw [e] at e'; cases e'
  rw [d] at d'
  injection d' with d1 _
  have : its = its' := by simpa using congrArg Array.toList d1
  subst this
  exact r.inj r'
end

/-! ### another wish about exceptions -/
abbrev Cx.wish (X : Cx) (E : Value → Shared → Prop) : Cx := { X with xe := E }
/-- no exception leaves -/
abbrev Cx.nox (X : Cx) : Cx := X.wish fun _ _ => False
theorem Cx.Ok.wish {X : Cx} (ok : X.Ok) (E : Value → Shared → Prop) : (X.wish E).Ok :=
  ⟨ok.mod, ok.kind, ok.glob, ok.blt, ok.above, ok.inj, ok.has, ok.cab, ok.hd, ok.frames, ok.stk, ok.exf, ok.bs, ok.bsz, ok.noex, ok.exfs, ok.funs, ok.frf⟩
theorem Cx.Ok.unwish {X : Cx} {E : Value → Shared → Prop} (ok : (X.wish E).Ok) : X.Ok :=
  ⟨ok.mod, ok.kind, ok.glob, ok.blt, ok.above, ok.inj, ok.has, ok.cab, ok.hd, ok.frames, ok.stk, ok.exf, ok.bs, ok.bsz, ok.noex, ok.exfs, ok.funs, ok.frf⟩
section
variable {X : Cx} {pins : List (Addr × Obj)} {σ : St} {H : Hp} {s : Shared} {E : Value → Shared → Prop}
theorem Inv.wish (I : Inv X pins σ H s) (E : Value → Shared → Prop) : Inv (X.wish E) pins σ H s := ⟨I.ok.wish E, I.os, I.bare, I.base, I.loc, I.cell, I.free, I.freeC, I.pin, I.hok, I.len⟩
theorem Inv.unwish (I : Inv (X.wish E) pins σ H s) : Inv X pins σ H s := ⟨I.ok.unwish, I.os, I.bare, I.base, I.loc, I.cell, I.free, I.freeC, I.pin, I.hok, I.len⟩
theorem SP.unwish {D : Ends} {f : Flow} {s' : Shared} (h : SP (X.wish E) pins D f s') : SP X pins D f s' := by
  cases f with
  | next => obtain ⟨σ', H', I, q⟩ := h; exact ⟨σ', H', I.unwish, q⟩
  | brk => obtain ⟨σ', H', I, q⟩ := h; exact ⟨σ', H', I.unwish, q⟩
  | cont => obtain ⟨σ', H', I, q⟩ := h; exact ⟨σ', H', I.unwish, q⟩
  | ret u => obtain ⟨v, σ', H', I, r, q⟩ := h; exact ⟨v, σ', H', I.unwish, r, q⟩
theorem PE.nox {e : Expr} {t : TE} (h : PE X.nox e t) : PE X e t := fun pins s σ H Q I hw =>
  wpAny_mono (h pins s σ H Q (I.wish _) hw) (fun _ _ ⟨v, H', I', r, q⟩ => ⟨v, H', I'.unwish, r, q⟩) fun _ _ z => False.elim z
theorem PT.nox {e : Expr} {t : TT} (h : PT X.nox e t) : PT X e t := fun pins s σ H Q I hw =>
  wpAny_mono (h pins s σ H Q (I.wish _) hw) (fun _ _ ⟨H', I', q⟩ => ⟨H', I'.unwish, q⟩) fun _ _ z => False.elim z
theorem PSs.nox {st : List Stmt} {t : TS} (h : PSs X.nox st t) : PSs X st t := fun pins s σ H D I hw =>
  wpAny_mono (h pins s σ H D (I.wish _) hw) (fun _ _ q => q.unwish) fun _ _ z => False.elim z
end

/-! ### blocks and small statements -/
section
variable {X : Cx} {st : Stmt} {rest : List Stmt} {t u : TS} {e : Expr} {te : TE} {pos : Pos}
def tNext : TS := fun D σ H => D.nx σ H
def tSeq (t u : TS) : TS := fun D σ H => t { D with nx := u D } σ H
theorem pss_nil : PSs X [] tNext := fun _ _ σ H _ I h => wpAny_execs_nil ⟨σ, H, I, h⟩
theorem pss_cons (h1 : PS X st t) (h2 : PSs X rest u) : PSs X (st :: rest) (tSeq t u) := by
  intro pins s σ H D I h
  refine wpAny_execs_cons (thn (h1 pins s σ H { D with nx := u D } I h) fun f s1 q => ?_)
  cases f with
  | next =>
    obtain ⟨σ', H', I', q⟩ := q
    exact h2 pins s1 σ' H' D I' q
  | ret v => exact q
  | brk => exact q
  | cont => exact q
theorem pss_one (h1 : PS X st t) : PSs X [st] t := by
  intro pins s σ H D I h
  refine wpAny_execs_cons (thn (h1 pins s σ H D I h) fun f s1 q => ?_)
  cases f with
  | next => exact wpAny_execs_nil q
  | ret v => exact q
  | brk => exact q
  | cont => exact q
def tBreak : TS := fun D σ H => D.bk σ H
def tCont : TS := fun D σ H => D.ct σ H
/-- in a def's body nothing is shown -/
theorem Inv.quiet {pins : List (Addr × Obj)} {σ : St} {H : Hp} {s : Shared} (I : Inv X pins σ H s) : interactive X.env = false := by simp [interactive, I.ok.kind]
/-- an expression whose value is dropped -/
def tDrop (te : TE) : TS := fun D σ H => te σ H fun _ H1 => D.nx σ H1
theorem ps_expr (he : PE X e te) (hs : swapsWith e none pos.line X.env = pure false := by rfl) : PS X (.Expr e pos) (tDrop te) := by
  intro pins s σ H D I h
  exact wpAny_Expr_any (thn (he pins s σ H _ I h) fun v s1 ⟨x, H1, I1, r1, q1⟩ => ⟨σ, H1, I1, q1⟩) I.quiet hs
def tRet (te : TE) : TS := fun D σ H => te σ H D.rt
theorem ps_ret (he : PE X e te) : PS X (.Return (some e) pos) (tRet te) := by
  intro pins s σ H D I h
  exact wpAny_Return_some (thn (he pins s σ H _ I h) fun v s1 ⟨x, H1, I1, r1, q1⟩ => ⟨x, σ, H1, I1, r1, q1⟩)
def tRetN : TS := fun D _ H => D.rt .non H
theorem ps_retN : PS X (.Return none pos) tRetN := fun _ _ σ H _ I h => wpAny_Return_none ⟨.non, σ, H, I, rfl, h⟩
def tIfS (c : TT) (t u : TS) : TS := fun D σ H => c σ H fun b H1 => if b = true then t D σ H1 else u D σ H1
theorem ps_if {c : Expr} {a b : List Stmt} {tc : TT} (hc : PT X c tc) (ha : PSs X a t) (hb : PSs X b u) : PS X (.If c a b pos) (tIfS tc t u) := by
  intro pins s σ H D I h
  refine wpAny_If (thn (hc pins s σ H _ I h) fun d s1 ⟨H1, I1, q1⟩ => ?_)
  cases d with
  | true => exact ha pins s1 σ H1 D I1 q1
  | false => exact hb pins s1 σ H1 D I1 q1
/-- code that the proof never comes to -/
def tNever : TS := fun _ _ _ => False
end

/-! ### targets -/
abbrev TG := V → St → Hp → (St → Hp → Prop) → Prop
abbrev TGs := List V → St → Hp → (St → Hp → Prop) → Prop
def PG (X : Cx) (target : Expr) (t : TG) : Prop :=
  ∀ (pins : List (Addr × Obj)) (s : Shared) (σ : St) (H : Hp) (v : V) (u : Value) (Q : St → Hp → Prop), Inv X pins σ H s → RelV v u → t v σ H Q →
    wpAny (model X.prog X.w) X.A (assign target X.env u) (fun _ s' => ∃ σ' H', Inv X pins σ' H' s' ∧ Q σ' H') X.xe s
/-- several targets, one after another -/
def PGs (X : Cx) (ts : List Expr) (t : TGs) : Prop :=
  ∀ (pins : List (Addr × Obj)) (s : Shared) (σ : St) (H : Hp) (vs : List V) (us : List Value) (Q : St → Hp → Prop), Inv X pins σ H s → Vals vs us → t vs σ H Q →
    wpAny (model X.prog X.w) X.A (assignInOrder ((assignEach ts X.env).map (·.2)) us) (fun _ s' => ∃ σ' H', Inv X pins σ' H' s' ∧ Q σ' H') X.xe s
/-- o[i] = v, by values -/
abbrev TSet := V → V → V → Hp → (Hp → Prop) → Prop
def PSet (X : Cx) (t : TSet) : Prop :=
  ∀ (pins : List (Addr × Obj)) (s : Shared) (σ : St) (H : Hp) (o i v : V) (ov iv u : Value) (Q : Hp → Prop), Inv X pins σ H s → RelV o ov → RelV i iv → RelV v u → t o i v H Q →
    wpAny (model X.prog X.w) X.A (setItem ov iv u) (fun _ s' => ∃ H', Inv X pins σ H' s' ∧ Q H') X.xe s
/-- a op= b, by values -/
abbrev TIp := V → V → Hp → VK → Prop
def PIp (X : Cx) (op : Operator) (t : TIp) : Prop :=
  ∀ (pins : List (Addr × Obj)) (s : Shared) (σ : St) (H : Hp) (x y : V) (v u : Value) (Q : VK), Inv X pins σ H s → RelV x v → RelV y u → t x y H Q →
    wpAny (model X.prog X.w) X.A (inplaceOp op v u) (EP X pins σ Q) X.xe s
section
variable {X : Cx} {pos : Pos}
def gName (i : Nat) : TG := fun v σ H Q => Q (σ.set i (some v)) H
theorem pg_name {i : Nat} {x : Str} (hN : X.N.Nodup) (hi : X.N[i]? = some x) (hx : Loc X.env.scope x) (hf : X.fn x = true ∨ X.env.scope.names.lookup x = some .local := by first | exact .inl rfl | exact .inr rfl | assumption) : PG X (.Name x pos) (gName i) := by
  intro pins s σ H v u Q I r h
  exact wpAny_assign_Name (store_ok I hN hi hx r (fun s' I' => ⟨_, H, I', h⟩) hf)
def gNil : TGs := fun vs σ H Q => vs = [] ∧ Q σ H
def gCons (t : TG) (u : TGs) : TGs := fun vs σ H Q => ∃ v r, vs = v :: r ∧ t v σ H fun σ' H' => u r σ' H' Q
theorem pgs_nil : PGs X [] gNil := by
  intro pins s σ H vs us Q I r h
  obtain ⟨e, h⟩ := h
  subst e
  cases r
  exact assignInOrder_nil ⟨σ, H, I, h⟩
theorem pgs_cons {e : Expr} {es : List Expr} {t : TG} {u : TGs} (h1 : PG X e t) (h2 : PGs X es u)
    (hs : (assignEach (e :: es) X.env).map (·.2) = assign e X.env :: (assignEach es X.env).map (·.2) := by rfl) : PGs X (e :: es) (gCons t u) := by
  intro pins s σ H vs us Q I r h
  obtain ⟨v, vr, e1, h⟩ := h
  subst e1
  cases r with
  | cons r rr =>
    rw [hs]
    refine assignInOrder_cons (thn (h1 pins s σ H _ _ _ I r h) fun _ s1 ⟨σ1, H1, I1, q1⟩ => ?_)
    exact h2 pins s1 σ1 H1 _ _ Q I1 rr q1
/-- (a, b, ..) = a tuple of that length -/
def gTup (K : PySem.W.Frag) (n : Nat) (t : TGs) : TG := fun v σ H Q => ∃ a xs, v = .ref a ∧ SqT K H a xs ∧ xs.length = n ∧ t xs σ H Q
theorem pg_tup {es : List Expr} {k : Nat} {t : TGs} {n : Nat} (hc : X.calm = true) (h : PGs X es t)
    (hn : (assignEach es X.env).length = n := by rfl) (hst : (assignEach es X.env).findIdx? (·.1) = none := by rfl) : PG X (.Tuple es k pos) (gTup X.K n t) := by
  intro pins s σ H v u Q I r hw
  obtain ⟨a, xs, e1, hq, hl, hw⟩ := hw
  subst e1
  cases r
  obtain ⟨its, rv, ht, hz⟩ := I.tuple hq
  refine assign_Tuple_tuple (I.ok.hd hc) ht (by simp [hn, ← hl, rv.length]) hst fun h' hx => ?_
  have I1 : Inv X pins σ H { s with heap := h' } := I.kept (t' := s.toks) fun b o e => hx b o (Nat.ne_of_lt (Heap.lt_size e)) e
  exact h pins _ σ H xs _ Q I1 (by simpa using rv) hw
/-- o[i] = .. -/
def gSub (to ti : TE) (t : TSet) : TG := fun v σ H Q => to σ H fun o H1 => ti σ H1 fun i H2 => t o i v H2 fun H3 => Q σ H3
theorem pg_sub {o i : Expr} {to ti : TE} {t : TSet} (ho : PE X o to) (hi : PE X i ti) (hs : PSet X t)
    (ha : ∀ v, assign (.Subscript o i pos) X.env v = (do
      let ov ← holding [v] (eval o X.env)
      let iv ← holding [v, ov] (eval i X.env)
      standAt pos
      holding [v, ov, iv] (setItem ov iv v)
      release [v, ov, iv] []) := by intro _; rfl) : PG X (.Subscript o i pos) (gSub to ti t) := by
  intro pins s σ H v u Q I r h
  rw [ha]
  refine wpAny_bind (wpAny_holding (thn (ho pins s σ H _ I h) fun ov s1 ⟨x, H1, I1, r1, q1⟩ => ?_))
  refine wpAny_bind (wpAny_holding (thn (hi pins s1 σ H1 _ I1 q1) fun iv s2 ⟨y, H2, I2, r2, q2⟩ => ?_))
  refine wpAny_bind (wpAny_standAt (wpAny_bind (wpAny_holding (thn (hs pins s2 σ H2 x y v ov iv u _ I2 r1 r2 r q2) fun _ s3 ⟨H3, I3, q3⟩ => ?_))))
  exact wpAny_release ⟨σ, H3, I3, q3⟩
/-- target = value -/
def tAsg (te : TE) (g : TG) : TS := fun D σ H => te σ H fun x H1 => g x σ H1 D.nx
theorem ps_asg {tg e : Expr} {te : TE} {g : TG} (he : PE X e te) (hg : PG X tg g) (hs : swapsWithSole [tg] e pos.line X.env = pure false := by rfl) (hw : swappedStores [tg] e X.env = pure none := by rfl)
    (h1 : (assignEach [tg] X.env).map (·.2) = [assign tg X.env] := by rfl) : PS X (.Assign [tg] e pos) (tAsg te g) := by
  intro pins s σ H D I h
  refine wpAny_Assign_stores (thn (he pins s σ H _ I h) fun v s1 ⟨x, H1, I1, r1, q1⟩ => ?_) hs hw
  rw [h1]
  exact thn (hg pins s1 σ H1 x v _ I1 r1 q1) fun _ s2 q => q
/-- name = value -/
theorem ps_set {i : Nat} {x : Str} {e : Expr} {te : TE} {pos' : Pos} (hN : X.N.Nodup) (hi : X.N[i]? = some x) (hx : Loc X.env.scope x) (he : PE X e te) (hs : swapsWith e (some (.Name x pos')) pos.line X.env = pure false := by rfl) (hf : X.fn x = true ∨ X.env.scope.names.lookup x = some .local := by first | exact .inl rfl | exact .inr rfl | assumption) :
    PS X (.Assign [.Name x pos'] e pos) (tAsg te (gName i)) := by
  intro pins s σ H D I h
  refine wpAny_Assign_Name (thn (he pins s σ H _ I h) fun v s1 ⟨y, H1, I1, r1, q1⟩ => ?_) hs
  exact store_ok I1 hN hi hx r1 (fun s2 I2 => ⟨_, H1, I2, q1⟩) hf
/-- a, b = x, y with plain local names: stored from the right; the pair itself is not tracked (the opening rows as in PyProof/Rows/TupAssign.lean:23) -/
def tPar (i j : Nat) (ta : TA) : TS := fun D σ H => ta σ H fun vs H1 => ∃ v w, vs = [v, w] ∧ D.nx ((σ.set i (some v)).set j (some w)) H1
/-- name op= e -/
def tAug (i : Nat) (te : TE) (ti : TIp) : TS := fun D σ H => ∃ x, σ[i]? = some (some x) ∧ te σ H fun y H1 => ti x y H1 fun z H2 => D.nx (σ.set i (some z)) H2
theorem ps_aug {i : Nat} {x : Str} {e : Expr} {te : TE} {op : Operator} {ti : TIp} {pos' : Pos} (hN : X.N.Nodup) (hi : X.N[i]? = some x) (hx : Loc X.env.scope x) (he : PE X e te) (ho : PIp X op ti) (hf : X.fn x = true ∨ X.env.scope.names.lookup x = some .local := by first | exact .inl rfl | exact .inr rfl | assumption) :
    PS X (.AugAssign (.Name x pos') op e pos) (tAug i te ti) := by
  intro pins s σ H D I h
  obtain ⟨v, e1, h⟩ := h
  obtain ⟨m, hn, hl⟩ := I.loc
  have vis : Vis X.env.scope x := by rcases hx with k | k; exact .inl k; exact .inr (.inl k)
  obtain ⟨u, r, l⟩ := hl i x v hi e1 vis
  refine wpAny_AugAssign_Name ?_
  have go : wpAny (model X.prog X.w) X.A (eval e X.env) (fun w s₂ => wpAny (model X.prog X.w) X.A (inplaceOp op u w) (fun r s₃ => wpAny (model X.prog X.w) X.A (storeName X.env x r) (fun _ => SP X pins D .next) X.xe s₃) X.xe s₂) X.xe s := by
    refine thn (he pins s σ H _ I h) fun w s1 ⟨y, H1, I1, r1, q1⟩ => ?_
    refine thn (ho pins s1 σ H1 v y u w _ I1 r r1 q1) fun z s2 ⟨zv, H2, I2, r2, q2⟩ => ?_
    exact store_ok I2 hN hi hx r2 (fun s3 I3 => ⟨_, H2, I3, q2⟩) hf
  rcases l with ⟨hk, hm⟩ | ⟨hk, c, hc, hcell⟩
  · exact wpAny_loadName_local I.ok.kind hk hn hm go
  · rcases hk with hk | hk
    · exact wpAny_loadName_cell I.ok.kind hk hc hcell go
    · rcases hx with k | k
      · have : X.env.scope.names.lookup x = some .free := hk
        rw [k] at this; cases this
      · have : X.env.scope.names.lookup x = some .free := hk
        rw [k] at this; cases this
/-- o[i] op= e -/
def tAugS (to ti te : TE) (tget : V → V → Hp → VK → Prop) (tip : TIp) (tset : TSet) : TS := fun D σ H => to σ H fun o H1 => ti σ H1 fun i H2 => tget o i H2 fun x H3 => te σ H3 fun y H4 => tip x y H4 fun z H5 => tset o i z H5 fun H6 => D.nx σ H6
/-- o[i], by values -/
def PGet (X : Cx) (t : V → V → Hp → VK → Prop) : Prop :=
  ∀ (pins : List (Addr × Obj)) (s : Shared) (σ : St) (H : Hp) (o i : V) (ov iv : Value) (Q : VK), Inv X pins σ H s → RelV o ov → RelV i iv → t o i H Q →
    wpAny (model X.prog X.w) X.A (getItem ov iv) (EP X pins σ Q) X.xe s
/-- ints -/
def ipI (f : Int → Int → Int) : TIp := fun x y H Q => ∃ i j, x = .int i ∧ y = .int j ∧ Q (.int (f i j)) H
theorem ip_add : PIp X .Add (ipI fun i j => i + j) := by
  intro pins s σ H x y v u Q I r1 r2 h
  obtain ⟨i, j, e1, e2, q⟩ := h
  subst e1; subst e2
  obtain ⟨t, rfl⟩ := r1
  obtain ⟨t', rfl⟩ := r2
  exact iadd_int ⟨.int _, H, I.tok _, ⟨_, rfl⟩, q⟩
end

/-! ### while -/
section
variable {X : Cx} {pos : Pos}
/-- the invariant W with its measure -/
def tWhile (c : TT) (tb : TS) : TS := fun D σ H => ∃ W : Nat → St → Hp → Prop, (∃ m, W m σ H) ∧ ∀ m σ H, W m σ H →
  c σ H fun b H1 => if b = true then ∃ N : St → Hp → Prop, (∀ σ' H', N σ' H' → ∃ m', m' < m ∧ W m' σ' H') ∧ tb { D with nx := N, ct := N, bk := D.nx } σ H1 else D.nx σ H1
theorem ps_while {c : Expr} {body : List Stmt} {tc : TT} {tb : TS} (hp : PassesOwn (model X.prog X.w) X.A X.env X.xe) (hc : PT X c tc) (hb : PSs X body tb) : PS X (.While c body [] pos) (tWhile tc tb) := by
  intro pins s σ H D I h
  obtain ⟨W, ⟨m0, w0⟩, turn⟩ := h
  refine wpAny_While (codeAny_whileLoop (fun n s' => ∃ σ' H', Inv X pins σ' H' s' ∧ W n σ' H') ?_ m0 ⟨σ, H, I, w0⟩)
  rintro n s1 ⟨σ1, H1, I1, w1⟩
  refine wpAny_passesOwn hp (thn (hc pins s1 σ1 H1 _ I1 (turn n σ1 H1 w1)) fun b s2 ⟨H2, I2, q2⟩ => ?_)
  cases b with
  | true =>
    obtain ⟨N, hN, q2⟩ := q2
    rw [if_pos rfl]
    refine wpAny_passesOwn hp (thn (hb pins s2 σ1 H2 _ I2 q2) fun f s3 q3 => ?_)
    cases f with
    | next =>
      obtain ⟨σ3, H3, I3, n3⟩ := q3
      obtain ⟨m', hm, w3⟩ := hN σ3 H3 n3
      exact ⟨m', hm, σ3, H3, I3, w3⟩
    | cont =>
      obtain ⟨σ3, H3, I3, n3⟩ := q3
      obtain ⟨m', hm, w3⟩ := hN σ3 H3 n3
      exact ⟨m', hm, σ3, H3, I3, w3⟩
    | brk => exact q3
    | ret v => exact q3
  | false =>
    rw [if_neg Bool.false_ne_true]
    exact wpAny_execs_nil ⟨σ1, H2, I2, q2⟩
end

/-! ### what a loop or a comprehension walks -/
/-- at turn i: it yields x (the heap may grow), or it stops -/
structure It where
  go : Nat → Hp → Prop
  yld : Nat → Hp → V → Hp → Prop
  stop : Nat → Hp → Prop
/-- the iterator's own objects may turn: they are not the frame's, not pinned, younger than the entry (or a comprehension's own) -/
def FpOk (X : Cx) (pins : List (Addr × Obj)) (H : Hp) (b : Addr) : Prop :=
  H b = none ∧ b ≠ X.env.locals ∧ b ∉ X.fs ∧ (b ∈ X.ex ∨ X.s_0.heap.objs.size ≤ b) ∧ (∀ x c, X.env.cells.lookup x = some c → c ≠ b) ∧ ∀ p ∈ X.pn ++ pins, p.1 ≠ b
theorem Inv.fpOk {X : Cx} {pins : List (Addr × Obj)} {σ : St} {H H' : Hp} {s : Shared} {b : Addr} (I : Inv X pins σ H s) (hb : s.heap.objs.size ≤ b) (hn : H' b = none) : FpOk X pins H' b := by
  refine ⟨hn, Nat.ne_of_gt (Nat.lt_of_lt_of_le I.lt hb), I.nofs hb, .inr (Nat.le_trans I.sz hb), fun x c e z => ?_, fun p hp z => ?_⟩
  · obtain ⟨v, q⟩ := I.cell x c e
    exact absurd (Nat.lt_of_lt_of_le q.lt (by rw [z]; exact hb)) (Nat.lt_irrefl _)
  · exact absurd (Nat.lt_of_lt_of_le (Heap.lt_size (I.pin p hp).1) (by rw [z]; exact hb)) (Nat.lt_irrefl _)
structure Turn (P : Program) (w : World) (K : PySem.W.Frag) (tg : Expr) (J : It) (fp : List Addr) (it : Addr) (tn : Nat → Heap → Prop) : Prop where
  mem : it ∈ fp
  obj : ∀ i h, tn i h → ∀ b ∈ fp, ∃ o, h.get? b = some o ∧ ∀ v, o.data ≠ .cell v
  keep : ∀ i h h', tn i h → (∀ b ∈ fp, ∀ o, h.get? b = some o → h'.get? b = some o) → tn i h'
  item : ∀ (X : Cx), X.prog = P → X.w = w → X.K = K → X.calm = true → ∀ (i : Nat) (pins : List (Addr × Obj)) (s : Shared) (σ : St) (H : Hp) (E : Value → Shared → Prop), Inv X pins σ H s → (∀ b ∈ fp, FpOk X pins H b) → tn i s.heap → J.go i H →
    wpAny (model P w) X.A (pyNext (.ref it)) (fun r s1 => ∃ u, r = some u ∧
      wpAny (model P w) X.A (letOwnedTupleGo tg (.ref it) u) (fun _ s2 => ∃ x H', Inv X pins σ H' s2 ∧ RelV x u ∧ J.yld i H x H' ∧ tn (i + 1) s2.heap ∧ ∀ b ∈ fp, H' b = none) E s1) E s
  done : ∀ (X : Cx), X.prog = P → X.w = w → X.K = K → X.calm = true → ∀ (i : Nat) (pins : List (Addr × Obj)) (s : Shared) (σ : St) (H : Hp) (E : Value → Shared → Prop), Inv X pins σ H s → (∀ b ∈ fp, FpOk X pins H b) → tn i s.heap → J.stop i H →
    wpAny (model P w) X.A (pyNext (.ref it)) (fun r s1 => r = none ∧ Inv X pins σ H s1) E s
  self : ∀ (A : Around) (i : Nat) (s : Shared) (Q : Value → Shared → Prop) (E : Value → Shared → Prop), tn i s.heap → Q (.ref it) s → wpAny (model P w) A (pyIter (.ref it)) Q E s
abbrev TI := St → Hp → (It → Hp → Prop) → Prop
/-- an iterator has come -/
def PIE (X : Cx) (pins : List (Addr × Obj)) (σ : St) (tg : Expr) (R : It → Hp → Prop) (itv : Value) (s2 : Shared) : Prop :=
  ∃ (it : Addr) (fp : List Addr) (tn : Nat → Heap → Prop) (J : It) (H' : Hp), itv = .ref it ∧ Inv X pins σ H' s2 ∧ Turn X.prog X.w X.K tg J fp it tn ∧ tn 0 s2.heap ∧ (∀ b ∈ fp, FpOk X pins H' b) ∧ R J H'
def PI (X : Cx) (tg iter : Expr) (wi : TI) : Prop :=
  ∀ (pins : List (Addr × Obj)) (s : Shared) (σ : St) (H : Hp) (R : It → Hp → Prop), Inv X pins σ H s → wi σ H R →
    wpAny (model X.prog X.w) X.A (eval iter X.env) (fun v s1 => wpAny (model X.prog X.w) X.A (pyIter v) (PIE X pins σ tg R) X.xe s1) X.xe s

/-- the step ahead of the store is nothing for an iterator that keeps no tuple -/
theorem go_of {M : Model} {A : Around} {E : Value → Shared → Prop} {s : Shared} {tg : Expr} {it : Addr} {u : Value} {o : Obj} {n : String} {vs : Array Value} {Q : Unit → Shared → Prop} (ho : s.heap.get? it = some o) (hc : o.cls = .type n) (hd : o.data = .fields vs)
    (hn : ["enumerate", "zip", "dict_itemiterator", "dict_reverseitemiterator", "odict_iterator", "itertools.zip_longest", "itertools.pairwise"].contains n = false) (hQ : Q () s) : wpAny M A (letOwnedTupleGo tg (.ref it) u) Q E s := by
  unfold letOwnedTupleGo
  cases tg <;> first
    | exact wpAny_pure hQ
    | (cases u <;> first
        | exact wpAny_pure hQ
        | (refine wpAny_bind (wpAny_load ho ?_)
           rw [hc, hd]
           show wpAny M A (if (["enumerate", "zip", "dict_itemiterator", "dict_reverseitemiterator", "odict_iterator", "itertools.zip_longest", "itertools.pairwise"].contains n && vs[0]? == some (rawInt _)) = true then _ else _) Q E s
           rw [if_neg (by intro h; rw [hn, Bool.false_and] at h; cases h)]
           exact wpAny_pure hQ))

/-- the list at a, as it stands at each turn (a loop may append to it) -/
def Itl (K : PySem.W.Frag) (a : Addr) : It :=
  ⟨fun i H => ∃ xs x, SqL K H a xs ∧ xs[i]? = some x, fun i H x H' => H' = H ∧ ∀ xs, SqL K H a xs → xs[i]? = some x, fun i H => ∃ xs, SqL K H a xs ∧ xs.length ≤ i⟩
def Itt (K : PySem.W.Frag) (a : Addr) : It :=
  ⟨fun i H => ∃ xs x, SqT K H a xs ∧ xs[i]? = some x, fun i H x H' => H' = H ∧ ∀ xs, SqT K H a xs → xs[i]? = some x, fun i H => ∃ xs, SqT K H a xs ∧ xs.length ≤ i⟩
/-- lo, lo + 1, .. (n of them) -/
def Itr (lo : Int) (n : Nat) : It := ⟨fun i _ => i < n, fun i H x H' => H' = H ∧ x = .int (lo + i), fun i _ => n ≤ i⟩
theorem turn_list {P : Program} {w : World} {K : PySem.W.Frag} {tg : Expr} (a it : Addr) : Turn P w K tg (Itl K a) [it] it (fun i h => h.IsListIter it a i) where
  mem := by simp
  obj := fun i h st b hb => by
    have e : b = it := by simpa using hb
    subst e
    obtain ⟨o, e, c, d⟩ := st
    exact ⟨o, e, fun v z => by rw [d] at z; cases z⟩
  keep := fun i h h' st k => st.at fun o e => k it (by simp) o e
  item := by
    intro X hP hw hK hc i pins s σ H E I hf st hg
    subst hP hw hK
    obtain ⟨xs, x, hq, hx⟩ := hg
    obtain ⟨its, rv, p, hz⟩ := I.list hq
    obtain ⟨u, hu, ru⟩ := rv.get hx
    obtain ⟨f0, f1, f2, f3, f4, f5⟩ := hf it (by simp)
    refine wpAny_pyNext_list_item st p.isList (x := u) (by simpa using hu) fun h' st' sb => ?_
    have I1 : Inv X pins σ H { s with heap := h' } := I.turned (t' := s.toks) (fun b o hb e => (sb.2 b hb).trans e) f0 f1 f3 f4 f5
    obtain ⟨o, e, c, d⟩ := id st'
    exact ⟨u, rfl, go_of (s := { s with heap := h' }) e c d (by decide) ⟨x, H, I1, ru, ⟨rfl, fun ys hy => by rw [I.list_inj hy hq]; exact hx⟩, st', fun b hb => (hf b hb).1⟩⟩
  done := by
    intro X hP hw hK hc i pins s σ H E I hf st hg
    subst hP hw hK
    obtain ⟨xs, hq, hx⟩ := hg
    obtain ⟨its, rv, p, hz⟩ := I.list hq
    obtain ⟨f0, f1, f2, f3, f4, f5⟩ := hf it (by simp)
    have hl := rv.length
    exact wpAny_pyNext_list_end (I.ok.hd hc) st p.isList (by simp; omega) fun h' eb => ⟨rfl, I.turned (t' := s.toks) (fun b o hb e => eb b o hb e) f0 f1 f3 f4 f5⟩
  self := fun _ _ _ _ _ st h => wpAny_pyIter_listiter st h
theorem turn_range {P : Program} {w : World} {K : PySem.W.Frag} {tg : Expr} (it : Addr) (lo : Int) (n : Nat) : Turn P w K tg (Itr lo n) [it] it (fun i h => IsRangeIter h it (lo + (i : Nat) * 1) ((n : Int) - (i : Nat)) 1) where
  mem := by simp
  obj := fun i h st b hb => by
    have e : b = it := by simpa using hb
    subst e
    exact ⟨_, st, fun v z => by
      have z' : Data.fields _ = Data.cell v := z
      cases z'⟩
  keep := fun i h h' st k => k it (by simp) _ st
  item := by
    intro X hP hw hK hc i pins s σ H E I hf st hg
    subst hP hw hK
    obtain ⟨f0, f1, f2, f3, f4, f5⟩ := hf it (by simp)
    have W := Walks.range (prog := X.prog) (w := X.w) (I.ok.hd hc) it lo 1 n
    refine W.item i s _ _ hg st fun v h' tk hv st' kk => ?_
    obtain ⟨t, rfl⟩ := hv
    have I1 : Inv X pins σ H { s with heap := h', toks := tk } := I.turned (fun b o hb e => kk b o (by simpa using hb) e) f0 f1 f3 f4 f5
    refine ⟨_, rfl, go_of (s := { s with heap := h', toks := tk }) (n := "range_iterator") st' rfl rfl (by decide) ⟨.int (lo + i), H, I1, ⟨t, ?_⟩, ⟨rfl, rfl⟩, st', fun b hb => (hf b hb).1⟩⟩
    rw [Int.mul_one]
  done := by
    intro X hP hw hK hc i pins s σ H E I hf st hg
    subst hP hw hK
    obtain ⟨f0, f1, f2, f3, f4, f5⟩ := hf it (by simp)
    exact wpAny_pyNext_range_end (I.ok.hd hc) st (by have : n ≤ i := hg; omega) fun h' eb => ⟨rfl, I.turned (t' := s.toks) (fun b o hb e => eb b o hb e) f0 f1 f3 f4 f5⟩
  self := fun _ _ _ _ _ st h => wpAny_pyIter_rangeiter st h
end L2

namespace L2
open PySem PySem.Spec PyProof.Rows
section
variable {X : Cx} {tg : Expr}
def iList (K : PySem.W.Frag) (tl : TE) : TI := fun σ H R => tl σ H fun x H1 => ∃ a, x = .ref a ∧ (∃ xs, SqL K H1 a xs) ∧ R (Itl K a) H1
def iTup (K : PySem.W.Frag) (tl : TE) : TI := fun σ H R => tl σ H fun x H1 => ∃ a, x = .ref a ∧ (∃ xs, SqT K H1 a xs) ∧ R (Itt K a) H1
theorem pi_list {l : Expr} {tl : TE} (hl : PE X l tl) : PI X tg l (iList X.K tl) := by
  intro pins s σ H R I h
  refine thn (hl pins s σ H _ I h) fun v s1 ⟨x, H1, I1, r1, q1⟩ => ?_
  obtain ⟨a, e, ⟨xs, hq⟩, q⟩ := q1
  subst e
  cases r1
  obtain ⟨its, rv, p, hz⟩ := I1.list hq
  refine wpAny_pyIter_list p.isList ?_
  refine ⟨s1.heap.objs.size, [s1.heap.objs.size], _, _, H1, rfl, I1.kept (t' := s1.toks) fun b o e => Heap.get?_push_of_some _ e, turn_list a _, ⟨_, Heap.get?_push_size _ rfl, rfl, rfl⟩, fun b hb => ?_, q⟩
  have e : b = s1.heap.objs.size := by simpa using hb
  subst e
  exact I1.fpOk (Nat.le_refl _) (I1.hok.fresh (Nat.le_refl _))
/-- a range object just made, walked -/
theorem range_it {pins : List (Addr × Obj)} {σ : St} {H : Hp} {s : Shared} {R : It → Hp → Prop} {E : Value → Shared → Prop} {lo hi : Int} {t u v : Tok} {tk : Nat} (I : Inv X pins σ H s) (h1 : -(2 ^ 62) ≤ lo) (h2 : lo < 2 ^ 62) (h3 : -(2 ^ 62) ≤ hi) (h4 : hi < 2 ^ 62)
    (q : R (Itr lo (hi - lo).toNat) H) : wpAny (model X.prog X.w) X.A (pyIter (.ref s.heap.objs.size)) (PIE X pins σ tg R) E { s with heap := s.heap.push { cls := .type "range", data := .fields #[.int lo t, .int hi u, .int 1 v] }, toks := tk } := by
  refine wpAny_pyIter_range (IsRange.new ..) (small_one h1 h2 h3 h4) ?_
  have I1 : Inv X pins σ H { s with heap := s.heap.push { cls := .type "range", data := .fields #[.int lo t, .int hi u, .int 1 v] }, toks := tk } := I.kept fun b o e => Heap.get?_push_of_some _ e
  refine ⟨(s.heap.push { cls := .type "range", data := .fields #[.int lo t, .int hi u, .int 1 v] }).objs.size, [(s.heap.push { cls := .type "range", data := .fields #[.int lo t, .int hi u, .int 1 v] }).objs.size], _, _, H, rfl,
    I1.kept (t' := tk) fun b o e => Heap.get?_push_of_some _ e, turn_range _ lo (hi - lo).toNat, ?_, fun b hb => ?_, q⟩
  · have e1 : lo + ((0 : Nat) : Int) * 1 = lo := by simp
    have e2 : (((hi - lo).toNat : Nat) : Int) - ((0 : Nat) : Int) = Builtin.Range.rangeSize lo hi 1 := by rw [rangeSize_one]; split <;> omega
    show IsRangeIter _ _ (lo + ((0 : Nat) : Int) * 1) ((((hi - lo).toNat : Nat) : Int) - ((0 : Nat) : Int)) 1
    rw [e1, e2]
    exact Heap.get?_push_size _ rfl
  · have e : b = (s.heap.push { cls := .type "range", data := .fields #[.int lo t, .int hi u, .int 1 v] }).objs.size := by simpa using hb
    subst e
    exact I1.fpOk (Nat.le_refl _) (I1.hok.fresh (Nat.le_refl _))
def iRng1 (ta : TA) : TI := fun σ H R => ta σ H fun vs H1 => ∃ j : Int, vs = [.int j] ∧ -(2 ^ 62) ≤ j ∧ j < 2 ^ 62 ∧ R (Itr 0 j.toNat) H1
def iRng2 (ta : TA) : TI := fun σ H R => ta σ H fun vs H1 => ∃ i j : Int, vs = [.int i, .int j] ∧ (-(2 ^ 62) ≤ i ∧ i < 2 ^ 62 ∧ -(2 ^ 62) ≤ j ∧ j < 2 ^ 62) ∧ R (Itr i (j - i).toNat) H1
theorem pi_range1 {a : Expr} {ta : TA} {p pos : Pos} (hg : Gl X "range") (hm : X.mg "range" = none) (ha : PA X [a] ta) (hs : starEach [a] X.env = [(false, eval a X.env)] := by rfl) : PI X tg (.Call (.Name "range" p) [a] [] pos) (iRng1 ta) := by
  intro pins s σ H R I h
  refine Call_ (ld_blt I hg hm boot_range (PyProof.Rows.callWith_type1 (thn (ha pos pins s σ H _ I h) fun us s1 ⟨vs, H1, I1, r1, q1⟩ => ?_) hs rfl))
  obtain ⟨j, e, q1, q2, q⟩ := q1
  subst e
  cases r1 with
  | cons r rr =>
    cases rr
    obtain ⟨t, rfl⟩ := r
    exact call_range_1 (range_it I1 (by omega) (by omega) q1 q2 (by simpa using q))

/-! ### for -/
/-- W: the invariant by the turn and a measure; N: what the body is to reach -/
def tFor (wi : TI) (g : TG) (tb : TS) : TS := fun D σ H => wi σ H fun J H1 => ∃ W : Nat → Nat → St → Hp → Prop, (∃ m, W 0 m σ H1) ∧ ∀ i m σ H, W i m σ H →
  (J.stop i H ∧ D.nx σ H) ∨ (J.go i H ∧ ∃ N : St → Hp → Prop, (∀ σ' H', N σ' H' → ∃ m', m' < m ∧ W (i + 1) m' σ' H') ∧ ∀ x H', J.yld i H x H' → g x σ H' fun σ2 H2 => tb { D with nx := N, ct := N, bk := D.nx } σ2 H2)
/-- the records at fp as they stand -/
def pinsAt (fp : List Addr) (h : Heap) : List (Addr × Obj) := fp.filterMap fun b => (h.get? b).map fun o => (b, o)
theorem mem_pinsAt {fp : List Addr} {h : Heap} {b : Addr} {o : Obj} (hb : b ∈ fp) (e : h.get? b = some o) : (b, o) ∈ pinsAt fp h := List.mem_filterMap.mpr ⟨b, hb, by rw [e]; rfl⟩
theorem of_pinsAt {fp : List Addr} {h : Heap} {p : Addr × Obj} (hp : p ∈ pinsAt fp h) : p.1 ∈ fp ∧ h.get? p.1 = some p.2 := by
  obtain ⟨b, hb, e⟩ := List.mem_filterMap.mp hp
  cases q : h.get? b with
  | none => rw [q] at e; cases e
  | some o =>
    rw [q] at e
    have e' : (b, o) = p := Option.some.inj e
    subst e'
    exact ⟨hb, q⟩
theorem Inv.pinned {pins : List (Addr × Obj)} {σ : St} {H : Hp} {s : Shared} {fp : List Addr} (I : Inv X pins σ H s) (hf : ∀ b ∈ fp, FpOk X pins H b) (ho : ∀ b ∈ fp, ∃ o, s.heap.get? b = some o ∧ ∀ v, o.data ≠ .cell v) : Inv X (pins ++ pinsAt fp s.heap) σ H s :=
  I.pins_of fun p hp => (List.mem_append.mp hp).elim (fun z => I.pin p (List.mem_append_right _ z)) fun z => by
    obtain ⟨hb, e⟩ := of_pinsAt z
    obtain ⟨f0, f1, f2, _⟩ := hf p.1 hb
    obtain ⟨o, e', d⟩ := ho p.1 hb
    rw [e] at e'; cases e'
    exact ⟨e, f0, f1, f2, d⟩
theorem Inv.unpinned {pins pl : List (Addr × Obj)} {σ : St} {H : Hp} {s : Shared} (I : Inv X (pins ++ pl) σ H s) : Inv X pins σ H s := I.pins_of fun p hp => I.pin p (List.mem_append_right _ (List.mem_append_left _ hp))
theorem ps_for {iter : Expr} {body : List Stmt} {wi : TI} {g : TG} {tb : TS} {pos : Pos} (hp : PassesOwn (model X.prog X.w) X.A X.env X.xe) (hc : X.calm = true) (hi : PI X tg iter wi) (hg : PG X tg g) (hb : PSs X body tb)
    (hs : ∀ x, foldedSetIterable iter X.env x = pure x := by intro _; rfl) : PS X (.For tg iter body [] pos) (tFor wi g tb) := by
  intro pins s σ H D I h
  refine wpAny_For (thn (hi pins s σ H _ I h) fun v s1 h1 => thn h1 fun itv s2 h2 => ?_) hs
  obtain ⟨it, fp, tn, J, H2, e, I2, T, st2, f2, W, ⟨m0, w0⟩, turn⟩ := h2
  subst e
  -- what stays true of the iterator's objects through the loop
  have stat : ∀ {H' : Hp}, (∀ b ∈ fp, H' b = none) → ∀ b ∈ fp, FpOk X pins H' b := fun hn b hb => ⟨hn b hb, (f2 b hb).2⟩
  refine codeAny_forLoop_any (fun n s' => ∃ i σ' H', Inv X pins σ' H' s' ∧ tn i s'.heap ∧ (∀ b ∈ fp, H' b = none) ∧ W i n σ' H') ?_ m0 ⟨0, σ, H2, I2, st2, fun b hb => (f2 b hb).1, w0⟩
  rintro n s3 ⟨i, σ3, H3, I3, st3, fr3, w3⟩
  rcases turn i n σ3 H3 w3 with ⟨stop, qn⟩ | ⟨go, N, hN, step⟩
  · refine wpAny_passesOwn hp (thn (T.done X rfl rfl rfl hc i pins s3 σ3 H3 X.xe I3 (stat fr3) st3 stop) fun r s4 ⟨hr, I4⟩ => ?_)
    subst hr
    exact wpAny_execs_nil ⟨σ3, H3, I4, qn⟩
  · refine wpAny_passesOwn hp (thn (T.item X rfl rfl rfl hc i pins s3 σ3 H3 X.xe I3 (stat fr3) st3 go) fun r s4 ⟨u, hr, h4⟩ => ?_)
    subst hr
    refine wpAny_passesOwn hp (thn h4 fun _ s5 ⟨x, H5, I5, r5, y5, st5, fr5⟩ => ?_)
    have I5' := I5.pinned (stat fr5) (T.obj _ _ st5)
    refine wpAny_passesOwn hp (thn (hg _ s5 σ3 H5 x u _ I5' r5 (step x H5 y5)) fun _ s6 ⟨σ6, H6, I6, q6⟩ => ?_)
    refine wpAny_passesOwn hp (thn (hb _ s6 σ6 H6 _ I6 q6) fun f s7 q7 => ?_)
    have again : ∀ {σ7 : St} {H7 : Hp}, Inv X (pins ++ pinsAt fp s5.heap) σ7 H7 s7 → N σ7 H7 → ∃ m, m < n ∧ ∃ i σ' H', Inv X pins σ' H' s7 ∧ tn i s7.heap ∧ (∀ b ∈ fp, H' b = none) ∧ W i m σ' H' := fun {σ7 H7} I7 n7 => by
      obtain ⟨m', hm, w7⟩ := hN σ7 H7 n7
      refine ⟨m', hm, i + 1, σ7, H7, I7.unpinned, T.keep _ _ _ st5 fun b hb o e => (I7.pin (b, o) (List.mem_append_right _ (List.mem_append_right _ (mem_pinsAt hb e)))).1, fun b hb => ?_, w7⟩
      obtain ⟨o, e, d⟩ := T.obj _ _ st5 b hb
      exact (I7.pin (b, o) (List.mem_append_right _ (List.mem_append_right _ (mem_pinsAt hb e)))).2.1
    cases f with
    | next => obtain ⟨σ7, H7, I7, n7⟩ := q7; exact again I7 n7
    | cont => obtain ⟨σ7, H7, I7, n7⟩ := q7; exact again I7 n7
    | brk => obtain ⟨σ7, H7, I7, q7⟩ := q7; exact ⟨σ7, H7, I7.unpinned, q7⟩
    | ret v => obtain ⟨x7, σ7, H7, I7, r7, q7⟩ := q7; exact ⟨x7, σ7, H7, I7.unpinned, r7, q7⟩
end

/-! ### the forms one uses -/
/-- over a list that the body leaves as it is -/
theorem for_list {K : PySem.W.Frag} {a : Addr} {xs : List V} {g : TG} {tb : TS} {D : Ends} {σ : St} {H : Hp} (Pv : Nat → St → Hp → Prop) (h0 : Pv 0 σ H) (hl : ∀ i σ H, i ≤ xs.length → Pv i σ H → SqL K H a xs)
    (hs : ∀ i x σ H, xs[i]? = some x → Pv i σ H → g x σ H fun σ2 H2 => tb { D with nx := Pv (i + 1), ct := Pv (i + 1), bk := D.nx } σ2 H2) (hd : ∀ σ H, Pv xs.length σ H → D.nx σ H) :
    ∃ W : Nat → Nat → St → Hp → Prop, (∃ m, W 0 m σ H) ∧ ∀ i m σ H, W i m σ H →
      ((Itl K a).stop i H ∧ D.nx σ H) ∨ ((Itl K a).go i H ∧ ∃ N : St → Hp → Prop, (∀ σ' H', N σ' H' → ∃ m', m' < m ∧ W (i + 1) m' σ' H') ∧ ∀ x H', (Itl K a).yld i H x H' → g x σ H' fun σ2 H2 => tb { D with nx := N, ct := N, bk := D.nx } σ2 H2) := by
  refine ⟨fun i m σ H => m = xs.length - i ∧ i ≤ xs.length ∧ Pv i σ H, ⟨xs.length, by simp, Nat.zero_le _, h0⟩, ?_⟩
  rintro i m σ H ⟨rfl, hi, p⟩
  have q := hl i σ H hi p
  by_cases hlt : i < xs.length
  · refine .inr ⟨⟨xs, xs[i], q, by simp [hlt]⟩, Pv (i + 1), fun σ' H' p' => ⟨xs.length - (i + 1), by omega, rfl, hlt, p'⟩, fun x H' y => ?_⟩
    obtain ⟨e, y⟩ := y
    subst e
    exact hs i x σ _ (y xs q) p
  · have e : i = xs.length := by omega
    subst e
    exact .inl ⟨⟨xs, q, Nat.le_refl _⟩, hd σ H p⟩
theorem for_range {lo : Int} {n : Nat} {g : TG} {tb : TS} {D : Ends} {σ : St} {H : Hp} (Pv : Nat → St → Hp → Prop) (h0 : Pv 0 σ H)
    (hs : ∀ i σ H, i < n → Pv i σ H → g (.int (lo + i)) σ H fun σ2 H2 => tb { D with nx := Pv (i + 1), ct := Pv (i + 1), bk := D.nx } σ2 H2) (hd : ∀ σ H, Pv n σ H → D.nx σ H) :
    ∃ W : Nat → Nat → St → Hp → Prop, (∃ m, W 0 m σ H) ∧ ∀ i m σ H, W i m σ H →
      ((Itr lo n).stop i H ∧ D.nx σ H) ∨ ((Itr lo n).go i H ∧ ∃ N : St → Hp → Prop, (∀ σ' H', N σ' H' → ∃ m', m' < m ∧ W (i + 1) m' σ' H') ∧ ∀ x H', (Itr lo n).yld i H x H' → g x σ H' fun σ2 H2 => tb { D with nx := N, ct := N, bk := D.nx } σ2 H2) := by
  refine ⟨fun i m σ H => m = n - i ∧ i ≤ n ∧ Pv i σ H, ⟨n, by simp, Nat.zero_le _, h0⟩, ?_⟩
  rintro i m σ H ⟨rfl, hi, p⟩
  by_cases hlt : i < n
  · refine .inr ⟨hlt, Pv (i + 1), fun σ' H' p' => ⟨n - (i + 1), by omega, rfl, hlt, p'⟩, fun x H' y => ?_⟩
    obtain ⟨e, y⟩ := y
    subst e y
    exact hs i σ _ hlt p
  · have e : i = n := by omega
    subst e
    exact .inl ⟨Nat.le_refl _, hd σ H p⟩
/-- while, by a word and a measure of the state -/
theorem while_by {c : TT} {tb : TS} {D : Ends} {σ : St} {H : Hp} (Pv : St → Hp → Prop) (μ : St → Hp → Nat) (h0 : Pv σ H)
    (hs : ∀ σ H, Pv σ H → c σ H fun b H1 => if b = true then tb { D with nx := fun σ' H' => Pv σ' H' ∧ μ σ' H' < μ σ H, ct := fun σ' H' => Pv σ' H' ∧ μ σ' H' < μ σ H, bk := D.nx } σ H1 else D.nx σ H1)
    (mono : ∀ σ H Q Q', (∀ b H1, Q b H1 → Q' b H1) → c σ H Q → c σ H Q') : tWhile c tb D σ H := by
  refine ⟨fun m σ H => m = μ σ H ∧ Pv σ H, ⟨_, rfl, h0⟩, ?_⟩
  rintro m σ H ⟨rfl, p⟩
  refine mono σ H _ _ (fun b H1 q => ?_) (hs σ H p)
  cases b with
  | true => exact ⟨_, fun σ' H' ⟨p', l⟩ => ⟨_, l, rfl, p'⟩, q⟩
  | false => exact q
end L2

namespace L2
open PySem PySem.Spec PyProof.Rows

abbrev R2 := V → V → Hp → VK → Prop
/-- a two-place operation on values: f is binaryOp op, inplaceOp op or compareOp op -/
def OpR (X : Cx) (f : Value → Value → Sem Value) (r : R2) : Prop :=
  ∀ (pins : List (Addr × Obj)) (s : Shared) (σ : St) (H : Hp) (x y : V) (v u : Value) (Q : VK), Inv X pins σ H s → RelV x v → RelV y u → r x y H Q →
    wpAny (model X.prog X.w) X.A (f v u) (EP X pins σ Q) X.xe s
/-- a one-place operation -/
def UnR (X : Cx) (f : Value → Sem Value) (r : V → Hp → VK → Prop) : Prop :=
  ∀ (pins : List (Addr × Obj)) (s : Shared) (σ : St) (H : Hp) (x : V) (v : Value) (Q : VK), Inv X pins σ H s → RelV x v → r x H Q →
    wpAny (model X.prog X.w) X.A (f v) (EP X pins σ Q) X.xe s
/-- a call of a value that is known (a builtin, a type) with values -/
def CallR (X : Cx) (f : Value) (r : List V → Hp → VK → Prop) : Prop :=
  ∀ (pins : List (Addr × Obj)) (s : Shared) (σ : St) (H : Hp) (xs : List V) (us : List Value) (Q : VK), Inv X pins σ H s → Vals xs us → r xs H Q →
    wpAny (model X.prog X.w) X.A (call f us) (EP X pins σ Q) X.xe s
/-- a value's truth -/
def TruR (X : Cx) (r : V → Hp → (Bool → Hp → Prop) → Prop) : Prop :=
  ∀ (pins : List (Addr × Obj)) (s : Shared) (σ : St) (H : Hp) (x : V) (v : Value) (Q : Bool → Hp → Prop), Inv X pins σ H s → RelV x v → r x H Q →
    wpAny (model X.prog X.w) X.A (truthy v) (TP X pins σ Q) X.xe s

def tOp (r : R2) (ta tb : TE) : TE := fun σ H Q => ta σ H fun x H1 => tb σ H1 fun y H2 => r x y H2 Q
def tUn (r : V → Hp → VK → Prop) (ta : TE) : TE := fun σ H Q => ta σ H fun x H1 => r x H1 Q
/-- ints in, under C, and a value out -/
def rI (C : Int → Int → Prop) (g : Int → Int → V) : R2 := fun x y H Q => ∃ i j, x = .int i ∧ y = .int j ∧ C i j ∧ Q (g i j) H
def rI0 (g : Int → Int → V) : R2 := fun x y H Q => ∃ i j, x = .int i ∧ y = .int j ∧ Q (g i j) H
def rU (g : Int → V) : V → Hp → VK → Prop := fun x H Q => ∃ i, x = .int i ∧ Q (g i) H

section
variable {X : Cx} {a b c : Expr} {ta tb tc : TE} {pos : Pos}

theorem binT (ha : PE X a ta) (hb : PE X b tb) {pins : List (Addr × Obj)} {s : Shared} {σ : St} {H : Hp} {R : V → V → Hp → Prop} (I : Inv X pins σ H s)
    (h : ta σ H fun x H1 => tb σ H1 fun y H2 => R x y H2) {Q : Value → Shared → Prop} {f : Value → Value → Sem Value}
    (hf : ∀ v u s2 x y H2, Inv X pins σ H2 s2 → RelV x v → RelV y u → R x y H2 → wpAny (model X.prog X.w) X.A (f v u) Q X.xe s2) :
    wpAny (model X.prog X.w) X.A (eval a X.env) (fun v s₁ => wpAny (model X.prog X.w) X.A (eval b X.env) (fun u s₂ => wpAny (model X.prog X.w) X.A (f v u) Q X.xe s₂) X.xe s₁) X.xe s := by
  refine thn (ha pins s σ H _ I h) fun v s1 ⟨x, H1, I1, r1, q1⟩ => ?_
  refine thn (hb pins s1 σ H1 _ I1 q1) fun u s2 ⟨y, H2, I2, r2, q2⟩ => ?_
  exact hf v u s2 x y H2 I2 r1 r2 q2

theorem pe_op {op : Operator} {r : R2} (ho : OpR X (binaryOp op) r) (ha : PE X a ta) (hb : PE X b tb) : PE X (.BinOp a op b pos) (tOp r ta tb) := by
  intro pins s σ H Q I h
  exact wpAny_BinOp (binT ha hb I h fun v u s2 x y H2 I2 rx ry q => ho pins s2 σ H2 x y v u Q I2 rx ry q)

/-! ### ints -/
theorem opI {f : Value → Value → Sem Value} {C : Int → Int → Prop} {g : Int → Int → Int}
    (rule : ∀ (i j : Int) (t u : Tok) (s : Shared) (Q : Value → Shared → Prop) (E : Value → Shared → Prop), C i j → Q (.int (g i j) s.toks) { s with toks := s.toks + 1 } → wpAny (model X.prog X.w) X.A (f (.int i t) (.int j u)) Q E s) :
    OpR X f (rI C fun i j => .int (g i j)) := by
  intro pins s σ H x y v u Q I rx ry h
  obtain ⟨i, j, rfl, rfl, hc, q⟩ := h
  obtain ⟨t, rfl⟩ := rx
  obtain ⟨t', rfl⟩ := ry
  exact rule i j t t' s _ _ hc ⟨.int (g i j), H, I.tok _, ⟨_, rfl⟩, q⟩
theorem opI0 {f : Value → Value → Sem Value} {g : Int → Int → Int}
    (rule : ∀ (i j : Int) (t u : Tok) (s : Shared) (Q : Value → Shared → Prop) (E : Value → Shared → Prop), Q (.int (g i j) s.toks) { s with toks := s.toks + 1 } → wpAny (model X.prog X.w) X.A (f (.int i t) (.int j u)) Q E s) :
    OpR X f (rI0 fun i j => .int (g i j)) := by
  intro pins s σ H x y v u Q I rx ry h
  obtain ⟨i, j, rfl, rfl, q⟩ := h
  obtain ⟨t, rfl⟩ := rx
  obtain ⟨t', rfl⟩ := ry
  exact rule i j t t' s _ _ ⟨.int (g i j), H, I.tok _, ⟨_, rfl⟩, q⟩
theorem opB0 {f : Value → Value → Sem Value} {g : Int → Int → Bool}
    (rule : ∀ (i j : Int) (t u : Tok) (s : Shared) (Q : Value → Shared → Prop) (E : Value → Shared → Prop), Q (.bool (g i j)) s → wpAny (model X.prog X.w) X.A (f (.int i t) (.int j u)) Q E s) :
    OpR X f (rI0 fun i j => .bl (g i j)) := by
  intro pins s σ H x y v u Q I rx ry h
  obtain ⟨i, j, rfl, rfl, q⟩ := h
  obtain ⟨t, rfl⟩ := rx
  obtain ⟨t', rfl⟩ := ry
  exact rule i j t t' s _ _ ⟨.bl (g i j), H, I, rfl, q⟩

def CDiv (i j : Int) : Prop := 0 < j ∧ j < 1073741824
def CDivN (i j : Int) : Prop := j ≠ 0 ∧ j.natAbs < 1073741824
def CPow (i j : Int) : Prop := 0 ≤ j ∧ j ≤ 1000000 ∧ i.natAbs < 2 ^ 64
def CMul (i j : Int) : Prop := (-(2 ^ 64) < i ∧ i < 2 ^ 64) ∨ (-(2 ^ 64) < j ∧ j < 2 ^ 64)
theorem CMul.ok {i j : Int} (h : CMul i j) : IntMulOk i j := by
  rcases h with ⟨h1, h2⟩ | ⟨h1, h2⟩
  · exact .of_left (intBits_le_64 h1 h2)
  · exact .of_right (intBits_le_64 h1 h2)

theorem op_add : OpR X (binaryOp .Add) (rI0 fun i j => .int (i + j)) := opI0 fun _ _ _ _ _ _ _ q => add_int q
theorem op_sub : OpR X (binaryOp .Sub) (rI0 fun i j => .int (i - j)) := opI0 fun _ _ _ _ _ _ _ q => sub_int q
theorem op_mul : OpR X (binaryOp .Mult) (rI CMul fun i j => .int (i * j)) := opI fun _ _ _ _ _ _ _ hc q => mul_int q hc.ok



/-! ### bools among ints: n += (a < b) -/
end

/-! ### comparisons -/
/-- the scalars that == tells apart as data does -/
def scal : V → V → Bool
  | .non, .non => true | .non, .int _ => true | .int _, .non => true | .non, .bl _ => true | .bl _, .non => true | .non, .str _ => true | .str _, .non => true
  | .int _, .int _ => true | .bl _, .bl _ => true | .str _, .str _ => true | .byt _, .byt _ => true
  | .int _, .str _ => true | .str _, .int _ => true | .bl _, .str _ => true | .str _, .bl _ => true
  | _, _ => false
def rEq : R2 := fun x y H Q => scal x y = true ∧ Q (.bl (decide (x = y))) H
def rNe : R2 := fun x y H Q => scal x y = true ∧ Q (.bl (!decide (x = y))) H

theorem dec_int {i j : Int} : decide (V.int i = V.int j) = (i == j) := by
  rw [Bool.eq_iff_iff]
  simp
theorem dec_bl {i j : Bool} : decide (V.bl i = V.bl j) = (i == j) := by
  rw [Bool.eq_iff_iff]
  simp
theorem dec_str {i j : Str} : decide (V.str i = V.str j) = (i == j) := by
  rw [Bool.eq_iff_iff]
  simp
theorem dec_byt {i j : Array UInt8} : decide (V.byt i = V.byt j) = (i.toList == j.toList) := by
  rw [Bool.eq_iff_iff]
  cases i
  cases j
  simp

section
variable {X : Cx} {a b c : Expr} {ta tb tc : TE} {pos : Pos}
theorem fin_bl {pins : List (Addr × Obj)} {σ : St} {H : Hp} {s : Shared} {Q : VK} {k k' : Bool} (I : Inv X pins σ H s) (q : Q (.bl k) H) (e : k = k') : EP X pins σ Q (.bool k') s := by
  subst e
  exact ⟨.bl k, H, I, rfl, q⟩
theorem op_eq : OpR X (compareOp .Eq) rEq := by
  intro pins s σ H x y v u Q I rx ry h
  obtain ⟨hs, q⟩ := h
  cases x with
  | non =>
    cases rx
    cases y with
    | non => cases ry; exact PySem.EqNone.eq_none_none (fin_bl I q (by simp))
    | bl j => cases ry; exact PySem.EqNone.eq_none_bool (fin_bl I q (by simp))
    | int j => obtain ⟨t', rfl⟩ := ry; exact PySem.EqNone.eq_none_int (fin_bl I q (by simp))
    | str j => obtain ⟨t', rfl⟩ := ry; exact PySem.EqNone.eq_none_str (fin_bl I q (by simp))
    | _ => exact absurd (show false = true from hs) Bool.false_ne_true
  | bl i =>
    cases rx
    cases y with
    | non => cases ry; exact PySem.EqNone.eq_bool_none (fin_bl I q (by simp))
    | bl j => cases ry; exact eq_bool (fin_bl I q dec_bl)
    | str j => obtain ⟨t', rfl⟩ := ry; exact PySem.EqMixed.eq_bool_str (fin_bl I q (by simp))
    | _ => exact absurd (show false = true from hs) Bool.false_ne_true
  | int i =>
    obtain ⟨t, rfl⟩ := rx
    cases y with
    | non => cases ry; exact PySem.EqNone.eq_int_none (fin_bl I q (by simp))
    | int j => obtain ⟨t', rfl⟩ := ry; exact eq_int (fin_bl I q dec_int)
    | str j => obtain ⟨t', rfl⟩ := ry; exact PySem.EqMixed.eq_int_str (fin_bl I q (by simp))
    | _ => exact absurd (show false = true from hs) Bool.false_ne_true
  | str i =>
    obtain ⟨t, rfl⟩ := rx
    cases y with
    | non => cases ry; exact PySem.EqNone.eq_str_none (fin_bl I q (by simp))
    | bl j => cases ry; exact PySem.EqMixed.eq_str_bool (fin_bl I q (by simp))
    | int j => obtain ⟨t', rfl⟩ := ry; exact PySem.EqMixed.eq_str_int (fin_bl I q (by simp))
    | str j => obtain ⟨t', rfl⟩ := ry; exact eq_str (fin_bl I q dec_str)
    | _ => exact absurd (show false = true from hs) Bool.false_ne_true
  | byt i =>
    obtain ⟨t, rfl⟩ := rx
    cases y with
    | byt j => obtain ⟨t', rfl⟩ := ry; exact PySem.W.eq_bytes (fin_bl I q dec_byt)
    | _ => exact absurd (show false = true from hs) Bool.false_ne_true
  | _ => cases y <;> exact absurd (show false = true from hs) Bool.false_ne_true
theorem op_ne : OpR X (compareOp .NotEq) rNe := by
  intro pins s σ H x y v u Q I rx ry h
  obtain ⟨hs, q⟩ := h
  cases x with
  | non =>
    cases rx
    cases y with
    | non => cases ry; exact PySem.EqNone.ne_none_none (fin_bl I q (by simp))
    | bl j => cases ry; exact PySem.EqNone.ne_none_bool (fin_bl I q (by simp))
    | int j => obtain ⟨t', rfl⟩ := ry; exact PySem.EqNone.ne_none_int (fin_bl I q (by simp))
    | str j => obtain ⟨t', rfl⟩ := ry; exact PySem.EqNone.ne_none_str (fin_bl I q (by simp))
    | _ => exact absurd (show false = true from hs) Bool.false_ne_true
  | bl i =>
    cases rx
    cases y with
    | non => cases ry; exact PySem.EqNone.ne_bool_none (fin_bl I q (by simp))
    | bl j => cases ry; exact ne_bool (fin_bl I q (congrArg not dec_bl))
    | str j => obtain ⟨t', rfl⟩ := ry; exact PySem.EqMixed.ne_bool_str (fin_bl I q (by simp))
    | _ => exact absurd (show false = true from hs) Bool.false_ne_true
  | int i =>
    obtain ⟨t, rfl⟩ := rx
    cases y with
    | non => cases ry; exact PySem.EqNone.ne_int_none (fin_bl I q (by simp))
    | int j => obtain ⟨t', rfl⟩ := ry; exact ne_int (fin_bl I q (congrArg not dec_int))
    | str j => obtain ⟨t', rfl⟩ := ry; exact PySem.EqMixed.ne_int_str (fin_bl I q (by simp))
    | _ => exact absurd (show false = true from hs) Bool.false_ne_true
  | str i =>
    obtain ⟨t, rfl⟩ := rx
    cases y with
    | non => cases ry; exact PySem.EqNone.ne_str_none (fin_bl I q (by simp))
    | bl j => cases ry; exact PySem.EqMixed.ne_str_bool (fin_bl I q (by simp))
    | int j => obtain ⟨t', rfl⟩ := ry; exact PySem.EqMixed.ne_str_int (fin_bl I q (by simp))
    | str j => obtain ⟨t', rfl⟩ := ry; exact ne_str (fin_bl I q (congrArg not dec_str))
    | _ => exact absurd (show false = true from hs) Bool.false_ne_true
  | byt i =>
    obtain ⟨t, rfl⟩ := rx
    cases y with
    | byt j => obtain ⟨t', rfl⟩ := ry; exact PySem.W.ne_bytes (fin_bl I q (congrArg not dec_byt))
    | _ => exact absurd (show false = true from hs) Bool.false_ne_true
  | _ => cases y <;> exact absurd (show false = true from hs) Bool.false_ne_true

theorem op_lt : OpR X (compareOp .Lt) (rI0 fun i j => .bl (decide (i < j))) := opB0 fun _ _ _ _ _ _ _ q => lt_int q
theorem op_gt : OpR X (compareOp .Gt) (rI0 fun i j => .bl (decide (j < i))) := opB0 fun _ _ _ _ _ _ _ q => gt_int q


/-- is, is not of two objects that are tracked lists or instances -/
def isObj : HO → Bool
  | .lst _ => true
  | .ins _ _ _ => true
  | _ => false

/-- two rules for one operation: by cases -/
theorem OpR.or {f : Value → Value → Sem Value} {r r' : R2} (h : OpR X f r) (h' : OpR X f r') : OpR X f (fun x y H Q => r x y H Q ∨ r' x y H Q) := by
  intro pins s σ H x y v u Q I rx ry q
  rcases q with q | q
  · exact h pins s σ H x y v u Q I rx ry q
  · exact h' pins s σ H x y v u Q I rx ry q

theorem nomark (b : Expr) {op : CmpOp} (h : op ≠ .In := by decide) (h2 : op ≠ .NotIn := by decide) : behindInMarks op b = false := by
  have e1 : (op == CmpOp.In) = false := by cases op <;> first | rfl | exact absurd rfl h
  have e2 : (op == CmpOp.NotIn) = false := by cases op <;> first | rfl | exact absurd rfl h2
  cases b <;> simp [behindInMarks, e1, e2]
/-- a comparison as a value; hm: nomark b, or (for in, not in) by with_unfolding_all rfl -/
theorem pe_cmpR {op : CmpOp} {r : R2} (ho : OpR X (compareOp op) r) (ha : PE X a ta) (hb : PE X b tb) (hm : behindInMarks op b = false) : PE X (.Compare a [op] [b] pos) (tOp r ta tb) := by
  intro pins s σ H Q I h
  exact wpAny_Compare1 (binT ha hb I h fun v u s2 x y H2 I2 rx ry q => ho pins s2 σ H2 x y v u Q I2 rx ry q) hm
/-- a reading of a value as a test -/
def tTest (t : TE) : TT := fun σ H Q => t σ H fun x H' => ∃ k, x = .bl k ∧ Q k H'
theorem pt_cmpR {op : CmpOp} {r : R2} (ho : OpR X (compareOp op) r) (ha : PE X a ta) (hb : PE X b tb) (hm : behindInMarks op b = false) : PT X (.Compare a [op] [b] pos) (tTest (tOp r ta tb)) := by
  intro pins s σ H Q I h
  refine wpAny_isTrue_Compare1 (thn (ha pins s σ H _ I h) fun v s1 ⟨x, H1, I1, r1, q1⟩ => thn (hb pins s1 σ H1 _ I1 q1) fun u s2 ⟨y, H2, I2, r2, q2⟩ =>
    thn (ho pins s2 σ H2 x y v u _ I2 r1 r2 q2) fun c s3 ⟨z, H3, I3, r3, k, e, q3⟩ => ?_) hm
  subst e
  cases r3
  exact wpAny_truthy_bool ⟨H3, I3, q3⟩
/-- a op1 b op2 c -/
def tChain (r r' : R2) (ta tb tc : TE) : TE := fun σ H Q => ta σ H fun x H1 => tb σ H1 fun y H2 => r x y H2 fun z H3 => ∃ k, z = .bl k ∧
  (if k = true then tc σ H3 fun w' H4 => r' y w' H4 Q else Q (.bl false) H3)

/-! ### truth -/
/-- a value's truth by the abstract heap -/
def TruV (K : PySem.W.Frag) (x : V) (H : Hp) (k : Bool) : Prop :=
  match x with
  | .non => k = false
  | .bl b => k = b
  | .int i => k = (i != 0)
  | .str y => y.length ≤ sizeLine ∧ k = ((y.length : Int) != 0)
  | .byt y => y.size ≤ sizeLine ∧ k = ((y.size : Int) != 0)
  | .ref p => (∃ xs, SqL K H p xs ∧ k = !xs.isEmpty) ∨ (∃ xs, SqT K H p xs ∧ k = !xs.isEmpty) ∨ ∃ kvs, H p = some (.dK kvs) ∧ k = !kvs.isEmpty
  | _ => False
theorem line63 : (sizeLine : Nat) < 2 ^ 63 := by rw [sizeLine_eq]; decide

/-! ### strs and bytes -/

def PlainIxT (b : Expr) : Prop := ∀ o i, subscripted b false o i = operate [o, i] (getItem o i)

/-! ### scalar builtins, by CallR -/
theorem vals1 {x : V} {us : List Value} (r : Vals [x] us) : ∃ u, us = [u] ∧ RelV x u := by
  cases r with
  | cons r1 r2 => cases r2; exact ⟨_, rfl, r1⟩
/-- len of a str, a bytes, a list, a tuple -/
def LenV (K : PySem.W.Frag) (x : V) (H : Hp) (n : Nat) : Prop :=
  match x with
  | .str y => y.length ≤ sizeLine ∧ n = y.length
  | .byt y => y.size ≤ sizeLine ∧ n = y.size
  | .ref p => (∃ xs, SqL K H p xs ∧ n = xs.length) ∨ ∃ xs, SqT K H p xs ∧ n = xs.length
  | _ => False
end
end L2

namespace L2
open PySem PySem.Spec PyProof.Rows

/-! ### an instance, its attributes a map -/
structure ObjM (h : Heap) (x dx C : Addr) (mA : Str → Option Value) : Prop where
  obj : h.get? x = some (PySem.W.instObj C dx)
  ns : h.Ns1 dx mA
  ne : dx ≠ x

theorem lookIn_ns {h : Heap} {dx : Addr} {mA : Str → Option Value} (n : h.Ns1 dx mA) : ∃ od, h.get? dx = some od ∧ ∀ name, PySem.W.lookIn name od = some (mA name) := by
  obtain ⟨o, es, ep, ho, hd, hk, _, hm⟩ := n
  refine ⟨o, ho, fun name => ?_⟩
  have e := hm name
  unfold nsFind findBy at e
  rw [← Array.find?_toList] at e
  unfold PySem.W.lookIn
  rw [hd]
  dsimp only
  split
  · rename_i y q
    rw [q] at e
    exact congrArg some e
  · rename_i q
    rw [q] at e
    have a : es.toList.any (·.refKey) = false := by
      rw [List.any_eq_false]
      intro y hy
      obtain ⟨z, t, hkey⟩ := hk y (Array.mem_toList_iff.mp hy)
      simp [DictEntry.refKey, hkey]
    have a' : ¬ es.toList.any (·.refKey) = true := by rw [a]; exact Bool.false_ne_true
    rw [if_neg a']
    exact congrArg some e

theorem ObjM.look {h : Heap} {x dx C : Addr} {mA : Str → Option Value} (I : ObjM h x dx C mA) : ∃ od, PySem.W.InstAt h x (PySem.W.instObj C dx) C (some od) ∧ ∀ name, PySem.W.lookIn name od = some (mA name) :=
  let ⟨od, ho, hl⟩ := lookIn_ns I.ns
  ⟨od, ⟨I.obj, rfl, rfl, ho⟩, hl⟩

section
variable {prog : Program} {w : World} {A : Around} {E : Value → Shared → Prop} {s : Shared} {K : PySem.W.Frag} {x dx C f : Addr} {mA : Str → Option Value} {name : Str} {v : Value}

theorem get_map {expr : Bool} {Q : Value → Shared → Prop} (X : K.In s.heap) (I : ObjM s.heap x dx C mA) (hg : PySem.W.plainGet K C name = true) (hh : PySem.W.hasDictIn K C = true)
    (ha : PySem.W.findIn K (.ref C) name = some none) (hv : mA name = some v) (hv' : PySem.W.handedIn v = true) (h : Q v { s with toks := s.toks + 1 }) :
    wpAny (model prog w) A (getAttr (.ref x) name expr) Q E s := by
  obtain ⟨od, J, hl⟩ := I.look
  exact PySem.W.get_value X J (PySem.W.plainGet_of hg).1 (PySem.W.findObj_own hh ha rfl (by rw [hl, hv])) hv' h


theorem get_meth {pl : Sem Bool} {Q : Value × List Value → Shared → Prop} (X : K.In s.heap) (I : ObjM s.heap x dx C mA) (hg : PySem.W.plainGet K C name = true)
    (hf : PySem.W.findIn K (.ref C) name = some (some (.ref f))) (ht : PySem.W.isFn K (.ref f) = true) (hv : mA name = none) (h : Q (.ref f, [.ref x]) s) :
    wpAny (model prog w) A (getMethod (.ref x) name pl) Q E s := by
  obtain ⟨od, J, hl⟩ := I.look
  exact PySem.W.method_fn X J (PySem.W.plainGet_of hg).1 (PySem.W.plainGet_of hg).2 hf (beq_iff_eq.mp ht) (by show (PySem.W.lookIn name od).map (·.isSome) = some false; rw [hl, hv]; rfl) h

theorem set_map {ns : List Str} {Q : Unit → Shared → Prop} (X : K.In s.heap) (I : ObjM s.heap x dx C mA)
    (hs : PySem.W.findIn K (.ref C) "__setattr__" = some (some (.builtin "object.__setattr__"))) (hp : PySem.W.plainOver K C = true) (ht : PySem.W.takerIn K C name = some none) (hh : PySem.W.hasDictIn K C = true)
    (hw : PySem.Within mA ns) (hsz : ns.length ≤ sizeLine)
    (h : ∀ h', ObjM h' x dx C (fun y => if y = name then some v else mA y) → Heap.SameBut dx s.heap h' → Q () { s with heap := h', toks := s.toks + 2 }) :
    wpAny (model prog w) A (setAttr (.ref x) name v) Q E s := by
  obtain ⟨od, J, hl⟩ := I.look
  refine PySem.W.set_plain X J hs (PySem.W.osa_open (s := { s with toks := s.toks + 1 }) (r := none) X J hp ht fun b => ?_)
  obtain ⟨cd, hc, hd'⟩ := PySem.W.any_some hh
  have hx : s.heap.get? x = some ⟨.ref C, some dx, .plain, #[]⟩ := I.obj
  refine wpAny_bind (wpAny_pure (wpAny_bind (wpAny_bind (wpAny_loadPart hx (wpAny_bind (PySem.W.Looks.here (s := { s with toks := s.toks + 1 }) (PySem.W.looks_clsIn X hc) ?_))))))
  rw [hd']
  refine wpAny_pure (a := some dx) (wpAny_bind (wpAny_pure (wpAny_bind ?_)))
  refine wpAny_nsSet1 (s := { s with toks := s.toks + 1 }) I.ns fun h' hn2 hs2 => ?_
  obtain ⟨oD, esD, epD, hoD, hdD, hcD⟩ := hn2.count (PySem.Within.cons name v hw)
  refine wpAny_bind (wpAny_lookBehind hoD (by rw [hdD]; exact pastItsLine_dict (Nat.le_trans hcD (by rw [List.length_cons]; omega))) ?_)
  exact wpAny_pure (h _ ⟨(hs2.2 _ (Ne.symm I.ne)).trans I.obj, hn2, I.ne⟩ hs2)

/-- C(..): the dict at the heap's end, the instance behind it; then its __init__ -/
theorem make_map {R : Result → Shared → Prop} {vs : List Value} {kw : List (Str × Value)} (X : K.In s.heap) (hm : PySem.W.makesIn K C = true)
    (hi : PySem.W.findIn K (.ref C) "__init__" = some (some (.ref f))) (hf : PySem.W.typeIn K (.ref f) = some (.type "function"))
    (h : codeAny (model prog w) (A.under (.builtin "type.__call__" ⟨.ref C :: vs, kw⟩)) (.call (.ref f) ⟨.ref (s.heap.objs.size + 1) :: vs, kw⟩) (PySem.W.InitBack (s.heap.objs.size + 1) R)
      { s with heap := (s.heap.push PySem.W.emptyDict).push (PySem.W.instObj C s.heap.objs.size) }) :
    codeAny (model prog w) A (.call (.ref C) ⟨vs, kw⟩) R s := by
  obtain ⟨hh, g, d, t, os⟩ := s
  exact PySem.W.make_core (PySem.W.makes_of X hm) (PySem.W.looks_findIn X hi) (fun self => PySem.W.bind_fn X self hf) (.inl rfl) h
end

/-! ### the attributes as a list of pairs -/
def putF (f : Str) (v : V) : List (Str × V) → List (Str × V)
  | [] => [(f, v)]
  | (g, x) :: r => if g = f then (g, v) :: r else (g, x) :: putF f v r
theorem lookup_putF (f g : Str) (v : V) : ∀ fs : List (Str × V), (putF f v fs).lookup g = if g = f then some v else fs.lookup g
  | [] => by
    show List.lookup g [(f, v)] = _
    by_cases h : g = f
    · have hb : (g == f) = true := beq_iff_eq.mpr h
      simp only [List.lookup, hb, if_pos h]
    · have hb : (g == f) = false := beq_eq_false_iff_ne.mpr h
      simp only [List.lookup, hb, if_neg h]
  | (k, x) :: r => by
    have ih := lookup_putF f g v r
    rw [show putF f v ((k, x) :: r) = (if k = f then (k, v) :: r else (k, x) :: putF f v r) from rfl]
    by_cases hk : k = f
    · rw [if_pos hk]
      by_cases h : g = k
      · have hb : (g == k) = true := beq_iff_eq.mpr h
        simp only [List.lookup, hb, if_pos (h.trans hk)]
      · have hb : (g == k) = false := beq_eq_false_iff_ne.mpr h
        simp only [List.lookup, hb, if_neg (fun e : g = f => h (e.trans hk.symm))]
    · rw [if_neg hk]
      by_cases h : g = k
      · have hb : (g == k) = true := beq_iff_eq.mpr h
        simp only [List.lookup, hb, if_neg (fun e : g = f => hk (h.symm.trans e))]
      · have hb : (g == k) = false := beq_eq_false_iff_ne.mpr h
        simp only [List.lookup, hb]
        exact ih
theorem keys_putF (f : Str) (v : V) : ∀ fs : List (Str × V), f ∈ (putF f v fs).map (·.1) ∧ ∀ g, g ∈ fs.map (·.1) → g ∈ (putF f v fs).map (·.1)
  | [] => ⟨by simp [putF], fun g h => by simp at h⟩
  | (k, x) :: r => by
    obtain ⟨i1, i2⟩ := keys_putF f v r
    rw [show putF f v ((k, x) :: r) = (if k = f then (k, v) :: r else (k, x) :: putF f v r) from rfl]
    by_cases hk : k = f
    · rw [if_pos hk]
      subst hk
      exact ⟨by simp, fun g h => by simpa using h⟩
    · rw [if_neg hk]
      refine ⟨?_, fun g h => ?_⟩
      · rw [List.map_cons]
        exact List.mem_cons_of_mem _ i1
      · rw [List.map_cons] at h ⊢
        rcases List.mem_cons.mp h with e | e
        · exact List.mem_cons.mpr (.inl e)
        · exact List.mem_cons_of_mem _ (i2 g e)
theorem length_putF (f : Str) (v : V) : ∀ fs : List (Str × V), (putF f v fs).length ≤ fs.length + 1
  | [] => by simp [putF]
  | (k, x) :: r => by
    have ih := length_putF f v r
    rw [show putF f v ((k, x) :: r) = (if k = f then (k, v) :: r else (k, x) :: putF f v r) from rfl]
    by_cases hk : k = f
    · rw [if_pos hk, List.length_cons, List.length_cons]; omega
    · rw [if_neg hk, List.length_cons, List.length_cons]; omega

theorem RelO.some_of {v : V} {o : Option Value} (r : RelO (some v) o) : ∃ u, o = some u ∧ RelV v u := by
  cases o with
  | none => exact (show False from r).elim
  | some u => exact ⟨u, rfl, r⟩
theorem RelO.none_of {o : Option Value} (r : RelO none o) : o = none := by
  cases o with
  | none => rfl
  | some u => exact (show False from r).elim
theorem handed_of {v : V} {u : Value} (r : RelV v u) : PySem.W.handedIn u = true := by
  cases v with
  | non => cases (show u = Value.none from r); rfl
  | bl b => cases (show u = Value.bool b from r); rfl
  | int i => obtain ⟨t, e⟩ := (show ∃ t, u = Value.int i t from r); cases e; rfl
  | str x => obtain ⟨t, e⟩ := (show ∃ t, u = Value.str x t from r); cases e; rfl
  | byt b => obtain ⟨t, e⟩ := (show ∃ t, u = Value.bytes b t from r); cases e; rfl
  | flt b => obtain ⟨t, e⟩ := (show ∃ t, u = Value.float b t from r); cases e; rfl
  | ref a => cases (show u = Value.ref a from r); rfl
  | ty n => cases (show u = Value.type n from r); rfl

section
variable {P : Program} {w : World} {H H' : Hp} {h h' : Heap} {a C dx : Addr} {fs fs' : List (Str × V)}
theorem ins_get (hok : HOk P w H h) (e : H a = some (.ins C dx fs)) : ∃ mA, ObjM h a dx C mA ∧ (∀ f, RelO (fs.lookup f) (mA f)) ∧ PySem.Within mA (fs.map (·.1)) ∧ fs.length ≤ 1000 ∧ H dx = some (.own a) := by
  obtain ⟨d, z, ne, ob, mA, n, r, q⟩ := (show ObjOk P w H h a (.ins C dx fs) from hok a _ e)
  exact ⟨mA, ⟨ob, n, ne⟩, r, q, z, d⟩
end

/-! ### what of the text a class must have -/
structure Cls (K : PySem.W.Frag) (C : Addr) : Prop where
  pg : PySem.W.plainGet K C Str.empty = true
  hd : PySem.W.hasDictIn K C = true
  po : PySem.W.plainOver K C = true
  sa : PySem.W.findIn K (.ref C) "__setattr__" = some (some (.builtin "object.__setattr__"))
theorem Cls.get {K : PySem.W.Frag} {C : Addr} (c : Cls K C) (f : Str) : PySem.W.plainGet K C f = true := c.pg
/-- no class of it has the name -/
def NoAttr (K : PySem.W.Frag) (C : Addr) (f : Str) : Prop := PySem.W.findIn K (.ref C) f = some none
theorem NoAttr.taker {K : PySem.W.Frag} {C : Addr} {f : Str} (n : NoAttr K C f) : PySem.W.takerIn K C f = some none := by
  unfold PySem.W.takerIn
  rw [show PySem.W.findIn K (.ref C) f = some none from n]
  rfl
/-- a constant of the class -/
structure Con (K : PySem.W.Frag) (C : Addr) (f : Str) (v : V) (u : Value) : Prop where
  at_ : PySem.W.findIn K (.ref C) f = some (some u)
  rel : RelV v u
  get : PySem.W.specialIn K u "__get__" = some none
  cp : PySem.W.copiedNames.contains f = false
/-- a method: a plain def of the class or of one above it -/
structure Meth (K : PySem.W.Frag) (C : Addr) (m : Str) (f : Addr) : Prop where
  at_ : PySem.W.findIn K (.ref C) m = some (some (.ref f))
  fn : PySem.W.isFn K (.ref f) = true
  kp : PySem.W.keepIn K (.ref f) = true

section
variable {X : Cx} {pins : List (Addr × Obj)} {σ : St} {H : Hp} {s : Shared} {a C dx : Addr} {fs : List (Str × V)} {f : Str} {v : V} {A : Around} {E : Value → Shared → Prop}

theorem getattr_ok {b : Bool} {Q : Value → Shared → Prop} (I : Inv X pins σ H s) (e : H a = some (.ins C dx fs)) (c : Cls X.K C) (n : NoAttr X.K C f) (l : fs.lookup f = some v)
    (h : ∀ u s', Inv X pins σ H s' → RelV v u → Q u s') : wpAny (model X.prog X.w) A (getAttr (.ref a) f b) Q E s := by
  obtain ⟨mA, O, r, _, _, _⟩ := ins_get I.hok e
  obtain ⟨u, hu, ru⟩ := RelO.some_of (v := v) (o := mA f) (by rw [← l]; exact r f)
  exact get_map I.kIn O (c.get f) c.hd n hu (handed_of ru) (h u _ (I.tok _) ru)


theorem getmeth_ok {m : Str} {g : Addr} {pl : Sem Bool} {Q : Value × List Value → Shared → Prop} (I : Inv X pins σ H s) (e : H a = some (.ins C dx fs)) (c : Cls X.K C) (k : Meth X.K C m g) (l : fs.lookup m = none)
    (h : Q (.ref g, [.ref a]) s) : wpAny (model X.prog X.w) A (getMethod (.ref a) m pl) Q E s := by
  obtain ⟨mA, O, r, _, _, _⟩ := ins_get I.hok e
  have hn : mA m = none := RelO.none_of (by rw [← l]; exact r m)
  exact get_meth I.kIn O (c.get m) k.at_ k.fn hn h

theorem setattr_ok {y : V} {u : Value} {Q : Unit → Shared → Prop} (I : Inv X pins σ H s) (e : H a = some (.ins C dx fs)) (c : Cls X.K C) (n : NoAttr X.K C f) (hl : fs.length < 1000) (ry : RelV y u)
    (h : ∀ s', Inv X pins σ (upd H a (.ins C dx (putF f y fs))) s' → Q () s') : wpAny (model X.prog X.w) A (setAttr (.ref a) f u) Q E s := by
  obtain ⟨mA, O, r, wi, _, ho⟩ := ins_get I.hok e
  have hz : (fs.map (·.1)).length ≤ sizeLine := by rw [List.length_map, sizeLine_eq]; omega
  refine set_map I.kIn O c.sa c.po n.taker c.hd wi hz fun h' O' sb => h _ ?_
  have hd : ∃ o, h'.get? dx = some o := let ⟨o, _, _, e', _⟩ := O'.ns; ⟨o, e'⟩
  refine I.write (x := a) (e := dx) (by rw [e]; exact True.intro) (.inr ho) (fun b q hb z => (sb.2 b hb).trans z) hd ?_
  refine ⟨by rw [upd_ne O.ne]; exact ho, ?_, O.ne, O'.obj, _, O'.ns, fun g => ?_, fun g hg => ?_⟩
  · have := length_putF f y fs; omega
  · show RelO ((putF f y fs).lookup g) (if g = f then some u else mA g)
    rw [lookup_putF]
    by_cases q : g = f
    · rw [if_pos q, if_pos q]; exact ry
    · rw [if_neg q, if_neg q]; exact r g
  · by_cases q : g = f
    · rw [q]; exact (keys_putF f y fs).1
    · refine (keys_putF f y fs).2 g (wi g fun z => hg ?_)
      show (if g = f then some u else mA g) = none
      rw [if_neg q]; exact z

/-- a new instance, tracked, without attributes -/
theorem Inv.made (I : Inv X pins σ H s) : Inv X pins σ (upd (upd H s.heap.objs.size (.own (s.heap.objs.size + 1))) (s.heap.objs.size + 1) (.ins C s.heap.objs.size []))
    { s with heap := (s.heap.push PySem.W.emptyDict).push (PySem.W.instObj C s.heap.objs.size) } := by
  have e1 : (s.heap.push PySem.W.emptyDict).get? s.heap.objs.size = some PySem.W.emptyDict := Heap.get?_push_size s.heap rfl
  have e2 : ((s.heap.push PySem.W.emptyDict).push (PySem.W.instObj C s.heap.objs.size)).get? (s.heap.objs.size + 1) = some (PySem.W.instObj C s.heap.objs.size) := by
    have := Heap.get?_push_size (s.heap.push PySem.W.emptyDict) (o := PySem.W.instObj C s.heap.objs.size) rfl
    rwa [Heap.size_push] at this
  have e3 : (s.heap.push PySem.W.emptyDict).Ns s.heap.objs.size (fun _ => none) := ⟨PySem.W.emptyDict, #[], _, e1, rfl, (fun e he => absurd he (by simp)), fun _ => rfl⟩
  have I1 := I.laid (a := s.heap.objs.size) (o := .own (s.heap.objs.size + 1)) (h' := s.heap.push PySem.W.emptyDict) (t' := s.toks) (fun b u q => Heap.get?_push_of_some _ q) (Nat.le_refl _) ⟨_, e1⟩
  refine I1.laid (a := s.heap.objs.size + 1) (o := .ins C s.heap.objs.size []) (t' := s.toks) (fun b u q => Heap.get?_push_of_some _ q) (Nat.le_of_eq (Heap.size_push _ _)) ?_
  have ne : s.heap.objs.size ≠ s.heap.objs.size + 1 := Nat.ne_of_lt (Nat.lt_succ_self _)
  refine ⟨by rw [upd_ne ne, upd_same], Nat.zero_le _, ne, e2, fun _ => none, (Heap.Ns1.of_empty e3).at fun o q => Heap.get?_push_of_some _ q, fun _ => True.intro, fun y hy => absurd rfl hy⟩

/-- e.f where nothing but the object is asked: through attributeBase (super) and the last hold -/
theorem attr_of {prog : Program} {w : World} {env : Env} {e : Expr} {f : Str} {pos : Pos} {s : Shared} {Q : Value → Shared → Prop} (hb : attributeBase e f env (eval e env) = eval e env)
    (h : wpAny (model prog w) A (eval e env) (fun o s₁ => wpAny (model prog w) A (getAttr o f true) Q E s₁) E s) : wpAny (model prog w) A (eval (.Attribute e f pos) env) Q E s :=
  Attribute_any_ h (by rw [arm_eval_Attribute, hb])
end

/-! ### readings and rules -/
/-- e.f, an attribute of the instance -/
def tFld (K : PySem.W.Frag) (ta : TE) (f : Str) : TE := fun σ H Q => ta σ H fun x H1 => ∃ a C dx fs v, x = .ref a ∧ H1 a = some (.ins C dx fs) ∧ Cls K C ∧ NoAttr K C f ∧ fs.lookup f = some v ∧ Q v H1
/-- e.f, a constant of the class -/
def tCon (K : PySem.W.Frag) (ta : TE) (f : Str) : TE := fun σ H Q => ta σ H fun x H1 => ∃ a C dx fs v u, x = .ref a ∧ H1 a = some (.ins C dx fs) ∧ Cls K C ∧ Con K C f v u ∧ fs.lookup f = none ∧ Q v H1
/-- e.f = value -/
def sFld (K : PySem.W.Frag) (ta tv : TE) (f : Str) : TS := fun D σ H => tv σ H fun y H1 => ta σ H1 fun x H2 => ∃ a C dx fs, x = .ref a ∧ H2 a = some (.ins C dx fs) ∧ Cls K C ∧ NoAttr K C f ∧ fs.length < 1000 ∧
  D.nx σ (upd H2 a (.ins C dx (putF f y fs)))
/-- an augmented operator on two values -/
def InOp (X : Cx) (op : Operator) (rd : V → V → Hp → VK → Prop) : Prop :=
  ∀ (pins : List (Addr × Obj)) (s : Shared) (σ : St) (H : Hp) (x y : V) (u v : Value) (Q : VK), Inv X pins σ H s → RelV x u → RelV y v → rd x y H Q → wpAny (model X.prog X.w) X.A (inplaceOp op u v) (EP X pins σ Q) X.xe s
/-- e.f op= value -/
def sFldAug (K : PySem.W.Frag) (ta tv : TE) (rd : V → V → Hp → VK → Prop) (f : Str) : TS := fun D σ H => ta σ H fun x H1 => ∃ a C dx fs v, x = .ref a ∧ H1 a = some (.ins C dx fs) ∧ Cls K C ∧ NoAttr K C f ∧ fs.lookup f = some v ∧
  tv σ H1 fun y H2 => rd v y H2 fun z H3 => ∃ dx' fs', H3 a = some (.ins C dx' fs') ∧ fs'.length < 1000 ∧ D.nx σ (upd H3 a (.ins C dx' (putF f z fs')))

section
variable {X : Cx} {o e value : Expr} {f : Str} {pos pos' tpos : Pos} {ta tv : TE}
theorem pe_fld (he : PE X e ta) (hb : attributeBase e f X.env (eval e X.env) = eval e X.env) : PE X (.Attribute e f pos) (tFld X.K ta f) := by
  intro pins s σ H Q I h
  refine attr_of hb (thn (he pins s σ H _ I h) fun u s1 ⟨x, H1, I1, rx, a, C, dx, fs, v, ex, ea, c, n, l, q⟩ => ?_)
  subst ex
  obtain rfl : u = Value.ref a := rx
  exact getattr_ok I1 ea c n l fun u' s2 I2 ru => ⟨v, H1, I2, ru, q⟩
theorem ps_fld (ha : PE X o ta) (hv : PE X value tv) (hs : swapsWith value (some (.Attribute o f pos')) pos.line X.env = pure false) : PS X (.Assign [.Attribute o f pos'] value pos) (sFld X.K ta tv f) := by
  intro pins s σ H D I h
  refine plainObj_wpAny_Assign_Attribute (thn (hv pins s σ H _ I h) fun u s1 ⟨y, H1, I1, ry, q⟩ => thn (ha pins s1 σ H1 _ I1 q) fun ov s2 ⟨x, H2, I2, rx, a, C, dx, fs, ex, ea, c, n, l, q2⟩ => ?_) hs
  subst ex
  obtain rfl : ov = Value.ref a := rx
  exact setattr_ok I2 ea c n l ry fun s3 I3 => ⟨σ, _, I3, q2⟩
theorem ps_fldaug {op : Operator} {rd : V → V → Hp → VK → Prop} (ha : PE X o ta) (hv : PE X value tv) (hop : InOp X op rd) : PS X (.AugAssign (.Attribute o f tpos) op value pos) (sFldAug X.K ta tv rd f) := by
  intro pins s σ H D I h
  refine wpAny_AugAssign_AttributeAny (thn (ha pins s σ H _ I h) fun ov s1 ⟨x, H1, I1, rx, a, C, dx, fs, v, ex, ea, c, n, l, q⟩ => ?_)
  subst ex
  obtain rfl : ov = Value.ref a := rx
  refine getattr_ok I1 ea c n l fun u s2 I2 ru => thn (hv pins s2 σ H1 _ I2 q) fun w3 s3 ⟨y, H2, I3, ry, q3⟩ => thn (hop pins s3 σ H2 v y u w3 _ I3 ru ry q3) fun w4 s4 ⟨z, H3, I4, rz, dx', fs', ea', l', q4⟩ => ?_
  exact setattr_ok I4 ea' c n l' rz fun s5 I5 => ⟨σ, _, I5, q4⟩
def rAdd : V → V → Hp → VK → Prop := fun x y H Q => ∃ i j, x = .int i ∧ y = .int j ∧ Q (.int (i + j)) H
def rSub : V → V → Hp → VK → Prop := fun x y H Q => ∃ i j, x = .int i ∧ y = .int j ∧ Q (.int (i - j)) H
theorem in_add : InOp X .Add rAdd := by
  rintro pins s σ H x y u v Q I rx ry ⟨i, j, rfl, rfl, q⟩
  obtain ⟨t, rfl⟩ := (show ∃ t, u = Value.int i t from rx)
  obtain ⟨t', rfl⟩ := (show ∃ t', v = Value.int j t' from ry)
  exact PyProof.Rows.iadd_int ⟨.int (i + j), H, I.tok _, ⟨_, rfl⟩, q⟩

end

/-! ### isinstance -/
section
variable {X : Cx} {pins : List (Addr × Obj)} {σ : St} {H : Hp} {s : Shared} {A : Around} {E : Value → Shared → Prop} {Q : Value → Shared → Prop} {c : Value} {b : Bool}
/-- the type of a value, as the fragment's deciders take it; for an instance its class -/
inductive TyOf (K : PySem.W.Frag) (H : Hp) : V → Value → Prop where
  | non : TyOf K H .non (.type "NoneType")
  | bl (x : Bool) : TyOf K H (.bl x) (.type "bool")
  | int (i : Int) : TyOf K H (.int i) (.type "int")
  | str (x : Str) : TyOf K H (.str x) (.type "str")
  | flt (x : UInt64) : TyOf K H (.flt x) (.type "float")
  | lst {a : Addr} {xs : List V} (e : H a = some (.lst xs)) : TyOf K H (.ref a) (.type "list")
  | frz {a : Addr} {o : Obj} {xs : List V} (e : H a = some (.frz o (.lst xs))) : TyOf K H (.ref a) (.type "list")
  | tup {a : Addr} {xs : List V} (e : H a = some (.tup xs)) : TyOf K H (.ref a) (.type "tuple")
  | dK {a : Addr} {kvs : List (Key × V)} (e : H a = some (.dK kvs)) : TyOf K H (.ref a) (.type "dict")
  | dT {a : Addr} {kvs : List (List Key × V)} (e : H a = some (.dT kvs)) : TyOf K H (.ref a) (.type "dict")
  | ins {a C dx : Addr} {fs : List (Str × V)} (e : H a = some (.ins C dx fs)) (cl : Cls K C) (ha : PySem.W.findIn K (.ref C) "__class__" = some (some (.builtin "object.__class__")))
      (hn : PySem.W.specialIn K (.builtin "object.__class__") "__get__" = some (some (.builtin "getset_descriptor.__get__"))) (htk : PySem.W.takesIn K (.builtin "object.__class__") = some true)
      (hm : PySem.W.mroIn K C (.type "object") = some true) : TyOf K H (.ref a) (.ref C)
end
end L2

namespace L2
open PySem PySem.Spec PyProof.Rows

/-! ### room -/
structure Room (k : Nat) (A : Around) : Prop where
  hd : A.handled = none
  dp : A.depth + 3 * k + 5 < recursionLimit
  un : A.units + 16 * k + 200 < cLine
theorem Room.mono {j k : Nat} {A : Around} (r : Room k A) (h : j ≤ k) : Room j A := ⟨r.hd, by have := r.dp; omega, by have := r.un; omega⟩
theorem Room.deeper {k : Nat} {A : Around} (r : Room (k + 1) A) (env : Env) : Room k (A.deeper env) :=
  ⟨r.hd, by have := r.dp; show A.depth + 1 + 3 * k + 5 < _; omega, by have := r.un; show A.units + 3 + 16 * k + 200 < _; omega⟩
theorem Room.in1 {k : Nat} {A : Around} (r : Room (k + 1) A) : Room k A.in1 :=
  ⟨r.hd, by have := r.dp; show A.depth + 3 * k + 5 < _; omega, by have := r.un; show A.units + 1 + 16 * k + 200 < _; omega⟩
theorem make_depth {A : Around} {C : Addr} {us : List Value} {kw : List (Str × Value)} : (A.under (.builtin "type.__call__" ⟨.ref C :: us, kw⟩)).depth = A.depth + 1 := by
  first | rfl | simp [Around.under, Code.weight, Code.isCreation, Code.isGuard, Code.isCaller, Code.frames, Code.isFrame, guardIds]
theorem make_units {A : Around} {C : Addr} {us : List Value} {kw : List (Str × Value)} : (A.under (.builtin "type.__call__" ⟨.ref C :: us, kw⟩)).units = A.units + 1 := by
  first | rfl | simp [Around.under, Code.cUnits, Code.frames, Code.isFrame]
theorem Room.make {k : Nat} {A : Around} (r : Room (k + 1) A) (C : Addr) (us : List Value) (kw : List (Str × Value)) : Room k (A.under (.builtin "type.__call__" ⟨.ref C :: us, kw⟩)) :=
  ⟨r.hd, by have := r.dp; rw [make_depth]; omega, by have := r.un; rw [make_units]; omega⟩
theorem Room.depth {k : Nat} {A : Around} (r : Room k A) : A.depth < recursionLimit := by have := r.dp; omega
theorem Room.units {k : Nat} {A : Around} (r : Room k A) : A.units + 64 < cLine := by have := r.un; omega

/-! ### argument lists and displays -/
def tNil : TA := fun _ H Q => Q [] H
def tCons (ta : TE) (tr : TA) : TA := fun σ H Q => ta σ H fun x H1 => tr σ H1 fun xs H2 => Q (x :: xs) H2
section
variable {X : Cx} {e : Expr} {es : List Expr} {te : TE} {t : TA} {pos : Pos}
theorem pa_nil : PA X [] tNil := fun _ _ _ _ H Q I h => Calls.spliced_nil ⟨[], H, I, .nil, h⟩
theorem pa_cons (ha : PE X e te) (hr : PA X es t) (hs : starEach (e :: es) X.env = (false, eval e X.env) :: starEach es X.env := by rfl) : PA X (e :: es) (tCons te t) := by
  intro pos pins s σ H Q I h
  rw [hs]
  show wpAny _ _ (spliced ((false, eval e X.env) :: backTo pos (starEach es X.env))) _ _ s
  refine Calls.spliced_cons (thn (ha pins s σ H _ I h) fun u s1 ⟨x, H1, I1, r1, q1⟩ => ?_)
  exact thn (hr pos pins s1 σ H1 _ I1 q1) fun us s2 ⟨xs, H2, I2, r2, q2⟩ => ⟨x :: xs, H2, I2, .cons r1 r2, q2⟩

/-- a tuple, a list of written items -/
def tTup (t : TA) : TE := fun σ H Q => t σ H fun xs H1 => xs.length ≤ sizeLine ∧ ∀ p, H1 p = none → Q (.ref p) (upd H1 p (.tup xs))
def tLst (t : TA) : TE := fun σ H Q => t σ H fun xs H1 => xs.length ≤ sizeLine ∧ ∀ p, H1 p = none → Q (.ref p) (upd H1 p (.lst xs))
theorem pe_lst (h : PA X es t) : PE X (.List es pos) (tLst t) := by
  intro pins s σ H Q I hq
  refine wpAny_List_spliced (thn (h pos pins s σ H _ I hq) fun us s1 ⟨xs, H1, I1, r, z, q⟩ => ⟨by rw [← r.length]; exact z, ?_⟩)
  have hf : H1 s1.heap.objs.size = none := I1.hok.fresh (Nat.le_refl _)
  refine ⟨.ref s1.heap.objs.size, upd H1 s1.heap.objs.size (.lst xs), I1.laid (t' := s1.toks) (fun b u e => Heap.get?_push_of_some _ e) (Nat.le_refl _) ?_, rfl, q _ hf⟩
  exact ⟨z, us, 0, r, Heap.get?_push_size _ rfl⟩
end

/-! ### what a def promises -/
/-- a def's promise: the bound arguments in the parameters' order, the heap, the wanted end, the wanted exception -/
abbrev Sp := List V → Hp → VK → XK → Prop
/-- how an exception lies behind a call (file 08 gives it): the callers' frames, abstract heap and state ahead of the call, the wish, the exception, the state -/
abbrev CXT := List Env → Hp → Shared → XK → Value → Shared → Prop

/-- the state at a call -/
structure Env0 (P : Program) (w : World) (K : PySem.W.Frag) (mg : Str → Option Value) (base : Heap) (A : Around) (outer : List Env) (s : Shared) (H : Hp) : Prop where
  frames : A.frames = some outer
  mod : Mod K mg base
  bs : ∀ b o, base.get? b = some o → s.heap.get? b = some o ∧ H b = none
  bsz : base.objs.size ≤ s.heap.objs.size
  funs : s.heap.FunFrames base outer
  frf : ∀ b ∈ frs outer, H b = none
  hok : HOk P w H s.heap
  bare : AllBare s.gens
/-- a call's end -/
def CE (outer : List Env) (P : Program) (w : World) (H : Hp) (s : Shared) (Q : VK) (u : Value) (s' : Shared) : Prop :=
  ∃ v H', s'.os = s.os ∧ AllBare s'.gens ∧ Un (frs outer) [] H H' s.heap s'.heap ∧ HOk P w H' s'.heap ∧ RelV v u ∧ Q v H'
def CR (CX : CXT) (outer : List Env) (P : Program) (w : World) (H : Hp) (s : Shared) (Q : VK) (E : XK) (r : Result) (s' : Shared) : Prop :=
  match r with
  | .ok (.ret u) => CE outer P w H s Q u s'
  | .ok _ => False
  | .error e => CX outer H s E e s'
structure FnOk (P : Program) (w : World) (K : PySem.W.Frag) (mg : Str → Option Value) (base : Heap) (CX : CXT) (k : Nat) (f : Addr) (fd : FuncData) (ps : List Str) (sp : Sp) : Prop where
  len : ∀ vs H Q E, sp vs H Q E → vs.length = ps.length
  run : ∀ (A : Around) (outer : List Env) (s : Shared) (H : Hp) (args : Args) (us : List Value) (vs : List V) (Q : VK) (E : XK), Room k A → Env0 P w K mg base A outer s H → BindsTo s fd args (ps.zip us) → Vals vs us → sp vs H Q E →
    codeAny (model P w) A (.call (.ref f) args) (CR CX outer P w H s Q E) s
theorem FnOk.mono {P : Program} {w : World} {K : PySem.W.Frag} {mg : Str → Option Value} {base : Heap} {CX : CXT} {j k : Nat} {f : Addr} {fd : FuncData} {ps : List Str} {sp : Sp} (F : FnOk P w K mg base CX j f fd ps sp) (h : j ≤ k) :
    FnOk P w K mg base CX k f fd ps sp := ⟨F.len, fun A outer s H args us vs Q E hr => F.run A outer s H args us vs Q E (hr.mono h)⟩
/-- a weaker promise -/
theorem FnOk.imp {P : Program} {w : World} {K : PySem.W.Frag} {mg : Str → Option Value} {base : Heap} {CX : CXT} {k : Nat} {f : Addr} {fd : FuncData} {ps : List Str} {sp sp' : Sp} (F : FnOk P w K mg base CX k f fd ps sp)
    (h : ∀ vs H Q E, sp' vs H Q E → sp vs H Q E) : FnOk P w K mg base CX k f fd ps sp' :=
  ⟨fun vs H Q E q => F.len vs H Q E (h _ _ _ _ q), fun A outer s H args us vs Q E hr he hb hv hs => F.run A outer s H args us vs Q E hr he hb hv (h _ _ _ _ hs)⟩

theorem Env0.make {P : Program} {w : World} {K : PySem.W.Frag} {mg : Str → Option Value} {base : Heap} {A : Around} {outer : List Env} {s : Shared} {H : Hp} (e : Env0 P w K mg base A outer s H) (C : Addr) (us : List Value) (kw : List (Str × Value)) :
    Env0 P w K mg base (A.under (.builtin "type.__call__" ⟨.ref C :: us, kw⟩)) outer s H := ⟨by first | exact e.frames | (simpa [Around.under, Code.envs, Code.isFrame, pushEnvs] using e.frames), e.mod, e.bs, e.bsz, e.funs, e.frf, e.hok, e.bare⟩
theorem Env0.in1 {P : Program} {w : World} {K : PySem.W.Frag} {mg : Str → Option Value} {base : Heap} {A : Around} {outer : List Env} {s : Shared} {H : Hp} (e : Env0 P w K mg base A outer s H) :
    Env0 P w K mg base A.in1 outer s H := ⟨e.frames, e.mod, e.bs, e.bsz, e.funs, e.frf, e.hok, e.bare⟩

section
variable {X : Cx} {pins : List (Addr × Obj)} {σ : St} {H : Hp} {s s' : Shared}
/-- from a body: what a callee wants -/
theorem Inv.env0 (I : Inv X pins σ H s) : Env0 X.prog X.w X.K X.mg X.base X.A X.stack s H :=
  ⟨I.ok.frames, I.ok.mod, I.bs, Nat.le_trans I.ok.bsz I.sz, I.stack, I.stkFree, I.hok, I.bare⟩
/-- behind a call -/
theorem Inv.after {Q : VK} {u : Value} (I : Inv X pins σ H s) (h : CE X.stack X.prog X.w H s Q u s') : EP X pins σ Q u s' := by
  obtain ⟨v, H', os, bare, un, hok, r, q⟩ := h
  obtain ⟨hh, g, d, t, os'⟩ := s'
  obtain rfl : os' = s.os := os
  exact ⟨v, H', I.call (h' := hh) (g' := g) (d' := d) (t' := t) (ch := []) un hok bare (fun b z => absurd z (by simp)), r, q⟩
end

/-! ### calls -/
/-- f(..): the written arguments, then the defaults dvs; E: what is wanted of an exception -/
def tCall (sp : Sp) (dvs : List V) (E : XK) (t : TA) : TE := fun σ H Q => t σ H fun vs H1 => sp (vs ++ dvs) H1 Q E
/-- o.m(..) of an instance of the class at C -/
def tMeth (C : Addr) (m : Str) (sp : Sp) (dvs : List V) (E : XK) (ta : TE) (t : TA) : TE := fun σ H Q => ta σ H fun x H1 => ∃ a dx fs, x = .ref a ∧ H1 a = some (.ins C dx fs) ∧ fs.lookup m = none ∧
  t σ H1 fun vs H2 => sp (x :: (vs ++ dvs)) H2 Q E
/-- C(..): a new instance and its dict, then __init__ -/
def tMake (C : Addr) (sp : Sp) (dvs : List V) (E : XK) (t : TA) : TE := fun σ H Q => t σ H fun vs H1 => ∀ x dx, H1 x = none → H1 dx = none → dx ≠ x →
  sp (.ref x :: (vs ++ dvs)) (upd (upd H1 dx (.own x)) x (.ins C dx [])) (fun v H2 => v = .non ∧ Q (.ref x) H2) E

/-- how the parameters are bound: us the positional arguments, kw the keywords' values by name, ds the defaults that fill up -/
def Binds (K : PySem.W.Frag) (fd : FuncData) (ps : List Str) (ds : List Value) : Prop :=
  ∀ (s : Shared) (us : List Value), K.In s.heap → (us ++ ds).length = ps.length → BindsTo s fd ⟨us, []⟩ (ps.zip (us ++ ds))
/-- every parameter is given -/
theorem Binds.all {K : PySem.W.Frag} {fd : FuncData} {ps : List Str} (h : ∀ us : List Value, us.length = ps.length → bindArgs fd ⟨us, []⟩ = pure (ps.zip us)) : Binds K fd ps [] := fun s us _ hl => by
  rw [List.append_nil] at hl ⊢
  exact .of_eq (h us hl)

/-- an exception of a callee reaches what this body wants of exceptions -/
def Passes (CX : CXT) (X : Cx) (E : XK) : Prop := ∀ (pins : List (Addr × Obj)) (σ : St) (H : Hp) (s : Shared) (e : Value) (s' : Shared), Inv X pins σ H s → CX X.stack H s E e s' → X.xe e s'

section
variable {X : Cx} {CX : CXT} {k : Nat} {f C : Addr} {fd : FuncData} {ps : List Str} {sp : Sp} {dvs : List V} {ds : List Value} {E : XK} {x m : Str} {p pos apos : Pos} {e o : Expr} {es : List Expr} {ta : TE} {t : TA}

/-- the callee runs -/
theorem run_fn {pins : List (Addr × Obj)} {σ : St} {H : Hp} {s : Shared} {Q : VK} {us : List Value} {vs : List V} (F : FnOk X.prog X.w X.K X.mg X.base CX k f fd ps sp) (hr : Room k X.A) (hb : Binds X.K fd ps ds) (hd : Vals dvs ds) (hx : Passes CX X E)
    (I : Inv X pins σ H s) (r : Vals vs us) (h : sp (vs ++ dvs) H Q E) : wpAny (model X.prog X.w) X.A (call (.ref f) us) (EP X pins σ Q) X.xe s := by
  have r2 : Vals (vs ++ dvs) (us ++ ds) := r.append hd
  have hl : (us ++ ds).length = ps.length := by rw [← r2.length]; exact F.len _ _ _ _ h
  refine wpAny_call (codeAny_mono (F.run X.A X.stack s H ⟨us, []⟩ (us ++ ds) (vs ++ dvs) Q E hr I.env0 (hb s us I.kIn hl) r2 h) fun r s' hq => ?_)
  cases r with
  | error e => exact hx pins σ H s e s' I hq
  | ok fl =>
    cases fl with
    | ret u => exact I.after hq
    | next => exact False.elim hq
    | brk => exact False.elim hq
    | cont => exact False.elim hq

theorem pe_call (F : FnOk X.prog X.w X.K X.mg X.base CX k f fd ps sp) (hr : Room k X.A) (hg : Gl X x) (hm : X.mg x = some (.ref f)) (hk : PySem.W.keepIn X.K (.ref f) = true) (hb : Binds X.K fd ps ds) (hd : Vals dvs ds) (hx : Passes CX X E)
    (ha : PA X (e :: es) t) (hdb : (x == ("__debug__" : Str)) = false := by decide) (he : starEach (e :: es) X.env = (false, eval e X.env) :: starEach es X.env := by rfl) (hpl : (backTo pos (starEach es X.env)).any (·.1) = false := by rfl) :
    PE X (.Call (.Name x p) (e :: es) [] pos) (tCall sp dvs E t) := by
  intro pins s σ H Q I h
  refine wpAny_Call_Name_kw (ld_glob I hg hm ?_ hdb)
  refine PySem.W.callWith_K (h₀ := X.base) I.ok.mod.kin hk (thn (ha pos pins s σ H _ I h) fun us s1 ⟨vs, H1, I1, r, q⟩ => ⟨I1.kIn, ?_⟩) he hpl
  exact run_fn F hr hb hd hx I1 r q

/-- o.m(e, ..) -/
theorem pe_meth {pl : Sem Bool} (he : PE X o ta) (c : Cls X.K C) (hm : Meth X.K C m f) (F : FnOk X.prog X.w X.K X.mg X.base CX k f fd ps sp) (hr : Room k X.A) (hb : Binds X.K fd ps ds) (hd : Vals dvs ds) (hx : Passes CX X E) (ha : PA X (e :: es) t)
    (hst : starEach (e :: es) X.env = (false, eval e X.env) :: starEach es X.env := by rfl) (hpl : (backTo pos (starEach es X.env)).any (·.1) = false := by rfl)
    (ht : eval (.Call (.Attribute o m apos) (e :: es) [] pos) X.env = (do
      let ov ← eval o X.env
      standAt apos.atName
      let (f, first) ← holding [ov] (getMethod ov m pl)
      callWith pos f first (backTo pos (starEach (e :: es) X.env)) (backToKw pos (keywordEach [] X.env))) := by rfl) :
    PE X (.Call (.Attribute o m apos) (e :: es) [] pos) (tMeth C m sp dvs E ta t) := by
  intro pins s σ H Q I h
  refine PySem.W.methodCall_KW (pl := pl) (thn (he pins s σ H _ I h) fun u s1 ⟨x, H1, I1, rx, a, dx, fs, ex, ea, l, q⟩ => ?_) ht
  subst ex
  obtain rfl : u = Value.ref a := rx
  refine getmeth_ok I1 ea c hm l ?_
  refine PySem.W.callWith_K (first := [.ref a]) (h₀ := X.base) I.ok.mod.kin hm.kp (thn (ha pos pins s1 σ H1 _ I1 q) fun us s2 ⟨vs, H2, I2, r, q2⟩ => ⟨I2.kIn, ?_⟩) hst hpl
  exact run_fn (us := .ref a :: us) (vs := .ref a :: vs) F hr hb hd hx I2 (.cons rfl r) q2
/-- o.m() -/
theorem pe_meth0 {pl : Sem Bool} (he : PE X o ta) (c : Cls X.K C) (hm : Meth X.K C m f) (F : FnOk X.prog X.w X.K X.mg X.base CX k f fd ps sp) (hr : Room k X.A) (hb : Binds X.K fd ps ds) (hd : Vals dvs ds) (hx : Passes CX X E)
    (ht : eval (.Call (.Attribute o m apos) [] [] pos) X.env = (do
      let ov ← eval o X.env
      standAt apos.atName
      let (f, first) ← holding [ov] (getMethod ov m pl)
      callWith pos f first (backTo pos (starEach [] X.env)) (backToKw pos (keywordEach [] X.env))) := by rfl) :
    PE X (.Call (.Attribute o m apos) [] [] pos) (tMeth C m sp dvs E ta tNil) := by
  intro pins s σ H Q I h
  refine PySem.W.methodCall_KW (pl := pl) (thn (he pins s σ H _ I h) fun u s1 ⟨x, H1, I1, rx, a, dx, fs, ex, ea, l, q⟩ => ?_) ht
  subst ex
  obtain rfl : u = Value.ref a := rx
  refine getmeth_ok I1 ea c hm l ?_
  exact PySem.W.callWith_K0 (first := [.ref a]) I1.kIn hm.kp (run_fn (us := [.ref a]) (vs := [.ref a]) F hr hb hd hx I1 (.cons rfl .nil) q)

/-- what a class must have to be made -/
structure Mk (K : PySem.W.Frag) (C f : Addr) : Prop where
  makes : PySem.W.makesIn K C = true
  init : PySem.W.findIn K (.ref C) "__init__" = some (some (.ref f))
  fn : PySem.W.isFn K (.ref f) = true
  kp : PySem.W.keepIn K (.ref C) = true

theorem run_make {pins : List (Addr × Obj)} {σ : St} {H : Hp} {s : Shared} {Q : VK} {us : List Value} {vs : List V} (M : Mk X.K C f) (F : FnOk X.prog X.w X.K X.mg X.base CX k f fd ps sp) (hr : Room (k + 1) X.A) (hb : Binds X.K fd ps ds) (hd : Vals dvs ds)
    (hx : Passes CX X E) (I : Inv X pins σ H s) (r : Vals vs us)
    (h : ∀ x dx, H x = none → H dx = none → dx ≠ x → sp (.ref x :: (vs ++ dvs)) (upd (upd H dx (.own x)) x (.ins C dx [])) (fun v H2 => v = .non ∧ Q (.ref x) H2) E) :
    wpAny (model X.prog X.w) X.A (call (.ref C) us) (EP X pins σ Q) X.xe s := by
  have hq := h (s.heap.objs.size + 1) s.heap.objs.size (I.hok.fresh (Nat.le_succ _)) (I.hok.fresh (Nat.le_refl _)) (Nat.ne_of_lt (Nat.lt_succ_self _))
  have I2 := Inv.made (C := C) I
  have r2 : Vals (V.ref (s.heap.objs.size + 1) :: (vs ++ dvs)) (Value.ref (s.heap.objs.size + 1) :: (us ++ ds)) := .cons rfl (r.append hd)
  have hl : (Value.ref (s.heap.objs.size + 1) :: us ++ ds).length = ps.length := by
    have e := r2.length
    rw [F.len _ _ _ _ hq] at e
    exact e.symm
  refine wpAny_call (make_map (f := f) I.kIn M.makes M.init (beq_iff_eq.mp M.fn) (codeAny_mono (F.run _ X.stack _ _ ⟨Value.ref (s.heap.objs.size + 1) :: us, []⟩ (Value.ref (s.heap.objs.size + 1) :: (us ++ ds)) _ _ E (hr.make C us [])
    (I2.env0.make C us []) (hb _ (Value.ref (s.heap.objs.size + 1) :: us) I2.kIn hl) r2 hq) fun r s' hq' => ?_))
  cases r with
  | error e => exact hx pins σ _ _ e s' I2 hq'
  | ok fl =>
    cases fl with
    | ret u =>
      obtain ⟨v, H', I3, rv, ev, q3⟩ := I2.after hq'
      subst ev
      exact ⟨rv, ⟨V.ref (s.heap.objs.size + 1), H', I3, rfl, q3⟩⟩
    | next => exact False.elim hq'
    | brk => exact False.elim hq'
    | cont => exact False.elim hq'
theorem pe_make (M : Mk X.K C f) (F : FnOk X.prog X.w X.K X.mg X.base CX k f fd ps sp) (hr : Room (k + 1) X.A) (hg : Gl X x) (hm : X.mg x = some (.ref C)) (hb : Binds X.K fd ps ds) (hd : Vals dvs ds) (hx : Passes CX X E)
    (ha : PA X (e :: es) t) (hdb : (x == ("__debug__" : Str)) = false := by decide) (he : starEach (e :: es) X.env = (false, eval e X.env) :: starEach es X.env := by rfl) (hpl : (backTo pos (starEach es X.env)).any (·.1) = false := by rfl) :
    PE X (.Call (.Name x p) (e :: es) [] pos) (tMake C sp dvs E t) := by
  intro pins s σ H Q I h
  refine wpAny_Call_Name_kw (ld_glob I hg hm ?_ hdb)
  refine PySem.W.callWith_K (h₀ := X.base) I.ok.mod.kin M.kp (thn (ha pos pins s σ H _ I h) fun us s1 ⟨vs, H1, I1, r, q⟩ => ⟨I1.kIn, ?_⟩) he hpl
  exact run_make M F hr hb hd hx I1 r q
theorem pe_make0 (M : Mk X.K C f) (F : FnOk X.prog X.w X.K X.mg X.base CX k f fd ps sp) (hr : Room (k + 1) X.A) (hg : Gl X x) (hm : X.mg x = some (.ref C)) (hb : Binds X.K fd ps ds) (hd : Vals dvs ds) (hx : Passes CX X E)
    (hdb : (x == ("__debug__" : Str)) = false := by decide) : PE X (.Call (.Name x p) [] [] pos) (tMake C sp dvs E tNil) := by
  intro pins s σ H Q I h
  refine wpAny_Call_Name_kw (ld_glob I hg hm ?_ hdb)
  exact PySem.W.callWith_K0 I.kIn M.kp (run_make (us := []) M F hr hb hd hx I .nil h)
end

/-! ### keywords -/
/-- the values of the keywords, from the left -/
def PK (X : Cx) (kws : List Keyword) (t : TA) : Prop :=
  ∀ (pos : Pos) (pins : List (Addr × Obj)) (s : Shared) (σ : St) (H : Hp) (Q : List V → Hp → Prop), Inv X pins σ H s → t σ H Q → wpAny (model X.prog X.w) X.A (evalAll ((backToKw pos (keywordEach kws X.env)).map (·.2))) (AP X pins σ Q) X.xe s
section
variable {X : Cx} {CX : CXT} {k : Nat} {f C : Addr} {fd : FuncData} {ps ks : List Str} {sp : Sp} {E : XK} {x m : Str} {p pos apos kpos : Pos} {e o : Expr} {es : List Expr} {kws : List Keyword} {te ta : TE} {t tk : TA} {nm : Option Str}

/-- how a call with keywords binds: g puts the positional values us and the keywords' values ws (names ks) in the parameters' order, defaults among them -/
structure KBinds (K : PySem.W.Frag) (fd : FuncData) (ps ks : List Str) (g : List Value → List Value → List Value) (gV : List V → List V → List V) : Prop where
  to : ∀ (s : Shared) (us ws : List Value), K.In s.heap → (g us ws).length = ps.length → BindsTo s fd ⟨us, ks.zip ws⟩ (ps.zip (g us ws))
  rel : ∀ {vs : List V} {us : List Value} {zs : List V} {ws : List Value}, Vals vs us → Vals zs ws → Vals (gV vs zs) (g us ws)
def tCallK (sp : Sp) (gV : List V → List V → List V) (E : XK) (t tk : TA) : TE := fun σ H Q => t σ H fun vs H1 => tk σ H1 fun zs H2 => sp (gV vs zs) H2 Q E
variable {g : List Value → List Value → List Value} {gV : List V → List V → List V}
end

/-! ### a def's body keeps its promise -/
/-- names: the parameters first -/
structure FnScope (N P : List Str) (sc : Scope) : Prop where
  kind : sc.kind = .function
  co : sc.isCoroutine = false
  gen : sc.isGenerator = false
  nd : N.Nodup
  pre : N.take P.length = P
  par : ∀ x ∈ P, sc.names.lookup x = some .local ∨ sc.names.lookup x = some .cell
  nofree : ∀ y ∈ sc.names, y.2 ≠ .free

theorem bindL_out {kindOf : Str → Option NameKind} {x : Str} : ∀ {binds : List (Str × Value)} {m : Str → Option Value}, (∀ v, (x, v) ∉ binds) → bindL kindOf binds m x = m x
  | [], _, _ => rfl
  | (n, v) :: r, m, h => by
    unfold bindL
    rw [bindL_out fun w hw => h w (List.mem_cons_of_mem _ hw)]
    split
    · have : x ≠ n := by rintro rfl; exact h v List.mem_cons_self
      simp [this]
    · rfl
theorem bindC_out {kindOf : Str → Option NameKind} {x : Str} : ∀ {binds : List (Str × Value)} {m : Str → Option Value}, (∀ v, (x, v) ∉ binds) → bindC kindOf binds m x = m x
  | [], _, _ => rfl
  | (n, v) :: r, m, h => by
    unfold bindC
    rw [bindC_out fun w hw => h w (List.mem_cons_of_mem _ hw)]
    split
    · rfl
    · have : x ≠ n := by rintro rfl; exact h v List.mem_cons_self
      simp [this]
theorem bindL_get {kindOf : Str → Option NameKind} {x : Str} {v : Value} : ∀ {P : List Str} {vs : List Value} {i : Nat} {m : Str → Option Value}, P.Nodup → P[i]? = some x → vs[i]? = some v → kindOf x = some .local →
    bindL kindOf (P.zip vs) m x = some v
  | [], _, _, _, _, h, _, _ => by simp at h
  | _ :: _, [], _, _, _, _, h, _ => by simp at h
  | p :: P, w :: vs, 0, m, nd, h1, h2, hk => by
    simp at h1 h2; subst h1; subst h2
    show bindL kindOf ((p, w) :: P.zip vs) m p = _
    unfold bindL
    rw [bindL_out fun v hv => (List.nodup_cons.mp nd).1 (List.of_mem_zip hv).1, if_pos hk]
    simp
  | p :: P, w :: vs, i + 1, m, nd, h1, h2, hk => by
    show bindL kindOf ((p, w) :: P.zip vs) m x = _
    unfold bindL
    exact bindL_get (i := i) (List.nodup_cons.mp nd).2 (by simpa using h1) (by simpa using h2) hk
theorem bindC_get {kindOf : Str → Option NameKind} {x : Str} {v : Value} : ∀ {P : List Str} {vs : List Value} {i : Nat} {m : Str → Option Value}, P.Nodup → P[i]? = some x → vs[i]? = some v → kindOf x ≠ some .local →
    bindC kindOf (P.zip vs) m x = some v
  | [], _, _, _, _, h, _, _ => by simp at h
  | _ :: _, [], _, _, _, _, h, _ => by simp at h
  | p :: P, w :: vs, 0, m, nd, h1, h2, hk => by
    simp at h1 h2; subst h1; subst h2
    show bindC kindOf ((p, w) :: P.zip vs) m p = _
    unfold bindC
    rw [bindC_out fun v hv => (List.nodup_cons.mp nd).1 (List.of_mem_zip hv).1, if_neg hk]
    simp
  | p :: P, w :: vs, i + 1, m, nd, h1, h2, hk => by
    show bindC kindOf ((p, w) :: P.zip vs) m x = _
    unfold bindC
    exact bindC_get (i := i) (List.nodup_cons.mp nd).2 (by simpa using h1) (by simpa using h2) hk

/-- the names' values at the entry -/
def start (N : List Str) (vs : List V) : St := vs.map some ++ List.replicate (N.length - vs.length) none

/-- the context of a def's body, at its entry; an exception leaves the frame, then lies as CX says -/
def cxOf (CX : CXT) (P : Program) (w : World) (K : PySem.W.Frag) (mg : Str → Option Value) (base : Heap) (N : List Str) (qual : Str) (scope : Scope) (f : Addr) (cd : Value) (A : Around) (outer : List Env) (s : Shared) (H : Hp) (E : XK) : Cx where
  prog := P
  w := w
  K := K
  mg := mg
  base := base
  A := A.deeper (envOfC qual scope s.heap.objs.size f cd)
  N := N
  s_0 := s
  H_0 := H
  env := envOfC qual scope s.heap.objs.size f cd
  outer := outer
  stack := envOfC qual scope s.heap.objs.size f cd :: outer
  ex := []
  calm := true
  fn := fun _ => true
  pn := []
  xe := fun e s' => wpAny (model P w) (A.deeper (envOfC qual scope s.heap.objs.size f cd)) (leaving (envOfC qual scope s.heap.objs.size f cd) e) (fun _ s'' => CX outer H s E e s'') (fun e' s'' => CX outer H s E e' s'') s'

theorem cell_has {sc : Scope} {n : Nat} {x : Str} (h : sc.names.lookup x = some .cell) : ∃ c, (cellsFrom n sc.names []).lookup x = some c := by
  have q := PySem.W.cellsFrom_some sc.names n [] (.inl h)
  exact Option.isSome_iff_exists.mp q

theorem inv_start {CX : CXT} {P : Program} {w : World} {K : PySem.W.Frag} {mg : Str → Option Value} {base : Heap} {N ps : List Str} {qual : Str} {scope : Scope} {f : Addr} {cd : Value} {A : Around} {outer : List Env} {s s1 : Shared} {H : Hp} {E : XK} {us : List Value} {vs : List V}
    (S : FnScope N ps scope) (hd : A.handled = none) (e0 : Env0 P w K mg base A outer s H) (hl : vs.length = ps.length) (r : Vals vs us)
    (x : InCallC s s.heap.objs.size (bindL (envOfC qual scope s.heap.objs.size f cd).kindOf (ps.zip us) fun _ => none) (cellsFrom (s.heap.objs.size + 1) scope.names []) (bindC (envOfC qual scope s.heap.objs.size f cd).kindOf (ps.zip us) fun _ => none) s1) :
    Inv (cxOf CX P w K mg base N qual scope f cd A outer s H E) [] (start N vs) H s1 := by
  have hpl : ps.length ≤ N.length := by have := congrArg List.length S.pre; rw [List.length_take] at this; omega
  obtain ⟨h1, tk, rfl, hk⟩ := x.done
  have noA : ∀ b : Addr, b ∉ (cxOf CX P w K mg base N qual scope f cd A outer s H E).ex := fun b z => absurd (show b ∈ ([] : List Addr) from z) (by simp)
  refine ⟨⟨e0.mod, S.kind, rfl, rfl, Nat.le_refl _, fun y z c h1 h2 => ?_, fun y hy => ?_, fun y c _ h => ?_, fun _ => hd, Around.frames_deeper e0.frames, .inr ⟨rfl, rfl⟩, fun b z => absurd z (noA b), e0.bs, e0.bsz, fun b _ _ => noA b, fun b z => absurd z (noA b), e0.funs, e0.frf⟩,
    rfl, e0.bare, Un.kept hk, ⟨_, x.toInCall.ns, fun i y v h1 h2 h3 => ?_⟩, fun y c h => ⟨_, x.cell y c h⟩, e0.hok.fresh (Nat.le_refl _), fun y c h => ?_, fun p hp => absurd (show p ∈ ([] : List (Addr × Obj)) from hp) (by simp), e0.hok.kept hk, ?_⟩
  · exact name_of_addr x.apart (PySem.mem_of_lookup h1) (PySem.mem_of_lookup h2)
  · have hy : scope.names.lookup y = some .cell ∨ scope.names.lookup y = some .free := hy
    rcases hy with hy | hy
    · exact cell_has hy
    · exact absurd rfl (S.nofree _ (PySem.mem_of_lookup hy))
  · exact Nat.le_of_lt (x.above y c (PySem.mem_of_lookup h))
  · have hi : i < vs.length := by
      unfold start at h2
      by_cases hi : i < vs.length
      · exact hi
      · rw [List.getElem?_append_right (by simpa using hi)] at h2
        rw [List.getElem?_replicate] at h2
        split at h2 <;> cases h2
    have ha : vs[i]? = some v := by
      unfold start at h2
      rw [List.getElem?_append_left (by simpa using hi), List.getElem?_map] at h2
      cases e : vs[i]? with
      | none => rw [e] at h2; cases h2
      | some a => rw [e] at h2; cases h2; rfl
    obtain ⟨u, hu, rv⟩ := r.get ha
    have hp : ps[i]? = some y := by
      rw [← S.pre, List.getElem?_take_of_lt (by omega)]; exact h1
    have ndP : ps.Nodup := by rw [← S.pre]; exact S.nd.sublist (List.take_sublist _ _)
    refine ⟨u, rv, ?_⟩
    rcases S.par y (List.mem_of_getElem? hp) with k | k
    · exact .inl ⟨k, bindL_get ndP hp hu k⟩
    · obtain ⟨c, e⟩ := cell_has (n := s.heap.objs.size + 1) k
      refine .inr ⟨.inl k, c, e, ?_⟩
      have q := x.cell y c e
      rw [bindC_get ndP hp hu (by show scope.names.lookup y ≠ _; rw [k]; decide)] at q
      exact q
  · exact e0.hok.fresh (Nat.le_of_lt (x.above y c (PySem.mem_of_lookup h)))
  · unfold start
    show _ = N.length
    rw [List.length_append, List.length_map, List.length_replicate]
    omega

/-- THE RULE: a def (or a method) of the text, by its body. The body's reading t is chosen for each entry; it is run at the parameters' values -/
theorem fn_of {CX : CXT} {P : Program} {w : World} {K : PySem.W.Frag} {mg : Str → Option Value} {base : Heap} {k : Nat} {f : Addr} {name qual : Str} {params : Arguments} {body : List Stmt} {scope : Scope} {dV kV doc pm cdv ct oc : Value} {an od : Option Addr}
    {osl : Array (Option Value)} {N ps : List Str} {sp : Sp} (lk : K.lookup f = some ⟨oc, od, .func (PySem.W.fnOf name qual params body scope dV kV doc pm an cdv ct), osl⟩) (hcd : PySem.W.codeIn K cdv qual = true) (S : FnScope N ps scope)
    (len : ∀ vs H Q E, sp vs H Q E → vs.length = ps.length)
    (hbody : ∀ (A : Around) (outer : List Env) (s : Shared) (H : Hp) (vs : List V) (Q : VK) (E : XK), Room k (A.deeper (envOfC qual scope s.heap.objs.size f cdv)) → sp vs H Q E →
      ∃ t, PSs (cxOf CX P w K mg base N qual scope f cdv A outer s H E) body t ∧ t { nx := fun _ H' => Q .non H', rt := Q } (start N vs) H) :
    FnOk P w K mg base CX (k + 1) f (PySem.W.fnOf name qual params body scope dV kV doc pm an cdv ct) ps sp := by
  refine ⟨len, fun A outer s H args us vs Q E hr e0 hb r hsp => ?_⟩
  have hl := len _ _ _ _ hsp
  have KX : K.In s.heap := e0.mod.kin.keeps fun b o e => (e0.bs b o e).1
  have lim : s.heap.NoLimit := e0.mod.nolimit.keeps fun b o e => (e0.bs b o e).1
  have hkind : ∀ y ∈ ps.zip us, scope.names.lookup y.1 = some .local ∨ (scope.names.lookup y.1 = some .cell ∧ ((cellsFrom (s.heap.objs.size + 1) scope.names []).lookup y.1).isSome = true) := fun ⟨n, v⟩ hy => by
    rcases S.par n (List.of_mem_zip hy).1 with q | q
    · exact .inl q
    · exact .inr ⟨q, PySem.W.cellsFrom_some _ _ _ (.inl q)⟩
  refine codeAny_call_function hr.depth (KX _ _ lk) rfl S.co S.gen rfl (PySem.W.codeRec_of KX hcd) (hb _ _ _ _ ?_)
  refine wpAny_newFunctionEnv_cells S.kind hkind fun env he s1 x => ?_
  subst he
  refine ⟨lim.keeps x.toInCall.keep, codeAny_func ?_⟩
  obtain ⟨t, ht, hq⟩ := hbody A outer s H vs Q E (hr.deeper _) hsp
  have I : Inv (cxOf CX P w K mg base N qual scope f cdv A outer s H E) [] (start N vs) H s1 := inv_start S hr.hd e0 hl r x
  refine wpAny_mono (ht [] s1 (start N vs) H _ I hq) (fun fl s' hs => ?_) fun e s' hs => hs
  have fin : ∀ {σ' : St} {H' : Hp} {v : V} {u : Value}, Inv (cxOf CX P w K mg base N qual scope f cdv A outer s H E) [] σ' H' s' → RelV v u → Q v H' → CE outer P w H s Q u s' :=
    fun {σ' H' v u} J rv q => ⟨v, H', J.os, J.bare, J.base, J.hok, rv, q⟩
  cases fl with
  | ret u =>
    obtain ⟨v, σ', H', J, rv, q⟩ := hs
    exact fin J rv q
  | next =>
    obtain ⟨σ', H', J, q⟩ := hs
    exact fin (v := V.non) (u := Value.none) J rfl q
  | brk =>
    obtain ⟨_, _, _, q⟩ := hs
    exact False.elim q
  | cont =>
    obtain ⟨_, _, _, q⟩ := hs
    exact False.elim q
end L2

namespace L2
open PySem PySem.Spec PyProof.Rows
section
variable {X : Cx} {x : Str} {p pos : Pos} {e : Expr} {es : List Expr} {t : TA} {id T : String} {r : List V → Hp → VK → Prop}

def tCB (r : List V → Hp → VK → Prop) (t : TA) : TE := fun σ H Q => t σ H fun vs H1 => r vs H1 Q
/-- f(e, ..), f a built-in function -/
theorem pe_callB (hc : CallR X (.builtin id) r) (hg : Gl X x) (hm : X.mg x = none) (hv : bootBuiltins x = some (.builtin id)) (ha : PA X (e :: es) t) (hn : x ≠ "__name__" := by decide) (hdb : (x == ("__debug__" : Str)) = false := by decide)
    (he : starEach (e :: es) X.env = (false, eval e X.env) :: starEach es X.env := by rfl) (hpl : (backTo pos (starEach es X.env)).any (·.1) = false := by rfl) : PE X (.Call (.Name x p) (e :: es) [] pos) (tCB r t) := by
  intro pins s σ H Q I h
  refine wpAny_Call_Name_kw (ld_blt I hg hm hv ?_ hn hdb)
  exact PyProof.Rows.callWith_builtin1 (thn (ha pos pins s σ H _ I h) fun us s1 ⟨vs, H1, I1, r1, q1⟩ => hc pins s1 σ H1 vs us Q I1 r1 q1) he hpl
end
end L2

namespace HT
open PySem PyProof.Rows

/-- t < u of tuples of ints -/
def lexLt : List Int → List Int → Bool
  | [], [] => false
  | [], _ :: _ => true
  | _ :: _, [] => false
  | x :: xs, y :: ys => if x = y then lexLt xs ys else decide (x < y)


section
open PySem.SeqAt
open PySem.AutoSeq1 (wpAny_loadPart')
open PySem.MeetsSeq PySem.MeetsSeq2 PySem.MeetsSeq3

end

section
variable {prog : Program} {w : World} {A : Around} {E : Value → Shared → Prop} {s : Shared}



/-! ### t[a:b], not the whole -/
/-- a slice's bound as a place among n (d where it is left out) -/
def sIx (n d : Nat) : Option Int → Nat
  | none => d
  | some v => if v < 0 then (v + (n : Int)).toNat else min v.toNat n
theorem sIx_nat (n d k : Nat) : sIx n d (some (k : Int)) = min k n := by
  show (if (k : Int) < 0 then ((k : Int) + (n : Int)).toNat else min (k : Int).toNat n) = min k n
  rw [if_neg (by omega), Int.toNat_natCast]

end
end HT

namespace L2
open PySem PySem.Spec PyProof.Rows

/-! ### the parts of a slice -/
abbrev TO := St → Hp → (Option Int → Hp → Prop) → Prop
/-- a slice's part (left out, or an int) -/
def PO (X : Cx) (e : Option Expr) (t : TO) : Prop :=
  ∀ (pins : List (Addr × Obj)) (s : Shared) (σ : St) (H : Hp) (Q : Option Int → Hp → Prop), Inv X pins σ H s → t σ H Q →
    wpAny (model X.prog X.w) X.A (evalPart e X.env) (fun u s' => ∃ o H', Inv X pins σ H' s' ∧ IsPart u o ∧ Q o H') X.xe s
def tNoPart : TO := fun _ H Q => Q none H
def tPart (t : TE) : TO := fun σ H Q => t σ H fun x H1 => ∃ i, x = .int i ∧ Q (some i) H1


section
variable {X : Cx} {e : Expr} {te : TE} {lo hi : Option Expr} {tl th : TO} {pos p2 : Pos}

theorem po_none : PO X none tNoPart := by
  intro pins s σ H Q I h
  rw [evalPart_none]
  exact wpAny_pure ⟨none, H, I, .none, h⟩
theorem po_some (h : PE X e te) : PO X (some e) (tPart te) := by
  intro pins s σ H Q I hw
  rw [evalPart_some]
  refine thn (h pins s σ H _ I hw) fun u s1 ⟨x, H1, I1, r1, q1⟩ => ?_
  obtain ⟨i, rfl, q⟩ := q1
  obtain ⟨t, rfl⟩ := r1
  exact ⟨some i, H1, I1, .int i t, q⟩

/-- what a slice of a value is, by values: the slice object stands at sl -/
def SlR (X : Cx) (r : V → Option Int → Option Int → Hp → VK → Prop) : Prop :=
  ∀ (pins : List (Addr × Obj)) (s : Shared) (σ : St) (H : Hp) (x : V) (v vl vu : Value) (lo hi : Option Int) (sl : Addr) (Q : VK), Inv X pins σ H s → RelV x v → s.heap.IsSliceOf sl vl vu .none → IsPart vl lo → IsPart vu hi → r x lo hi H Q →
    ∃ T id, typeLookup (.type T) "__getitem__" = pure (some (.builtin id)) ∧ s.TypeIs v T ∧ wpAny (model X.prog X.w) X.A (getItem v (.ref sl)) (EP X pins σ Q) X.xe s
theorem SlR.or {r r' : V → Option Int → Option Int → Hp → VK → Prop} (h : SlR X r) (h' : SlR X r') : SlR X (fun x lo hi H Q => r x lo hi H Q ∨ r' x lo hi H Q) := by
  intro pins s σ H x v vl vu lo hi sl Q I rx hs pl pu q
  rcases q with q | q
  · exact h pins s σ H x v vl vu lo hi sl Q I rx hs pl pu q
  · exact h' pins s σ H x v vl vu lo hi sl Q I rx hs pl pu q
def tSl (r : V → Option Int → Option Int → Hp → VK → Prop) (te : TE) (tl th : TO) : TE := fun σ H Q => te σ H fun x H1 => tl σ H1 fun l H2 => th σ H2 fun u H3 => r x l u H3 Q
/-- a[lo:hi], any a -/
theorem pe_slice {r : V → Option Int → Option Int → Hp → VK → Prop} (hr : SlR X r) (he : PE X e te) (hl : PO X lo tl) (hu : PO X hi th) : PE X (.Subscript e (.Slice lo hi none p2) pos) (tSl r te tl th) := by
  intro pins s σ H Q I h
  refine Subscript_ (thn (he pins s σ H _ I h) fun v s1 ⟨x, H1, I1, r1, q1⟩ => ?_)
  refine wpAny_Slice (thn (hl pins s1 σ H1 _ I1 q1) fun vl s2 ⟨l, H2, I2, pl, q2⟩ => thn (hu pins s2 σ H2 _ I2 q2) fun vu s3 ⟨u, H3, I3, pu, q3⟩ => ?_)
  rw [evalPart_none]
  refine wpAny_pure ?_
  have I4 : Inv X pins σ H3 { s3 with heap := s3.heap.push { cls := .type "slice", data := .fields #[vl, vu, .none] } } := I3.kept (t' := s3.toks) fun b ob q => Heap.get?_push_of_some _ q
  obtain ⟨T, id, hT, ht, hg⟩ := hr pins { s3 with heap := s3.heap.push { cls := .type "slice", data := .fields #[vl, vu, .none] } } σ H3 x v vl vu l u s3.heap.objs.size Q I4 r1 (Heap.IsSliceOf.new ..) pl pu q3
  show wpAny (model X.prog X.w) X.A (subscriptTail e (.Slice lo hi none p2) v (.ref s3.heap.objs.size)) (EP X pins σ Q) X.xe { s3 with heap := s3.heap.push { cls := .type "slice", data := .fields #[vl, vu, .none] } }
  exact tail_any (ops := [.ref s3.heap.objs.size, v]) ht hT hg (by with_unfolding_all rfl)

/-- the items of xs[lo:hi] -/
def cutV (xs : List V) (lo hi : Option Int) : List V := (xs.drop (HT.sIx xs.length 0 lo)).take (HT.sIx xs.length xs.length hi - HT.sIx xs.length 0 lo)
theorem cutV_length (xs : List V) (lo hi : Option Int) : (cutV xs lo hi).length ≤ xs.length := by
  unfold cutV
  rw [List.length_take, List.length_drop]
  omega
/-- t[lo:hi], not the whole of it (the whole would be t itself) -/
def rSlT (K : PySem.W.Frag) : V → Option Int → Option Int → Hp → VK → Prop := fun x lo hi H Q => ∃ a xs, x = .ref a ∧ SqT K H a xs ∧
  ¬ (HT.sIx xs.length 0 lo = 0 ∧ HT.sIx xs.length xs.length hi = xs.length) ∧ ∀ p, H p = none → Q (.ref p) (upd H p (.tup (cutV xs lo hi)))

/-! ### t < u, t + u -/
def rLtT (K : PySem.W.Frag) : R2 := fun x y H Q => ∃ a b ns ms, x = .ref a ∧ y = .ref b ∧ SqT K H a (ns.map V.int) ∧ SqT K H b (ms.map V.int) ∧ Q (.bl (HT.lexLt ns ms)) H
/-- t + u, t not empty: u empty gives t itself -/
def rCatT (K : PySem.W.Frag) : R2 := fun x y H Q => ∃ a b xs ys, x = .ref a ∧ y = .ref b ∧ SqT K H a xs ∧ SqT K H b ys ∧ xs ≠ [] ∧ xs.length + ys.length ≤ sizeLine ∧
  (ys = [] → Q (.ref a) H) ∧ (ys ≠ [] → ∀ p, H p = none → Q (.ref p) (upd H p (.tup (xs ++ ys))))
end
end L2

namespace L2
open PySem PySem.Spec PyProof.Rows

/-! ### places -/
/-- the place that an index of any sign means -/
def ixN (n : Nat) (i : Int) : Option Nat := if 0 ≤ i then (if i < n then some i.toNat else none) else if -(n : Int) ≤ i then some (i + n).toNat else none
def atI {α : Type} (xs : List α) (i : Int) : Option α := (ixN xs.length i).bind fun j => xs[j]?
theorem ixN_seq {n : Nat} {i : Int} {j : Nat} (h : ixN n i = some j) : seqIndex? i n = some j ∧ j < n ∧ -(n : Int) ≤ i ∧ i < n := by
  unfold ixN at h
  by_cases h0 : 0 ≤ i
  · rw [if_pos h0] at h
    by_cases h1 : i < n
    · rw [if_pos h1] at h
      have e : i.toNat = j := Option.some.inj h
      exact ⟨by rw [seqIndex_of h0 h1, e], by omega, by omega, h1⟩
    · rw [if_neg h1] at h; cases h
  · rw [if_neg h0] at h
    by_cases h1 : -(n : Int) ≤ i
    · rw [if_pos h1] at h
      have e : (i + n).toNat = j := Option.some.inj h
      exact ⟨by rw [seqIndex_neg (by omega) h1, e], by omega, h1, by omega⟩
    · rw [if_neg h1] at h; cases h
theorem atI_get {α : Type} {xs : List α} {i : Int} {v : α} (h : atI xs i = some v) : ∃ j, seqIndex? i xs.length = some j ∧ xs[j]? = some v ∧ j < xs.length ∧ -(xs.length : Int) ≤ i ∧ i < xs.length := by
  unfold atI at h
  cases e : ixN xs.length i with
  | none => rw [e] at h; cases h
  | some j =>
    rw [e] at h
    obtain ⟨h1, h2, h3, h4⟩ := ixN_seq e
    exact ⟨j, h1, h, h2, h3, h4⟩
theorem atI_nat {α : Type} {xs : List α} {j : Nat} {v : α} (h : xs[j]? = some v) : atI xs (j : Int) = some v := by
  have hj : j < xs.length := (List.getElem?_eq_some_iff.mp h).1
  have e : ixN xs.length (j : Int) = some j := by
    unfold ixN
    rw [if_pos (by omega), if_pos (by omega)]; simp
  unfold atI; rw [e]; exact h

/-! ### what may be subscripted -/
/-- what stands as an index of a plain subscript -/
def PlainIx (b : Expr) : Prop := ∀ o i, subscripted b false o i = operate [o, i] (getItem o i)
/-- a subscript by values -/
def IxR (X : Cx) (r : R2) : Prop :=
  ∀ (value slice : Expr) (pins : List (Addr × Obj)) (s : Shared) (σ : St) (H : Hp) (x y : V) (v u : Value) (Q : VK), Inv X pins σ H s → RelV x v → RelV y u → r x y H Q →
    subscripted slice false v u = operate [v, u] (getItem v u) → wpAny (model X.prog X.w) X.A (subscriptTail value slice v u) (EP X pins σ Q) X.xe s
/-- a call of a builtin's method by values: the receiver, the arguments -/
def MtR (X : Cx) (id : String) (r : V → List V → Hp → VK → Prop) : Prop :=
  ∀ (pins : List (Addr × Obj)) (s : Shared) (σ : St) (H : Hp) (x : V) (xs : List V) (v : Value) (us : List Value) (Q : VK), Inv X pins σ H s → RelV x v → Vals xs us → r x xs H Q →
    wpAny (model X.prog X.w) X.A (call (.builtin id) (v :: us)) (EP X pins σ Q) X.xe s
section
variable {X : Cx} {a b : Expr} {ta tb : TE} {pos : Pos}
theorem IxR.or {r r' : R2} (h : IxR X r) (h' : IxR X r') : IxR X (fun x y H Q => r x y H Q ∨ r' x y H Q) := by
  intro value slice pins s σ H x y v u Q I rx ry q hs
  rcases q with q | q
  · exact h value slice pins s σ H x y v u Q I rx ry q hs
  · exact h' value slice pins s σ H x y v u Q I rx ry q hs
theorem MtR.or {id : String} {r r' : V → List V → Hp → VK → Prop} (h : MtR X id r) (h' : MtR X id r') : MtR X id (fun x xs H Q => r x xs H Q ∨ r' x xs H Q) := by
  intro pins s σ H x xs v us Q I rx rs q
  rcases q with q | q
  · exact h pins s σ H x xs v us Q I rx rs q
  · exact h' pins s σ H x xs v us Q I rx rs q
/-- a[b] -/
theorem pe_ix {r : R2} (hr : IxR X r) (ha : PE X a ta) (hb : PE X b tb) (hs : PlainIx b) : PE X (.Subscript a b pos) (tOp r ta tb) := by
  intro pins s σ H Q I h
  exact Subscript_ (binT ha hb I h fun v u s2 x y H2 I2 rx ry q => hr a b pins s2 σ H2 x y v u Q I2 rx ry q (hs _ _))

def rIxL (K : PySem.W.Frag) : R2 := fun x y H Q => ∃ p xs i v, x = .ref p ∧ y = .int i ∧ SqL K H p xs ∧ atI xs i = some v ∧ Q v H
def rIxT (K : PySem.W.Frag) : R2 := fun x y H Q => ∃ p xs i v, x = .ref p ∧ y = .int i ∧ SqT K H p xs ∧ atI xs i = some v ∧ Q v H
def rIxS : R2 := fun x y H Q => ∃ z i c, x = .str z ∧ y = .int i ∧ z.length ≤ sizeLine ∧ atI z.cps.toList i = some c ∧ Q (.str ⟨#[c]⟩) H
theorem ix_list : IxR X (rIxL X.K) := by
  intro value slice pins s σ H x y v u Q I rx ry h hs
  obtain ⟨p, xs, i, z, rfl, rfl, hq, he, q⟩ := h
  cases rx
  obtain ⟨t, rfl⟩ := ry
  obtain ⟨its, r, pl, hz⟩ := I.list hq
  obtain ⟨j, h1, h2, h3, h4, h5⟩ := atI_get he
  obtain ⟨w, ew, rw'⟩ := r.get h2
  have hl := r.length
  have hn := line63
  have fin : EP X pins σ Q w s := ⟨z, H, I, rw', q⟩
  by_cases h0 : 0 ≤ i
  · have hj : i.toNat = j := by
      rw [seqIndex_of h0 h5] at h1
      exact Option.some.inj h1
    exact item_listR pl.isList h0 (by omega) (by rw [hj]; simpa using ew) fin hs
  · have hj : (i + (its.toArray.size : Int)).toNat = j := by
      rw [seqIndex_neg (by omega) h4] at h1
      rw [List.size_toArray, ← hl]
      exact Option.some.inj h1
    exact subscriptTail_builtinR (x := w) pl.isList.typeIs slot_list_getitem.lookup
      (wpAny_getItem_list_neg (Q := fun r s' => r = w ∧ EP X pins σ Q r s') pl.isList (by omega) (by rw [List.size_toArray] <;> omega) (by omega) (by rw [hj]; simpa using ew) ⟨rfl, fin⟩) hs
theorem ix_tup : IxR X (rIxT X.K) := by
  intro value slice pins s σ H x y v u Q I rx ry h hs
  obtain ⟨p, xs, i, z, rfl, rfl, hq, he, q⟩ := h
  cases rx
  obtain ⟨t, rfl⟩ := ry
  obtain ⟨its, r, pl, hz⟩ := I.tuple hq
  obtain ⟨j, h1, h2, h3, h4, h5⟩ := atI_get he
  obtain ⟨w, ew, rw'⟩ := r.get h2
  have hl := r.length
  have hn := line63
  have fin : EP X pins σ Q w s := ⟨z, H, I, rw', q⟩
  exact subscriptTail_builtinR (x := w) pl.typeIs slot_tuple_getitem.lookup
    (getItem_tuple (j := j) (Q := fun r s' => r = w ∧ EP X pins σ Q r s') pl (by omega) (by omega) (by rw [List.size_toArray, ← hl]; exact h1) (by simpa using ew) ⟨rfl, fin⟩) hs
/-- list, tuple or str -/
def rIx (K : PySem.W.Frag) : R2 := fun x y H Q => rIxL K x y H Q ∨ rIxT K x y H Q ∨ rIxS x y H Q

/-! ### xs[i] = v, any sign -/
/-- the list's object behind a store -/
theorem mapSeq_set (its : List Value) (n j : Nat) (u : Value) : Obj.mapSeq (·.setIfInBounds j u) { cls := .type "list", data := .seq its.toArray n } = { cls := .type "list", data := .seq (its.set j u).toArray n } := by
  simp [Obj.mapSeq]
theorem Inv.lst {pins : List (Addr × Obj)} {σ : St} {H : Hp} {s : Shared} {p : Addr} {xs : List V} (I : Inv X pins σ H s) (h : H p = some (.lst xs)) :
    ∃ (its : List Value) (n : Nat), Vals xs its ∧ s.heap.get? p = some { cls := .type "list", data := .seq its.toArray n } ∧ xs.length ≤ sizeLine := by
  obtain ⟨z, its, n, r, e⟩ := I.hok p _ h
  exact ⟨its, n, r, e, z⟩
/-- the list at p is written by an update of its object -/
theorem Inv.lstUpd {pins : List (Addr × Obj)} {σ : St} {H : Hp} {s : Shared} {p : Addr} {xs ys : List V} {its its' : List Value} {n n' : Nat} {f : Obj → Obj} (I : Inv X pins σ H s) (h : H p = some (.lst xs))
    (ho : s.heap.get? p = some { cls := .type "list", data := .seq its.toArray n }) (hf : f { cls := .type "list", data := .seq its.toArray n } = { cls := .type "list", data := .seq its'.toArray n' }) (r : Vals ys its') (hz : ys.length ≤ sizeLine) (t : Nat) :
    Inv X pins σ (upd H p (.lst ys)) { s with heap := s.heap.update p f, toks := t } := by
  have e : (s.heap.update p f).get? p = some { cls := .type "list", data := .seq its'.toArray n' } := by
    rw [Heap.get?_update_self f ho (by rw [hf] <;> rfl), hf]
  refine I.write (x := p) (e := p) (by rw [h]; trivial) (.inl rfl) (fun b u hb q => (Heap.get?_update_other _ _ (Ne.symm hb)).trans q) ⟨_, e⟩ ?_
  exact ⟨hz, its', n', r, e⟩
def rSetL : V → V → V → Hp → (Hp → Prop) → Prop := fun o i v H Q => ∃ p xs k j, o = .ref p ∧ i = .int k ∧ H p = some (.lst xs) ∧ ixN xs.length k = some j ∧ Q (upd H p (.lst (xs.set j v)))
theorem set_list : PSet X rSetL := by
  intro pins s σ H o i v ov iv u Q I ro ri rv h
  obtain ⟨p, xs, k, j, rfl, rfl, hp, hj, q⟩ := h
  cases ro
  obtain ⟨t, rfl⟩ := ri
  obtain ⟨its, n, r, ho, hz⟩ := I.lst hp
  obtain ⟨h1, h2, h3, h4⟩ := ixN_seq hj
  have hl := r.length
  have hn := line63
  have I' : Inv X pins σ (upd H p (.lst (xs.set j v))) { s with heap := s.heap.update p (Obj.mapSeq (·.setIfInBounds j u)) } :=
    I.lstUpd hp ho (mapSeq_set its n j u) (r.set rv j) (by rw [List.length_set]; exact hz) s.toks
  by_cases h0 : 0 ≤ k
  · have hk : k.toNat = j := by
      rw [seqIndex_of h0 h4] at h1
      exact Option.some.inj h1
    exact PySem.W.ki_setAt ho h0 (by omega) (by rw [List.size_toArray, ← hl]; exact h4) (by rw [hk]; exact ⟨_, I', q⟩)
  · have hk : (k + (its.toArray.size : Int)).toNat = j := by
      rw [seqIndex_neg (by omega) h3] at h1
      rw [List.size_toArray, ← hl]
      exact Option.some.inj h1
    exact PySem.W.ki_setBack ho (by omega) (by rw [List.size_toArray, ← hl]; exact h3) (by omega) (by rw [hk]; exact ⟨_, I', q⟩)

/-! ### slices -/
theorem slice_bounds (lo hi : Option Int) (n : Nat) : (sliceBounds lo hi none n).1 = ((HT.sIx n 0 lo : Nat) : Int) ∧ (sliceBounds lo hi none n).2.1 = ((HT.sIx n n hi : Nat) : Int) ∧ (sliceBounds lo hi none n).2.2 = 1 := by
  refine ⟨?_, ?_, rfl⟩
  · cases lo with
    | none => simp [sliceBounds, HT.sIx]
    | some i =>
      simp only [sliceBounds, HT.sIx, Option.getD_none, show (1 : Int) > 0 by decide, if_true]
      by_cases h : i < 0
      · simp only [h, if_true] <;> omega
      · simp only [h, if_false] <;> omega
  · cases hi with
    | none => simp [sliceBounds, HT.sIx]
    | some i =>
      simp only [sliceBounds, HT.sIx, Option.getD_none, show (1 : Int) > 0 by decide, if_true]
      by_cases h : i < 0
      · simp only [h, if_true] <;> omega
      · simp only [h, if_false] <;> omega
theorem slicePick_cut (its : List Value) (lo hi : Option Int) : slicePick its.toArray lo hi none = ((its.drop (HT.sIx its.length 0 lo)).take (HT.sIx its.length its.length hi - HT.sIx its.length 0 lo)).toArray := by
  obtain ⟨h1, h2, h3⟩ := slice_bounds lo hi its.toArray.size
  unfold slicePick
  rw [h1, h2, h3]
  simp only [sliceRange_one, pick_run, List.size_toArray] <;> rfl
/-- xs[lo:hi] of a list: a new list -/
def rSlL (K : PySem.W.Frag) : V → Option Int → Option Int → Hp → VK → Prop := fun x lo hi H Q => ∃ a xs, x = .ref a ∧ SqL K H a xs ∧ ∀ p, H p = none → Q (.ref p) (upd H p (.lst (cutV xs lo hi)))
theorem sl_list : SlR X (rSlL X.K) := by
  intro pins s σ H x v vl vu lo hi sl Q I rx hs pl pu h
  obtain ⟨a, xs, rfl, hx, q⟩ := h
  cases rx
  obtain ⟨its, r, ht, hz⟩ := I.list hx
  have hlen := r.length
  refine ⟨"list", _, slot_list_getitem.lookup, ht.isList.typeIs, ?_⟩
  refine wpAny_getItem_list_slice ht.isList hs pl pu .none (by simp) ?_ (by rw [List.size_toArray] <;> omega)
  rw [slicePick_cut, ← hlen]
  refine ⟨.ref s.heap.objs.size, _, I.laid (t' := s.toks) (o := .lst (cutV xs lo hi)) (fun b ob q => Heap.get?_push_of_some _ q) (Nat.le_refl _) ?_, rfl, q _ (I.hok.fresh (Nat.le_refl _))⟩
  exact ⟨Nat.le_trans (cutV_length xs lo hi) hz, _, 0, (r.drop (HT.sIx xs.length 0 lo)).take (HT.sIx xs.length xs.length hi - HT.sIx xs.length 0 lo), Heap.get?_push_size _ rfl⟩

/-! ### in, not in: flat items -/
def flatV : V → Bool
  | .non => true
  | .bl _ => true
  | .int _ => true
  | .str _ => true
  | _ => false
/-- == of flat values -/
def eqV : V → V → Bool
  | .non, .non => true
  | .bl a, .bl b => a == b
  | .bl a, .int b => (if a then 1 else 0) == b
  | .int a, .bl b => a == (if b then 1 else 0)
  | .int a, .int b => a == b
  | .str a, .str b => a == b
  | _, _ => false
theorem eqAt_V {A : Around} {s : Shared} {y x : V} {u v : Value} (ry : RelV y u) (rx : RelV x v) (fy : flatV y = true) (fx : flatV x = true) : SeqAt.EqAt A s u v (eqV y x) := by
  cases y with
  | non =>
    cases ry
    cases x with
    | non => cases rx; exact SeqAt.EqAt.same _
    | bl b => cases rx; exact SeqAt.EqAt.none_bool b
    | int b => obtain ⟨t, rfl⟩ := rx; exact SeqAt.EqAt.none_int b t
    | str b => obtain ⟨t, rfl⟩ := rx; exact SeqAt.EqAt.none_str b t
    | _ => exact absurd (show false = true from fx) Bool.false_ne_true
  | bl a =>
    cases ry
    cases x with
    | non => cases rx; exact SeqAt.EqAt.bool_none a
    | bl b => cases rx; exact SeqAt.EqAt.bool_bool a b
    | int b => obtain ⟨t, rfl⟩ := rx; exact SeqAt.EqAt.bool_int a b t
    | str b => obtain ⟨t, rfl⟩ := rx; exact SeqAt.EqAt.bool_str a b t
    | _ => exact absurd (show false = true from fx) Bool.false_ne_true
  | int a =>
    obtain ⟨t', rfl⟩ := ry
    cases x with
    | non => cases rx; exact SeqAt.EqAt.int_none a t'
    | bl b => cases rx; exact SeqAt.EqAt.int_bool a t' b
    | int b => obtain ⟨t, rfl⟩ := rx; exact SeqAt.EqAt.int_int a t' b t
    | str b => obtain ⟨t, rfl⟩ := rx; exact SeqAt.EqAt.int_str a t' b t
    | _ => exact absurd (show false = true from fx) Bool.false_ne_true
  | str a =>
    obtain ⟨t', rfl⟩ := ry
    cases x with
    | non => cases rx; exact SeqAt.EqAt.str_none a t'
    | bl b => cases rx; exact SeqAt.EqAt.str_bool a t' b
    | int b => obtain ⟨t, rfl⟩ := rx; exact SeqAt.EqAt.str_int a t' b t
    | str b => obtain ⟨t, rfl⟩ := rx; exact SeqAt.EqAt.str_str a t' b t
    | _ => exact absurd (show false = true from fx) Bool.false_ne_true
  | _ => exact absurd (show false = true from fy) Bool.false_ne_true
/-- the items' answers, read off the values (a value's own answer does not lean on its token) -/
def eqU (x : V) (u : Value) : Bool := match u with
  | .none => eqV .non x
  | .bool b => eqV (.bl b) x
  | .int i _ => eqV (.int i) x
  | .str z _ => eqV (.str z) x
  | _ => false
theorem eqU_of {x y : V} {u : Value} (r : RelV y u) (f : flatV y = true) : eqU x u = eqV y x := by
  cases y with
  | non => cases r; rfl
  | bl b => cases r; rfl
  | int i => obtain ⟨t, rfl⟩ := r; rfl
  | str z => obtain ⟨t, rfl⟩ := r; rfl
  | _ => exact absurd (show false = true from f) Bool.false_ne_true
theorem any_eqU {x : V} : ∀ {xs : List V} {us : List Value}, Vals xs us → xs.all flatV = true → us.any (eqU x) = xs.any fun y => eqV y x
  | _, _, .nil, _ => rfl
  | y :: xs, u :: us, .cons r t, f => by
    rw [List.all_cons, Bool.and_eq_true] at f
    rw [List.any_cons, List.any_cons, eqU_of r f.1, any_eqU t f.2]
theorem mem_eqAt {A : Around} {s : Shared} {x : V} {v : Value} (rx : RelV x v) (fx : flatV x = true) : ∀ {xs : List V} {us : List Value}, Vals xs us → xs.all flatV = true → ∀ u ∈ us, SeqAt.EqAt A s u v (eqU x u)
  | _, _, .nil, _ => fun u hu => by cases hu
  | y :: xs, u :: us, .cons r t, f => fun u' hu => by
    rw [List.all_cons, Bool.and_eq_true] at f
    rcases List.mem_cons.mp hu with rfl | hu
    · rw [eqU_of r f.1]; exact eqAt_V r rx f.1 fx
    · exact mem_eqAt rx fx t f.2 u' hu
def inV (x : V) (xs : List V) : Bool := xs.any fun y => eqV y x
/-- x in a list or tuple of flat items -/
def rIn (K : PySem.W.Frag) (neg : Bool) : R2 := fun x y H Q => ∃ p xs, y = .ref p ∧ (SqL K H p xs ∨ SqT K H p xs) ∧ flatV x = true ∧ xs.all flatV = true ∧ Q (.bl (if neg then !inV x xs else inV x xs)) H
theorem op_in_seq : OpR X (compareOp .In) (rIn X.K false) := by
  intro pins s σ H x y v u Q I rx ry h
  obtain ⟨p, xs, rfl, hq, fx, fs, q⟩ := h
  cases ry
  rcases hq with hq | hq
  · obtain ⟨its, r, pl, hz⟩ := I.list hq
    refine SeqAt.in_listAt (eqU x) pl.isList (fun w hw => mem_eqAt rx fx r fs w (by simpa using hw)) ⟨.bl _, H, I, rfl, ?_⟩
    rw [show its.toArray.any (eqU x) = its.any (eqU x) by simp, any_eqU r fs]
    exact q
  · obtain ⟨its, r, pl, hz⟩ := I.tuple hq
    refine SeqAt.in_tupleAt (eqU x) pl (fun w hw => mem_eqAt rx fx r fs w (by simpa using hw)) ⟨.bl _, H, I, rfl, ?_⟩
    rw [show its.toArray.any (eqU x) = its.any (eqU x) by simp, any_eqU r fs]
    exact q

/-! ### len, list(x), tuple(x) of any list or tuple that is read -/
theorem call_len_seq : CallR X (.builtin "len") (fun xs H Q => ∃ p ys, xs = [.ref p] ∧ (SqL X.K H p ys ∨ SqT X.K H p ys) ∧ Q (.int ys.length) H) := by
  intro pins s σ H xs us Q I r h
  obtain ⟨p, ys, rfl, hq, q⟩ := h
  obtain ⟨u, rfl, rx⟩ := vals1 r
  cases rx
  have hn := line63
  rcases hq with hq | hq
  · obtain ⟨its, r', pl, hz⟩ := I.list hq
    have hlen := r'.length
    exact Calls.call_len_list pl.isList (by simp only [List.size_toArray] <;> omega) ⟨.int ys.length, H, I.tok _, ⟨s.toks + 1, by rw [List.size_toArray, hlen]⟩, q⟩
  · obtain ⟨its, r', pl, hz⟩ := I.tuple hq
    have hlen := r'.length
    exact len_tuple pl (by simp only [List.size_toArray] <;> omega) ⟨.int ys.length, H, I.tok _, ⟨s.toks + 1, by rw [List.size_toArray, hlen]⟩, q⟩
theorem CallR.or {f : Value} {r r' : List V → Hp → VK → Prop} (h : CallR X f r) (h' : CallR X f r') : CallR X f (fun xs H Q => r xs H Q ∨ r' xs H Q) := by
  intro pins s σ H xs us Q I rs q
  rcases q with q | q
  · exact h pins s σ H xs us Q I rs q
  · exact h' pins s σ H xs us Q I rs q

/-! ### the call of a builtin's method: o.m(..) -/
/-- the value is of that builtin type -/
def tyV (K : PySem.W.Frag) (T : String) (x : V) (H : Hp) : Prop := match x with
  | .str _ => T = "str"
  | .int _ => T = "int"
  | .ref p => (T = "list" ∧ ∃ xs, SqL K H p xs) ∨ (T = "tuple" ∧ ∃ o, K.lookup p = some o ∧ o.cls = .type "tuple" ∧ o.dict = none) ∨
      (T = "dict" ∧ ((∃ kvs, H p = some (.dK kvs)) ∨ ∃ kvs, H p = some (.dT kvs))) ∨ (T = "set" ∧ ∃ S n, H p = some (.set S n))
  | _ => False
theorem tyV_is {pins : List (Addr × Obj)} {σ : St} {H : Hp} {s : Shared} {T : String} {x : V} {v : Value} (I : Inv X pins σ H s) (r : RelV x v) (ty : tyV X.K T x H) :
    s.TypeIs v T ∧ ∀ a, v = .ref a → ∃ ob, s.heap.get? a = some ob ∧ ob.dict = none := by
  cases x with
  | str z =>
    obtain ⟨t, rfl⟩ := r
    cases (show T = "str" from ty)
    exact ⟨typeIs_str s z t, fun _ e => nomatch e⟩
  | int i =>
    obtain ⟨t, rfl⟩ := r
    cases (show T = "int" from ty)
    exact ⟨typeIs_int s i t, fun _ e => nomatch e⟩
  | ref p =>
    cases r
    rcases ty with ⟨rfl, xs, hq⟩ | ⟨rfl, o, hk, hc, hd⟩ | ⟨rfl, hk⟩ | ⟨rfl, S, n, hk⟩
    · obtain ⟨its, _, pl, _⟩ := I.list hq
      refine ⟨pl.isList.typeIs, fun a e => ?_⟩
      cases e
      obtain ⟨o, n, e, c, hd, _⟩ := pl
      exact ⟨o, e, hd⟩
    · refine ⟨⟨o, I.kIn p o hk, hc⟩, fun a e => ?_⟩
      cases e
      exact ⟨o, I.kIn _ o hk, hd⟩
    · have z : ∃ o, s.heap.get? p = some o ∧ o.ExactDict := by
        rcases hk with ⟨kvs, hk⟩ | ⟨kvs, hk⟩
        · obtain ⟨_, _, _, _, o, _, _, e, ex, _⟩ := I.hok p _ hk
          exact ⟨o, e, ex⟩
        · obtain ⟨_, _, _, _, o, _, _, e, ex, _⟩ := I.hok p _ hk
          exact ⟨o, e, ex⟩
      obtain ⟨o, e, ex⟩ := z
      refine ⟨⟨o, e, ex.1⟩, fun a e2 => ?_⟩
      cases e2
      exact ⟨o, e, ex.2.1⟩
    · obtain ⟨o, _, _, _, e, ex, _⟩ := I.hok p _ hk
      refine ⟨⟨o, e, ex.1⟩, fun a e2 => ?_⟩
      cases e2
      exact ⟨o, e, ex.2.1⟩
  | _ => exact False.elim ty
def tBM0 (K : PySem.W.Frag) (T : String) (r : V → List V → Hp → VK → Prop) (to : TE) : TE := fun σ H Q => to σ H fun x H1 => tyV K T x H1 ∧ r x [] H1 Q
def tBM (K : PySem.W.Frag) (T : String) (r : V → List V → Hp → VK → Prop) (to : TE) (t : TA) : TE := fun σ H Q => to σ H fun x H1 => tyV K T x H1 ∧ t σ H1 fun xs H2 => r x xs H2 Q
variable {o e : Expr} {es : List Expr} {to : TE} {t : TA} {name : Str} {apos cpos : Pos} {T id : String} {r : V → List V → Hp → VK → Prop}
theorem pe_bm (pa : PlainAttrs T) (slot : Slot T name id) (hty : typeOf (.builtin id) = pure (.type "method_descriptor")) (hm : MtR X id r) (ho : PE X o to) (ha : PA X (e :: es) t)
    (hbase : attributeBase o name X.env (eval o X.env) = eval o X.env := by rfl)
    (hfew : ((backTo cpos (starEach (e :: es) X.env)).all (fun x => !x.1) && (backToKw cpos (keywordEach [] X.env)).all (fun x => x.1.isSome)
      && decide ((e :: es).length + ([] : List Keyword).length + (if ([] : List Keyword).isEmpty then 0 else 1) < 30)) = true := by rfl)
    (hline : (apos.endLine == cpos.line) = true := by rfl) (hs : starEach (e :: es) X.env = (false, eval e X.env) :: starEach es X.env := by rfl) (hplain : (backTo cpos (starEach es X.env)).any (·.1) = false := by rfl) :
    PE X (.Call (.Attribute o name apos) (e :: es) [] cpos) (tBM X.K T r to t) := by
  intro pins s σ H Q I h
  refine wpAny_Call_method_late hbase hfew hline rfl (thn (ho pins s σ H _ I h) fun v s1 ⟨x, H1, I1, r1, ty, q1⟩ => ?_)
  obtain ⟨h1, h2⟩ := tyV_is I1 r1 ty
  refine ⟨T, id, pa, slot, hty, h1, h2, ?_⟩
  have hA := ha cpos pins s1 σ H1 _ I1 q1
  rw [hs] at hA ⊢
  refine Calls.callWith_builtin (by show (false || (backTo cpos (starEach es X.env)).any (·.1)) = false; rw [hplain] <;> rfl) (Calls.evalArgs_plain ?_)
  exact thn hA fun us s2 ⟨vs, H2, I2, r2, q2⟩ => hm pins s2 σ H2 x vs v us Q I2 r1 r2 q2
/- xs.append(e), list.index on a module's tuple .. are MtR facts of 06m -/
end
end L2

namespace L2
open PySem PySem.Spec PyProof.Rows

def MtM (X : Cx) (id : String) (r : V → List V → Hp → VK → Prop) : Prop :=
  ∀ (pins : List (Addr × Obj)) (s : Shared) (σ : St) (H : Hp) (x : V) (xs : List V) (v : Value) (us : List Value) (Q : VK), Inv X pins σ H s → RelV x v → Vals xs us → r x xs H Q →
    wpAny (model X.prog X.w) X.A (call (.builtin id) (v :: us)) (EP X pins σ Q) X.xe s

/-! ### lists of values -/
theorem Vals.one : ∀ {x : V} {us : List Value}, Vals [x] us → ∃ u, us = [u] ∧ RelV x u
  | _, _, .cons r .nil => ⟨_, rfl, r⟩
theorem Vals.two : ∀ {x y : V} {us : List Value}, Vals [x, y] us → ∃ u v, us = [u, v] ∧ RelV x u ∧ RelV y v
  | _, _, _, .cons r (.cons q .nil) => ⟨_, _, rfl, r, q⟩
theorem Vals.zero : ∀ {us : List Value}, Vals [] us → us = []
  | _, .nil => rfl
theorem Vals.dropLast {xs : List V} {us : List Value} (h : Vals xs us) : Vals xs.dropLast us.dropLast := by
  induction h with
  | nil => exact .nil
  | cons r t ih =>
    cases t with
    | nil => exact .nil
    | cons q t' => exact .cons r ih
theorem Vals.eraseIdx : ∀ {xs : List V} {us : List Value} (i : Nat), Vals xs us → Vals (xs.eraseIdx i) (us.eraseIdx i)
  | _, _, _, .nil => .nil
  | _, _, 0, .cons _ t => t
  | _, _, i + 1, .cons r t => .cons r (Vals.eraseIdx i t)
theorem Vals.reverse {xs : List V} {us : List Value} (h : Vals xs us) : Vals xs.reverse us.reverse := by
  induction h with
  | nil => exact .nil
  | cons r t ih => rw [List.reverse_cons, List.reverse_cons]; exact Vals.append ih (.cons r .nil)
theorem Vals.rep {xs : List V} {us : List Value} (h : Vals xs us) : ∀ k : Nat, Vals (List.replicate k xs).flatten (List.replicate k us).flatten
  | 0 => .nil
  | k + 1 => by
    rw [List.replicate_succ, List.replicate_succ, List.flatten_cons, List.flatten_cons]
    exact Vals.append h (Vals.rep h k)
theorem foldl_rep (its : List Value) : ∀ (k : Nat) (acc : List Value),
    List.foldl (fun x1 x2 => x1 ++ x2) acc.toArray (List.replicate k its.toArray) = (acc ++ (List.replicate k its).flatten).toArray
  | 0, acc => by simp
  | k + 1, acc => by
    have e : acc.toArray ++ its.toArray = (acc ++ its).toArray := by simp
    have e2 : (acc ++ its) ++ (List.replicate k its).flatten = acc ++ (List.replicate (k + 1) its).flatten := by
      rw [List.replicate_succ, List.flatten_cons, List.append_assoc]
    rw [← e2, ← foldl_rep its k (acc ++ its), ← e, List.replicate_succ, List.foldl_cons]

section
variable {X : Cx} {pins : List (Addr × Obj)} {σ : St} {H : Hp} {s : Shared} {l b : Addr} {xs ys zs : List V}

/-! ### the two steps: a tracked list is rewritten, a new list is laid -/
theorem Inv.lset {its its' : List Value} {n : Nat} {f : Array Value → Array Value} {t' : Nat} (I : Inv X pins σ H s) (hH : H l = some (.lst xs))
    (e : s.heap.get? l = some { cls := .type "list", data := .seq its.toArray n }) (hf : f its.toArray = its'.toArray) (hv : Vals ys its') (hz : ys.length ≤ sizeLine) :
    Inv X pins σ (upd H l (.lst ys)) { s with heap := s.heap.update l (Obj.mapSeq f), toks := t' } := by
  have q := PySem.IsL.update e f
  rw [hf] at q
  refine I.write (x := l) (e := l) (by rw [hH]; exact trivial) (.inl rfl) (fun b' u hb hu => (Heap.get?_update_other s.heap (Obj.mapSeq f) (Ne.symm hb)).trans hu) ⟨_, q⟩ ?_
  exact ⟨hz, its', _, hv, q⟩
theorem Inv.lnew {its : List Value} {t' : Nat} (I : Inv X pins σ H s) (hv : Vals ys its) (hz : ys.length ≤ sizeLine) :
    Inv X pins σ (upd H s.heap.objs.size (.lst ys)) { s with heap := s.heap.push { cls := .type "list", data := .seq its.toArray }, toks := t' } :=
  I.laid (fun _ _ q => Heap.get?_push_of_some _ q) (Nat.le_refl _) ⟨hz, its, 0, hv, Heap.get?_push_size _ rfl⟩
theorem Inv.fresh (I : Inv X pins σ H s) : H s.heap.objs.size = none := I.hok.fresh (Nat.le_refl _)
theorem Inv.lstM (I : Inv X pins σ H s) (hH : H l = some (.lst xs)) : xs.length ≤ sizeLine ∧ ∃ (its : List Value) (n : Nat), Vals xs its ∧ xs.length = its.length ∧ s.heap.get? l = some { cls := .type "list", data := .seq its.toArray n } := by
  obtain ⟨z, its, n, r, e⟩ := I.hok l _ hH
  exact ⟨z, its, n, r, r.length, e⟩

theorem notLongL {n : Nat} (h : n ≤ sizeLine) : Builtin.List.listTooLong n = false := by
  unfold Builtin.List.listTooLong
  exact decide_eq_false (by omega)
end

section
variable {X : Cx}

/-! ### methods -/
def rAppend : V → List V → Hp → VK → Prop := fun x vs H Q => ∃ l xs y, x = .ref l ∧ vs = [y] ∧ H l = some (.lst xs) ∧ xs.length < sizeLine ∧ Q .non (upd H l (.lst (xs ++ [y])))
theorem mt_append : MtM X "list.append" rAppend := by
  intro pins s σ H x vs v us Q I rx rv h
  obtain ⟨l, xs, y, rfl, rfl, hH, hz, q⟩ := h
  cases rx
  obtain ⟨u, rfl, ru⟩ := rv.one
  obtain ⟨z, its, n, r, hl, e⟩ := I.lstM hH
  refine call_meets F.slot_list_append ⟨_, e, rfl⟩ F.entry_list_append (F.args_list_append_2 _ _) (PySem.list_append l its.toArray n u (by rw [List.size_toArray]; omega)) ⟨e, ?_⟩
  refine ⟨.non, _, I.lset (its' := its ++ [u]) hH e (by simp) (r.append (.cons ru .nil)) ?_, rfl, q⟩
  rw [List.length_append, List.length_singleton]
  omega

def rExtend : V → List V → Hp → VK → Prop := fun x vs H Q => ∃ l b xs zs, x = .ref l ∧ vs = [.ref b] ∧ H l = some (.lst xs) ∧ H b = some (.lst zs) ∧ xs.length + zs.length ≤ sizeLine ∧ Q .non (upd H l (.lst (xs ++ zs)))
theorem mt_extend : MtM X "list.extend" rExtend := by
  intro pins s σ H x vs v us Q I rx rv h
  obtain ⟨l, b, xs, zs, rfl, rfl, hH, hB, hz, q⟩ := h
  cases rx
  obtain ⟨u, rfl, ru⟩ := rv.one
  cases ru
  obtain ⟨z, its, n, r, hl, e⟩ := I.lstM hH
  obtain ⟨z2, its2, n2, r2, hl2, e2⟩ := I.lstM hB
  have hsz : its.toArray.size + its2.toArray.size ≤ sizeLine := by rw [List.size_toArray, List.size_toArray]; omega
  have hlong : ¬ (!its.toArray.isEmpty && Builtin.List.listTooLong (its.toArray.size + its2.toArray.size)) = true := by
    rw [notLongL hsz, Bool.and_false]
    exact Bool.false_ne_true
  refine call_meets F.slot_list_extend ⟨_, e, rfl⟩ F.entry_list_extend (F.args_list_extend_2 _ _)
    (AutoSeq1.list_extend_list_list_0 l its.toArray n b its2.toArray n2 hlong (by rw [List.size_toArray]; omega) (by omega)) ⟨e, e2, ?_⟩
  refine ⟨.non, _, I.lset (its' := its ++ its2) hH e (by simp) (r.append r2) ?_, rfl, q⟩
  rw [List.length_append]
  omega

def rPop : V → List V → Hp → VK → Prop := fun x vs H Q => ∃ l xs y, x = .ref l ∧ vs = [] ∧ H l = some (.lst xs) ∧ xs[xs.length - 1]? = some y ∧ Q y (upd H l (.lst xs.dropLast))

def rPopAt : V → List V → Hp → VK → Prop := fun x vs H Q => ∃ l xs i k y, x = .ref l ∧ vs = [.int i] ∧ H l = some (.lst xs) ∧ -(2 ^ 63) ≤ i ∧ i < 2 ^ 63 ∧ seqIndex? i xs.length = some k ∧ xs[k]? = some y ∧ Q y (upd H l (.lst (xs.eraseIdx k)))

def rReverse : V → List V → Hp → VK → Prop := fun x vs H Q => ∃ l xs, x = .ref l ∧ vs = [] ∧ H l = some (.lst xs) ∧ Q .non (upd H l (.lst xs.reverse))

def rClear : V → List V → Hp → VK → Prop := fun x vs H Q => ∃ l xs, x = .ref l ∧ vs = [] ∧ H l = some (.lst xs) ∧ Q .non (upd H l (.lst []))

/-! ### list + list, list += list, list * int -/
def rCat : R2 := fun x y H Q => ∃ l b xs zs, x = .ref l ∧ y = .ref b ∧ H l = some (.lst xs) ∧ H b = some (.lst zs) ∧ xs.length + zs.length ≤ sizeLine ∧ ∀ p, H p = none → Q (.ref p) (upd H p (.lst (xs ++ zs)))
theorem op_cat : OpR X (binaryOp .Add) rCat := by
  intro pins s σ H x y v u Q I rx ry h
  obtain ⟨l, b, xs, zs, rfl, rfl, hH, hB, hz, q⟩ := h
  cases rx
  cases ry
  obtain ⟨z, its, n, r, hl, e⟩ := I.lstM hH
  obtain ⟨z2, its2, n2, r2, hl2, e2⟩ := I.lstM hB
  refine PySem.P.add_list e e2 ?_ (by rw [List.size_toArray, List.size_toArray]; omega)
  have ea : its.toArray ++ its2.toArray = (its ++ its2).toArray := by simp
  rw [ea]
  exact ⟨.ref _, _, I.lnew (t' := s.toks) (r.append r2) (by rw [List.length_append]; omega), rfl, q _ I.fresh⟩
/-- a list times an int (a negative one is nothing) -/
def rRep : R2 := fun x y H Q => ∃ l k xs, x = .ref l ∧ y = .int k ∧ H l = some (.lst xs) ∧ -(2 ^ 63) ≤ k ∧ k < 2 ^ 63 ∧ xs.length * k.toNat ≤ sizeLine ∧
  ∀ p, H p = none → Q (.ref p) (upd H p (.lst (List.replicate k.toNat xs).flatten))
theorem len_rep {α : Type} (xs : List α) (k : Nat) : (List.replicate k xs).flatten.length = k * xs.length := by
  induction k with
  | zero => simp
  | succ k ih => rw [List.replicate_succ, List.flatten_cons, List.length_append, ih, Nat.succ_mul, Nat.add_comm]
theorem op_rep : OpR X (binaryOp .Mult) rRep := by
  intro pins s σ H x y v u Q I rx ry h
  obtain ⟨l, k, xs, rfl, rfl, hH, h1, h2, hz, q⟩ := h
  cases rx
  obtain ⟨t, rfl⟩ := ry
  obtain ⟨z, its, n, r, hl, e⟩ := I.lstM hH
  have hlen : its.toArray.size * k.toNat ≤ sizeLine := by rw [List.size_toArray, ← hl]; exact hz
  have hcap : ¬ its.toArray.size * k.toNat > (2 ^ 63 - 1) / 8 := by
    have : (sizeLine : Nat) ≤ (2 ^ 63 - 1) / 8 := by decide
    omega
  have hfit : ¬ (!Builtin.List.listFitsIndex k) = true := by
    rw [fitsIndex_both h1 h2]
    exact Bool.false_ne_true
  have hlong : ¬ Builtin.List.listTooLong (its.toArray.size * k.toNat) = true := by
    rw [notLongL hlen]
    exact Bool.false_ne_true
  have hnew : List.foldl (fun x1 x2 => x1 ++ x2) #[] (List.replicate (if its.toArray.isEmpty = true then 0 else k.toNat) its.toArray) = (List.replicate k.toNat its).flatten.toArray := by
    have f0 : ∀ m : Nat, List.foldl (fun x1 x2 => x1 ++ x2) #[] (List.replicate m its.toArray) = (List.replicate m its).flatten.toArray := fun m => by
      have := foldl_rep its m []
      rw [List.nil_append] at this
      exact this
    rw [f0]
    cases its with
    | nil => simp
    | cons a r' => rw [if_neg (by simp)]
  refine wpAny_binaryOp_repeat_ref (T := "list") (U := "int") (by decide) ⟨_, e, rfl⟩ (fun s' => typeIs_int s' k t) noFill_list_mul F.fills_int_mul F.slot_int_rmul repeat_list F.slot_int_index.lookup
    (call_meets F.slot_int_rmul (typeIs_int s k t) F.entry_int_rmul (F.args_int_rmul_2 _ _) (int___rmul___int_list k t l its.toArray n)
      ⟨e, rfl, ⟨_, e, rfl⟩, call_meets F.slot_list_mul ⟨_, e, rfl⟩ F.entry_list_mul (F.args_list_mul_2 _ _) (AutoListH.list___mul___list_int_3 l its.toArray n k t hfit hcap hlong) ⟨e, ?_⟩⟩)
  rw [hnew]
  exact ⟨.ref _, _, I.lnew (t' := s.toks) (r.rep k.toNat) (by rw [len_rep, Nat.mul_comm]; exact hz), rfl, q _ I.fresh⟩

/-! ### del xs[i] -/
end

/-! ### xs[a:b] = ys -/
section
variable {prog : Program} {w : World} {A : Around} {E : Value → Shared → Prop} {s : Shared}
set_option maxRecDepth 100000 in
end

section
variable {X : Cx}
end
end L2

namespace L2
open PySem PySem.Spec PyProof.Rows

theorem Vals.ints : ∀ {ns : List Int} {us : List Value}, Vals (ns.map V.int) us → IntsAre us ns
  | [], us, h => by
    rw [List.map_nil] at h
    cases h
    exact IntsAre.nil
  | n :: ns, us, h => by
    rw [List.map_cons] at h
    cases h with
    | cons r t =>
      obtain ⟨k, rfl⟩ := r
      exact IntsAre.cons n k (Vals.ints t)
theorem Vals.strs : ∀ {xs : List Str} {us : List Value}, Vals (xs.map V.str) us → StrsAre us xs
  | [], us, h => by
    rw [List.map_nil] at h
    cases h
    exact StrsAre.nil
  | x :: xs, us, h => by
    rw [List.map_cons] at h
    cases h with
    | cons r t =>
      obtain ⟨k, rfl⟩ := r
      exact StrsAre.cons x k (Vals.strs t)
theorem Vals.bls : ∀ {bs : List Bool} {us : List Value}, Vals (bs.map V.bl) us → us = bs.map Value.bool
  | [], us, h => by
    rw [List.map_nil] at h
    cases h
    rfl
  | b :: bs, us, h => by
    rw [List.map_cons] at h
    cases h with
    | cons r t =>
      cases r
      rw [Vals.bls t, List.map_cons]
theorem Vals.ref1 {a : Addr} {us : List Value} (r : Vals [V.ref a] us) : us = [Value.ref a] := by
  cases r with
  | cons r t =>
    cases t
    cases r
    rfl

/-! ### the library's walks over a list of ints, kept objects alone -/
section
variable {prog : Program} {w : World} {A : Around} {E : Value → Shared → Prop} {s : Shared} {l : Addr} {its : List Value} {ns : List Int} {Q : Value → Shared → Prop}
theorem sum_raw (hh : A.handled = none) (hl : s.heap.IsList l its.toArray) (hi : IntsAre its ns)
    (h : ∀ h' tk t', (∀ b o, s.heap.get? b = some o → h'.get? b = some o) → Q (.int ns.sum t') { s with heap := h', toks := tk }) : wpAny (model prog w) A (call (.builtin "sum") [.ref l]) Q E s := by
  obtain ⟨xs, e⟩ := hi.allInts.items
  have hn : numsOf (intItems xs).toList = ns := by rw [← e]; exact hi.numsOf
  rw [nums_intItems] at hn
  rw [e] at hl
  refine PySem.sum_intListG hh hl fun h' tk t' hk => ?_
  have := h h' tk t' hk
  rw [preSum_eq, List.take_of_length_le (by simp), hn]; exact this
end

/-! ### the calls, by values (CallR of 03t; MtR of 06l) -/
section
variable {X : Cx}
/-- sum(xs) of a list of ints -/
def rSum (K : PySem.W.Frag) : List V → Hp → VK → Prop := fun vs H Q => ∃ (a : Addr) (ns : List Int), vs = [V.ref a] ∧ SqL K H a (ns.map V.int) ∧ Q (.int ns.sum) H
/-- max(xs), min(xs) of a list of ints -/
def rMax (K : PySem.W.Frag) : List V → Hp → VK → Prop := fun vs H Q => ∃ (a : Addr) (ns : List Int), vs = [V.ref a] ∧ SqL K H a (ns.map V.int) ∧ 0 < ns.length ∧ ∀ m, m ∈ ns → (∀ y, y ∈ ns → y ≤ m) → Q (.int m) H
def rMin (K : PySem.W.Frag) : List V → Hp → VK → Prop := fun vs H Q => ∃ (a : Addr) (ns : List Int), vs = [V.ref a] ∧ SqL K H a (ns.map V.int) ∧ 0 < ns.length ∧ ∀ m, m ∈ ns → (∀ y, y ∈ ns → m ≤ y) → Q (.int m) H
theorem cr_sum (hc : X.calm = true) : CallR X (.builtin "sum") (rSum X.K) := by
  intro pins s σ H vs us Q I r h
  obtain ⟨a, ns, rfl, hs, q⟩ := h
  obtain ⟨its, rv, hl, _⟩ := I.list hs
  rw [Vals.ref1 r]
  exact sum_raw (I.ok.hd hc) hl.isList rv.ints fun h' tk t' hk => ⟨.int _, H, I.kept hk, ⟨_, rfl⟩, q⟩

/-! sorted, sort (fewer than 64 items: the library's own bound) -/
def rSorted (K : PySem.W.Frag) : List V → Hp → VK → Prop := fun vs H Q => ∃ (a : Addr) (ns : List Int), vs = [V.ref a] ∧ SqL K H a (ns.map V.int) ∧ ns.length < 64 ∧
  ∀ (ns' : List Int) (p : Addr), ns'.Perm ns → ns'.Pairwise (· ≤ ·) → H p = none → Q (.ref p) (upd H p (.lst (ns'.map V.int)))
def rSortedS (K : PySem.W.Frag) : List V → Hp → VK → Prop := fun vs H Q => ∃ (a : Addr) (xs : List Str), vs = [V.ref a] ∧ SqL K H a (xs.map V.str) ∧ xs.length < 64 ∧
  ∀ (ys : List Str) (p : Addr), ys.Perm xs → sortedS ys = true → H p = none → Q (.ref p) (upd H p (.lst (ys.map V.str)))
/-- xs.sort(), ints -/
def rSort : V → List V → Hp → VK → Prop := fun x xs H Q => ∃ (a : Addr) (ns : List Int), x = V.ref a ∧ xs = [] ∧ H a = some (.lst (ns.map V.int)) ∧ ns.length < 64 ∧
  ∀ ns' : List Int, ns'.Perm ns → ns'.Pairwise (· ≤ ·) → Q .non (upd H a (.lst (ns'.map V.int)))
end

/-! ### list.index, flat items -/
section
variable {X : Cx}
def rIndex (K : PySem.W.Frag) : V → List V → Hp → VK → Prop := fun x xs H Q => ∃ (a : Addr) (ys : List V) (y : V) (j : Nat) (z : V), x = V.ref a ∧ xs = [y] ∧ SqL K H a ys ∧ flatV y = true ∧ ys.all flatV = true ∧ ys[j]? = some z ∧ eqV z y = true ∧
  (∀ (m : Nat) (z' : V), m < j → ys[m]? = some z' → eqV z' y = false) ∧ Q (.int (j : Nat)) H
end

/-! ### type(x) of an own instance; is, is not of a module's class -/
section
variable {X : Cx}
end

/-! ### any(xs), all(xs) of a list of bools -/
theorem iter_any {prog : Program} {w : World} {A : Around} {E : Value → Shared → Prop} {s : Shared} {l : Addr} {items : Array Value} {Q : Value → Shared → Prop} (hl : s.heap.IsList l items)
    (h : ∀ s₂ : Shared, s₂ = { s with heap := s.heap.push { cls := .type "list_iterator", data := .fields #[.ref l, .int 0 0] } } →
      (s₂.heap.IsListIter s.heap.objs.size l 0 ∧ s₂.heap.IsList l items) → l ≠ s.heap.objs.size → Q (.ref s.heap.objs.size) s₂) : wpAny (model prog w) A (pyIter (.ref l)) Q E s := by
  have hlt : l < s.heap.objs.size := by obtain ⟨_, e, _⟩ := hl; exact Heap.lt_size e
  exact wpAny_pyIter_list hl (h _ rfl ⟨⟨_, Heap.get?_push_size _ rfl, rfl, rfl⟩, hl.push _⟩ (Nat.ne_of_lt hlt))
theorem truth_bools {prog : Program} {w : World} {A : Around} {bs : List Bool} {its : List Value} (e : its = bs.map Value.bool) :
    TruthOf prog w A (fun i v => its.toArray[i]? = some v) (fun i => bs.getD i false) := fun i v s Q E hv hq => by
  have hv' : its[i]? = some v := by simpa using hv
  rw [e, List.getElem?_map] at hv'
  obtain ⟨b, hb, rfl⟩ := Option.map_eq_some_iff.mp hv'
  have hg : bs.getD i false = b := by rw [List.getD_eq_getElem?_getD, hb] <;> rfl
  have hq' : Q (bs.getD i false) s := hq
  rw [hg] at hq'
  exact wpAny_truthy_bool hq'
theorem all_range : ∀ bs : List Bool, (List.range bs.length).all (fun i => bs.getD i false) = bs.all id
  | [] => rfl
  | b :: bs => by
    rw [List.length_cons, List.range_succ_eq_map, List.all_cons, List.all_map, List.all_cons, ← all_range bs]
    all_goals rfl
section
variable {X : Cx}
def rAny (K : PySem.W.Frag) : List V → Hp → VK → Prop := fun vs H Q => ∃ (a : Addr) (bs : List Bool), vs = [V.ref a] ∧ SqL K H a (bs.map V.bl) ∧ Q (.bl (bs.any id)) H
def rAll (K : PySem.W.Frag) : List V → Hp → VK → Prop := fun vs H Q => ∃ (a : Addr) (bs : List Bool), vs = [V.ref a] ∧ SqL K H a (bs.map V.bl) ∧ Q (.bl (bs.all id)) H
theorem cr_all (hc : X.calm = true) : CallR X (.builtin "all") (rAll X.K) := by
  intro pins s σ H vs us Q I r h
  obtain ⟨a, bs, rfl, hs, q⟩ := h
  obtain ⟨its, rv, hl, _⟩ := I.list hs
  rw [Vals.ref1 r]
  have hb := rv.bls
  refine call_all_walk (iter_any hl.isList fun s₂ e2 st hne => ?_)
  subst e2
  refine ⟨_, _, _, _, _, _, _, rfl, Walks.list (A := X.A.in1) (I.ok.hd hc) _ a hne its.toArray, st, truth_bools hb, fun h' tk hk => ?_⟩
  refine ⟨.bl _, H, I.kept fun b o eo => hk b o (fun hmem => ?_) (Heap.get?_push_of_some _ eo), ?_, q⟩
  · rcases List.mem_cons.mp hmem with e1 | hmem
    · exact absurd (e1 ▸ Heap.lt_size eo) (Nat.lt_irrefl _)
    · cases hmem
  · show Value.bool _ = Value.bool _
    rw [← all_range, hb, List.size_toArray, List.length_map]
end

/-! ### == and != of data at any depth: none, bools, ints, texts, lists, tuples -/
mutual
inductive Dp (K : PySem.W.Frag) (H : Hp) : V → PyData → Prop
  | non : Dp K H .non .none
  | bl (b : Bool) : Dp K H (.bl b) (.bool b)
  | int (i : Int) : Dp K H (.int i) (.int i)
  | str (x : Str) : Dp K H (.str x) (.str x)
  | lst {a : Addr} {xs : List V} {ds : List PyData} : SqL K H a xs → DpAll K H xs ds → Dp K H (.ref a) (.list ds)
  | tup {a : Addr} {xs : List V} {ds : List PyData} : SqT K H a xs → DpAll K H xs ds → Dp K H (.ref a) (.tuple ds)
inductive DpAll (K : PySem.W.Frag) (H : Hp) : List V → List PyData → Prop
  | nil : DpAll K H [] []
  | cons {v : V} {vs : List V} {d : PyData} {ds : List PyData} : Dp K H v d → DpAll K H vs ds → DpAll K H (v :: vs) (d :: ds)
end
section
variable {X : Cx} {pins : List (Addr × Obj)} {σ : St} {H : Hp} {s : Shared}
mutual
theorem Dp.reads (I : Inv X pins σ H s) : ∀ (d : PyData) (v : V) (u : Value), Dp X.K H v d → RelV v u → ∃ as, Reads s.heap u d as
  | .none, _, _, h, r => by
    cases h
    cases r
    exact ⟨_, Reads.none⟩
  | .bool b, _, _, h, r => by
    cases h
    cases r
    exact ⟨_, Reads.bool b⟩
  | .int i, _, _, h, r => by
    cases h
    obtain ⟨t, rfl⟩ := r
    exact ⟨_, Reads.int i t⟩
  | .str x, _, _, h, r => by
    cases h
    obtain ⟨t, rfl⟩ := r
    exact ⟨_, Reads.str x t⟩
  | .list ds, _, _, h, r => by
    cases h with
    | lst hs ha =>
      cases r
      obtain ⟨its, rv, ⟨o, n, ho, hc, _, hd⟩, _⟩ := I.list hs
      obtain ⟨as, hr⟩ := Dp.readsAll I ds _ its ha rv
      exact ⟨_, Reads.list ho hc hd hr⟩
  | .tuple ds, _, _, h, r => by
    cases h with
    | tup hs ha =>
      cases r
      obtain ⟨its, rv, ⟨o, ho, hc, n, hd⟩, _⟩ := I.tuple hs
      obtain ⟨as, hr⟩ := Dp.readsAll I ds _ its ha rv
      exact ⟨_, Reads.tuple ho hc hd hr⟩
  | .dict _, _, _, h, _ => by cases h
theorem Dp.readsAll (I : Inv X pins σ H s) : ∀ (ds : List PyData) (vs : List V) (us : List Value), DpAll X.K H vs ds → Vals vs us → ∃ as, ReadsAll s.heap us ds as
  | [], _, _, h, r => by
    cases h
    cases r
    exact ⟨_, ReadsAll.nil⟩
  | d :: ds, _, _, h, r => by
    cases h with
    | cons h1 h2 =>
      cases r with
      | cons r1 r2 =>
        obtain ⟨as, q1⟩ := Dp.reads I d _ _ h1 r1
        obtain ⟨bs, q2⟩ := Dp.readsAll I ds _ _ h2 r2
        exact ⟨_, ReadsAll.cons q1 q2⟩
end
end
section
variable {X : Cx}
def rEqD (K : PySem.W.Frag) : R2 := fun x y H Q => ∃ d e, Dp K H x d ∧ Dp K H y e ∧ SeqAt.shaped d = true ∧ SeqAt.shaped e = true ∧ Q (.bl (PyData.eqv d e)) H
def rNeD (K : PySem.W.Frag) : R2 := fun x y H Q => ∃ d e, Dp K H x d ∧ Dp K H y e ∧ SeqAt.shaped d = true ∧ SeqAt.shaped e = true ∧ Q (.bl (!PyData.eqv d e)) H
end
end L2

namespace L2
open PySem PySem.Spec PyProof.Rows
abbrev CellAt (h : Heap) (c : Addr) (v : Option Value) : Prop := h.IsCell c v
def relS (scope sc : Scope) : Scope :=
  { scope with names := scope.names.map fun (n, k) => if (k == .free && sc.kind == .function && sc.names.lookup n == some .cell) then (n, .cell) else (n, k) }

def cloFrom (cells : List (Str × Addr)) : List (Str × NameKind) → List (Str × Addr) → List (Str × Addr)
  | [], acc => acc
  | (n, k) :: r, acc => if k == .free then cloFrom cells r ((n, (cells.lookup n).getD 0) :: acc) else cloFrom cells r acc

theorem closure_loop (env : Env) (f : Str × NameKind → List (Str × Addr) → Sem (ForInStep (List (Str × Addr))))
    (hf : ∀ n k c, f (n, k) c = if k == .free then (do let a ← cellOf env n; pure (.yield ((n, a) :: c))) else pure (.yield c)) :
    ∀ (names : List (Str × NameKind)) (acc : List (Str × Addr)), (∀ y ∈ names, y.2 = .free → ∃ c, env.cells.lookup y.1 = some c) → forIn names acc f = pure (cloFrom env.cells names acc)
  | [], acc, _ => by rw [List.forIn_nil]; rfl
  | (n, k) :: r, acc, h => by
    rw [List.forIn_cons, hf]
    have ih := fun acc => closure_loop env f hf r acc fun y hy => h y (List.mem_cons_of_mem _ hy)
    unfold cloFrom
    by_cases hk : (k == NameKind.free) = true
    · rw [if_pos hk, if_pos hk]
      obtain ⟨c, hc⟩ := h (n, k) List.mem_cons_self (by simpa using hk)
      have e : cellOf env n = pure c := by unfold cellOf; rw [hc]
      rw [e]
      have e2 : (env.cells.lookup n).getD 0 = c := by rw [hc]; rfl
      rw [e2]
      exact ih _
    · rw [if_neg hk, if_neg hk]
      exact ih _
theorem closure_ok {scope : Scope} {env : Env} (h : ∀ y ∈ scope.names, y.2 = .free → ∃ c, env.cells.lookup y.1 = some c) : closureFor scope env = pure (cloFrom env.cells scope.names []) := by
  simp only [closureFor]
  rw [closure_loop env _ (fun n k c => rfl) scope.names [] h]
  rfl

theorem mem_lookup {α : Type} : ∀ {l : List (Str × α)} {n : Str} {c : α}, (n, c) ∈ l → ∃ c', l.lookup n = some c'
  | (k, v) :: r, n, c, h => by
    rw [List.lookup_cons]
    cases hb : n == k with
    | true => exact ⟨_, rfl⟩
    | false =>
      rcases List.mem_cons.mp h with e | h
      · cases e; simp at hb
      · exact mem_lookup h

theorem cloFrom_mem {cells : List (Str × Addr)} : ∀ {names : List (Str × NameKind)} {acc : List (Str × Addr)} {n : Str} {c : Addr}, (n, c) ∈ cloFrom cells names acc → (n, c) ∈ acc ∨ ((n, .free) ∈ names ∧ c = (cells.lookup n).getD 0)
  | [], _, _, _, h => .inl h
  | (m, k) :: r, acc, n, c, h => by
    unfold cloFrom at h
    split at h
    · rename_i hk
      have hk : k = .free := by simpa using hk
      rcases cloFrom_mem h with h | ⟨h1, h2⟩
      · rcases List.mem_cons.mp h with e | h
        · cases e; exact .inr ⟨hk ▸ List.mem_cons_self, rfl⟩
        · exact .inl h
      · exact .inr ⟨List.mem_cons_of_mem _ h1, h2⟩
    · rcases cloFrom_mem h with h | ⟨h1, h2⟩
      · exact .inl h
      · exact .inr ⟨List.mem_cons_of_mem _ h1, h2⟩
theorem cloFrom_acc {cells : List (Str × Addr)} : ∀ {names : List (Str × NameKind)} {acc : List (Str × Addr)} {p : Str × Addr}, p ∈ acc → p ∈ cloFrom cells names acc
  | [], _, _, h => h
  | (m, k) :: r, acc, p, h => by
    unfold cloFrom
    split
    · exact cloFrom_acc (List.mem_cons_of_mem _ h)
    · exact cloFrom_acc h
theorem cloFrom_has {cells : List (Str × Addr)} : ∀ {names : List (Str × NameKind)} {acc : List (Str × Addr)} {n : Str}, (n, .free) ∈ names → (n, (cells.lookup n).getD 0) ∈ cloFrom cells names acc
  | (m, k) :: r, acc, n, h => by
    unfold cloFrom
    rcases List.mem_cons.mp h with e | h
    · cases e
      exact cloFrom_acc List.mem_cons_self
    · split
      · exact cloFrom_has h
      · exact cloFrom_has h

theorem cells_mem : ∀ {names : List (Str × NameKind)} {h : Heap} {acc : List (Str × Addr)} {x : Str} {c : Addr}, (x, c) ∈ cellsFrom h.objs.size names acc →
    (x, c) ∈ acc ∨ ((x, .cell) ∈ names ∧ h.objs.size ≤ c ∧ CellAt (pushCells h names) c none)
  | [], _, _, _, _, h => .inl h
  | (n, k) :: r, h, acc, x, c, hm => by
    unfold cellsFrom at hm
    unfold pushCells
    split at hm
    · rename_i hk
      rw [if_pos hk]
      have hk : k = .cell := by simpa using hk
      rw [← Heap.size_push h { cls := .type "cell", data := .cell none }] at hm
      rcases cells_mem hm with hm | ⟨h1, h2, h3⟩
      · rcases List.mem_cons.mp hm with e | hm
        · cases e
          exact .inr ⟨hk ▸ List.mem_cons_self, Nat.le_refl _, _, pushCells_keeps r _ _ _ (Heap.get?_push_size _ rfl), rfl⟩
        · exact .inl hm
      · rw [Heap.size_push] at h2
        exact .inr ⟨List.mem_cons_of_mem _ h1, Nat.le_of_succ_le h2, h3⟩
    · rename_i hk
      rw [if_neg hk]
      rcases cells_mem hm with hm | ⟨h1, h2, h3⟩
      · exact .inl hm
      · exact .inr ⟨List.mem_cons_of_mem _ h1, h2, h3⟩
theorem cells_acc : ∀ {names : List (Str × NameKind)} {n : Nat} {acc : List (Str × Addr)} {p : Str × Addr}, p ∈ acc → p ∈ cellsFrom n names acc
  | [], _, _, _, h => h
  | (m, k) :: r, n, acc, p, h => by
    unfold cellsFrom
    split
    · exact cells_acc (List.mem_cons_of_mem _ h)
    · exact cells_acc h
theorem cells_has : ∀ {names : List (Str × NameKind)} {n : Nat} {acc : List (Str × Addr)} {x : Str}, (x, .cell) ∈ names → ∃ c, (x, c) ∈ cellsFrom n names acc
  | (m, k) :: r, n, acc, x, h => by
    unfold cellsFrom
    rcases List.mem_cons.mp h with e | h
    · cases e
      exact ⟨n, cells_acc List.mem_cons_self⟩
    · split
      · exact cells_has h
      · exact cells_has h
theorem cells_inj : ∀ {names : List (Str × NameKind)} {h : Heap} {acc : List (Str × Addr)} {x y : Str} {c : Addr}, (∀ p ∈ acc, p.2 < h.objs.size) → (∀ x y c, (x, c) ∈ acc → (y, c) ∈ acc → x = y) →
    (x, c) ∈ cellsFrom h.objs.size names acc → (y, c) ∈ cellsFrom h.objs.size names acc → x = y
  | [], _, _, _, _, _, _, hi, h1, h2 => hi _ _ _ h1 h2
  | (n, k) :: r, h, acc, x, y, c, hl, hi, h1, h2 => by
    unfold cellsFrom at h1 h2
    split at h1
    · rename_i hk
      rw [if_pos hk] at h2
      rw [← Heap.size_push h { cls := .type "cell", data := .cell none }] at h1 h2
      refine cells_inj (h := h.push _) (fun p hp => ?_) (fun x y c a b => ?_) h1 h2
      · rw [Heap.size_push]
        rcases List.mem_cons.mp hp with rfl | hp
        · exact Nat.lt_succ_self _
        · exact Nat.lt_succ_of_lt (hl p hp)
      · rcases List.mem_cons.mp a with e | a <;> rcases List.mem_cons.mp b with e' | b
        · cases e; cases e'; rfl
        · cases e; exact absurd (hl _ b) (Nat.lt_irrefl _)
        · cases e'; exact absurd (hl _ a) (Nat.lt_irrefl _)
        · exact hi _ _ _ a b
    · rename_i hk
      rw [if_neg hk] at h2
      exact cells_inj hl hi h1 h2

theorem newEnv_comp {M : Model} {A : Around} {E : Value → Shared → Prop} {s : Shared} {scope : Scope} {globals : Addr} {closure : List (Str × Addr)} {qual : Str} {func : Option Addr} {code : Value} {around : Env} {builtins : Addr} {Q : Env → Shared → Prop}
    (h : Q (newEnv scope s.heap.objs.size globals (cellsFrom (s.heap.objs.size + 1) scope.names closure) qual func code (some around) builtins)
      { s with heap := pushCells (s.heap.push { cls := .type "dict", data := .dict #[] }) scope.names }) :
    wpAny M A (newFunctionEnv scope globals closure [] qual func code (some around) builtins) Q E s := by
  simp only [newFunctionEnv, Option.isSome_some, if_true]
  refine wpAny_bind (wpAny_alloc ?_)
  refine wpAny_bind (wpAny_layCells _ (fun n k c => rfl) scope.names closure _ _ ?_)
  rw [show ({ s with heap := s.heap.push { cls := .type "dict", data := .dict #[] } } : Shared).heap.objs.size = s.heap.objs.size + 1 from Heap.size_push ..]
  rw [List.forIn_nil]
  exact wpAny_bind (wpAny_pure (wpAny_pure h))

/-- every name of the written scope, in the scope that runs -/
theorem lookup_relS {sc : Scope} : ∀ {names : List (Str × NameKind)} {x : Str} {k : NameKind},
    (names.map fun (n, k) => if (k == NameKind.free && sc.kind == .function && sc.names.lookup n == some .cell) then (n, NameKind.cell) else (n, k)).lookup x = some k →
    ∃ k', names.lookup x = some k' ∧ (k = k' ∨ (k' = .free ∧ k = .cell))
  | [], _, _, h => by simp at h
  | (n, k₀) :: r, x, k, h => by
    have ih := @lookup_relS sc r x k
    have h' : List.lookup x ((if (k₀ == NameKind.free && sc.kind == .function && sc.names.lookup n == some .cell) = true then (n, NameKind.cell) else (n, k₀)) :: (r.map _)) = some k := h
    cases hx : x == n with
    | true =>
      simp only [List.lookup_cons, hx]
      by_cases hc : (k₀ == NameKind.free && sc.kind == .function && sc.names.lookup n == some .cell) = true
      · rw [if_pos hc] at h'
        simp only [List.lookup_cons, hx] at h'
        cases h'
        simp only [Bool.and_eq_true, beq_iff_eq] at hc
        exact ⟨k₀, rfl, .inr ⟨hc.1.1, rfl⟩⟩
      · rw [if_neg hc] at h'
        simp only [List.lookup_cons, hx] at h'
        cases h'
        exact ⟨_, rfl, .inl rfl⟩
    | false =>
      simp only [List.lookup_cons, hx]
      by_cases hc : (k₀ == NameKind.free && sc.kind == .function && sc.names.lookup n == some .cell) = true
      · rw [if_pos hc] at h'
        simp only [List.lookup_cons, hx] at h'
        exact ih h'
      · rw [if_neg hc] at h'
        simp only [List.lookup_cons, hx] at h'
        exact ih h'



/-- the names of a comprehension's block: its own (with their places in N), or captured -/
structure BlkOk (N : List Str) (sc scope : Scope) (own : List (Str × Nat)) : Prop where
  kind : scope.kind = .function
  uniq : ∀ y ∈ scope.names, scope.names.lookup y.1 = some y.2
  ix : ∀ p ∈ own, N[p.2]? = some p.1
  free : ∀ y ∈ scope.names, y.2 = .free → sc.names.lookup y.1 = some .cell ∨ sc.names.lookup y.1 = some .free
  own : ∀ y ∈ scope.names, y.2 = .local ∨ y.2 = .cell → y.1 ∈ own.map (·.1) ∨ y.1 ∉ N
/-- the slots of the block's own names forgotten -/
def wipe (σ : St) : List Nat → St
  | [] => σ
  | v :: vs => (wipe σ vs).set v none
theorem wipe_length (σ : St) : ∀ vs : List Nat, (wipe σ vs).length = σ.length
  | [] => rfl
  | v :: vs => by unfold wipe; rw [List.length_set, wipe_length σ vs]
theorem wipe_some {σ : St} {i : Nat} {x : V} : ∀ {vs : List Nat}, (wipe σ vs)[i]? = some (some x) → σ[i]? = some (some x) ∧ i ∉ vs
  | [], h => ⟨h, by simp⟩
  | v :: vs, h => by
    unfold wipe at h
    by_cases hi : v = i
    · subst hi
      by_cases hv : v < (wipe σ vs).length
      · rw [List.getElem?_set_self hv] at h; cases h
      · rw [List.getElem?_eq_none (by simpa using hv)] at h; cases h
    · rw [List.getElem?_set_ne hi] at h
      obtain ⟨h1, h2⟩ := wipe_some h
      exact ⟨h1, by simp only [List.mem_cons, not_or]; exact ⟨fun e => hi e.symm, h2⟩⟩

/-- the context of a block that starts at s, its iterator's objects at fp -/
abbrev Cx.blk (X : Cx) (s : Shared) (H : Hp) (scope : Scope) (cenv : Env) (fp : List Addr) : Cx := { X with s_0 := s, H_0 := H, env := cenv, outer := X.stack, ex := fp, fn := fun x => scope.names.lookup x == some .cell, pn := [], xe := fun _ _ => False }
section
variable {X : Cx} {pins : List (Addr × Obj)} {σ : St} {H : Hp} {s : Shared}
theorem block_start {scope : Scope} {own : List (Str × Nat)} {fp : List Addr} (I : Inv X pins σ H s) (ok : BlkOk X.N X.env.scope scope own) (hN : X.N.Nodup) (hfp : ∀ b ∈ fp, FpOk X pins H b ∧ b < s.heap.objs.size) :
    Inv (X.blk s H scope (compEnvC scope (cellsFrom (s.heap.objs.size + 1) scope.names (cloFrom X.env.cells scope.names [])) s.heap.objs.size X.env) fp) [] (wipe σ (own.map (·.2))) H { s with heap := pushCells (s.heap.push { cls := .type "dict", data := .dict #[] }) scope.names } := by
  have hfree : ∀ y ∈ scope.names, y.2 = .free → ∃ c, X.env.cells.lookup y.1 = some c := fun y hy e => by
    rcases ok.free y hy e with k | k
    · exact I.ok.has _ (.inl k)
    · exact I.ok.has _ (.inr k)
  generalize hcenv : compEnvC scope (cellsFrom (s.heap.objs.size + 1) scope.names (cloFrom X.env.cells scope.names [])) s.heap.objs.size X.env = cenv
  have kp : ∀ b o, s.heap.get? b = some o → (pushCells (s.heap.push { cls := .type "dict", data := .dict #[] }) scope.names).get? b = some o := fun b o e => pushCells_keeps _ _ _ _ (Heap.get?_push_of_some _ e)
  have hL : cenv.locals = s.heap.objs.size := by rw [← hcenv]; rfl
  have hcl : cenv.cells = cellsFrom (s.heap.objs.size + 1) scope.names (cloFrom X.env.cells scope.names []) := by rw [← hcenv]; rfl
  have hsc : cenv.scope = relS scope X.env.scope := by rw [← hcenv]; rfl
  rw [← Heap.size_push s.heap { cls := .type "dict", data := .dict #[] }] at hcl
  have cm : ∀ {y c}, (y, c) ∈ cloFrom X.env.cells scope.names [] → X.env.cells.lookup y = some c ∧ c < s.heap.objs.size := fun {y c} hm => by
    rcases cloFrom_mem hm with hm | ⟨h1, rfl⟩
    · cases hm
    · obtain ⟨c, hc⟩ := hfree _ h1 rfl
      rw [hc]
      obtain ⟨w, z⟩ := I.cell _ _ hc
      exact ⟨rfl, z.lt⟩
  have mem : ∀ {y c}, cenv.cells.lookup y = some c → (X.env.cells.lookup y = some c ∧ c < s.heap.objs.size) ∨ (s.heap.objs.size + 1 ≤ c ∧ CellAt (pushCells (s.heap.push { cls := .type "dict", data := .dict #[] }) scope.names) c none) := fun {y c} e => by
    rw [hcl] at e
    rcases cells_mem (PySem.mem_of_lookup e) with hm | ⟨_, h2, h3⟩
    · exact .inl (cm hm)
    · rw [Heap.size_push] at h2; exact .inr ⟨h2, h3⟩
  have look : ∀ {y}, scope.names.lookup y = some .free → ∃ c, cenv.cells.lookup y = some c ∧ X.env.cells.lookup y = some c := fun {y} hl => by
    have hy : (y, NameKind.free) ∈ scope.names := PySem.mem_of_lookup hl
    obtain ⟨c', e'⟩ := mem_lookup (cells_acc (names := scope.names) (n := (s.heap.push { cls := .type "dict", data := .dict #[] }).objs.size) (cloFrom_has (cells := X.env.cells) (acc := []) hy))
    rw [← hcl] at e'
    refine ⟨c', e', ?_⟩
    rw [hcl] at e'
    rcases cells_mem (PySem.mem_of_lookup e') with hm | ⟨h1, _, _⟩
    · exact (cm hm).1
    · have := ok.uniq _ h1
      rw [hl] at this; cases this
  have okB : (X.blk s H scope cenv fp).Ok := by
    refine ⟨I.ok.mod, by show cenv.scope.kind = _; rw [hsc]; exact ok.kind, by show cenv.globals = _; rw [← hcenv]; exact I.ok.glob, by show cenv.builtins = _; rw [← hcenv]; exact I.ok.blt, by show s.heap.objs.size ≤ cenv.locals; rw [hL]; exact Nat.le_refl _,
      fun y z c e1 e2 => ?_, fun y hy => ?_, fun y c z e => ?_, I.ok.hd, I.ok.frames, .inl rfl, fun b hb => ⟨?_, fun y c e z => ?_⟩, I.bs, Nat.le_trans I.ok.bsz I.sz, fun b o e hb => ?_, fun b hb z => ?_, I.stack, I.stkFree⟩
    · have e1 : cenv.cells.lookup y = some c := e1
      have e2 : cenv.cells.lookup z = some c := e2
      rw [hcl] at e1 e2
      refine cells_inj (fun p hp => ?_) (fun y z c a b => I.ok.inj y z c (cm a).1 (cm b).1) (PySem.mem_of_lookup e1) (PySem.mem_of_lookup e2)
      rw [Heap.size_push]
      exact Nat.lt_succ_of_lt (cm (y := p.1) (c := p.2) hp).2
    · show ∃ c, cenv.cells.lookup y = some c
      have key : ∀ k, cenv.kindOf y = some k → (k = .cell ∨ k = .free) → ∃ c, cenv.cells.lookup y = some c := fun k hk hk' => by
        unfold Env.kindOf at hk
        rw [hsc] at hk
        obtain ⟨k', e, r⟩ := lookup_relS hk
        have : k' = .cell ∨ k' = .free := by
          rcases r with rfl | ⟨rfl, _⟩
          · exact hk'
          · exact .inr rfl
        rcases this with rfl | rfl
        · obtain ⟨c, hm⟩ := cells_has (n := (s.heap.push { cls := .type "dict", data := .dict #[] }).objs.size) (acc := cloFrom X.env.cells scope.names []) (PySem.mem_of_lookup e)
          obtain ⟨c', e'⟩ := mem_lookup hm
          exact ⟨c', by rw [hcl]; exact e'⟩
        · obtain ⟨c, h1, _⟩ := look e
          exact ⟨c, h1⟩
      rcases hy with hy | hy
      · exact key _ hy (.inl rfl)
      · exact key _ hy (.inr rfl)
    · have z : (scope.names.lookup y == some NameKind.cell) = true := z
      have z : scope.names.lookup y = some .cell := by simpa using z
      have e : cenv.cells.lookup y = some c := e
      rw [hcl] at e
      rcases cells_mem (PySem.mem_of_lookup e) with hm | ⟨_, h2, _⟩
      · rcases cloFrom_mem hm with hm | ⟨h1, _⟩
        · cases hm
        · have q := ok.uniq _ h1
          rw [z] at q; cases q
      · rw [Heap.size_push] at h2
        exact Nat.le_of_succ_le h2
    · show b ≠ cenv.locals
      rw [hL]; exact Nat.ne_of_lt (hfp b hb).2
    · have e : cenv.cells.lookup y = some c := e
      rcases mem e with ⟨h1, _⟩ | ⟨h1, _⟩
      · exact (hfp b hb).1.2.2.2.2.1 y c h1 z
      · have h2 : s.heap.objs.size + 1 ≤ b := by rw [← z]; exact h1
        exact absurd (Nat.lt_of_lt_of_le (hfp b hb).2 (Nat.le_of_succ_le h2)) (Nat.lt_irrefl _)
    · rcases (hfp b hb).1.2.2.2.1 with z | z
      · exact I.ok.noex b o e z
      · exact absurd (Nat.lt_of_lt_of_le (Heap.lt_size e) (Nat.le_trans I.ok.bsz z)) (Nat.lt_irrefl _)
    · rcases List.mem_cons.mp (I.stkSub b z) with z | z
      · exact (hfp b hb).1.2.1 z
      · exact (hfp b hb).1.2.2.1 z
  refine ⟨okB, rfl, I.bare, Un.kept kp, ⟨fun _ => none, ?_, fun i y av e1 e2 e3 => ?_⟩, fun y c e => ?_, ?_, fun y c e => ?_, fun p hp => ?_, I.hok.kept kp, by rw [wipe_length]; exact I.len⟩
  · show Heap.Ns _ cenv.locals _
    rw [hL]
    exact Heap.Ns.keeps (Heap.Ns.new ..) fun b o e => pushCells_keeps _ _ _ _ e
  · obtain ⟨e2, hne⟩ := wipe_some e2
    have hfr : scope.names.lookup y = some .free ∧ (cenv.kindOf y = some .cell ∨ cenv.kindOf y = some .free) := by
      have key : ∀ k, cenv.scope.names.lookup y = some k → k = .local ∨ k = .cell ∨ k = .free → scope.names.lookup y = some .free ∧ (cenv.kindOf y = some .cell ∨ cenv.kindOf y = some .free) := fun k hk hk' => by
        have hk0 := hk
        rw [hsc] at hk
        obtain ⟨k', e, r⟩ := lookup_relS hk
        have no : ¬ (k' = .local ∨ k' = .cell) := fun hh => by
          rcases ok.own _ (PySem.mem_of_lookup e) hh with e' | e'
          · obtain ⟨p, hp, hpy⟩ := List.mem_map.mp e'
            have e3 := ok.ix p hp
            have : p.1 = y := hpy
            rw [this] at e3
            exact hne (List.mem_map.mpr ⟨p, hp, nodup_ix hN e3 e1⟩)
          · exact e' (List.mem_of_getElem? e1)
        rcases r with rfl | ⟨rfl, rfl⟩
        · rcases hk' with rfl | rfl | rfl
          · exact absurd (.inl rfl) no
          · exact absurd (.inr rfl) no
          · exact ⟨e, .inr hk0⟩
        · exact ⟨e, .inl hk0⟩
      have e3 : Vis cenv.scope y := e3
      rcases e3 with e3 | e3 | e3
      · exact key _ e3 (.inl rfl)
      · exact key _ e3 (.inr (.inl rfl))
      · exact key _ e3 (.inr (.inr rfl))
    obtain ⟨m, hn, hl⟩ := I.loc
    have hvis : Vis X.env.scope y := (ok.free _ (PySem.mem_of_lookup hfr.1) rfl).elim (fun k => .inr (.inl k)) (fun k => .inr (.inr k))
    obtain ⟨w, r, q⟩ := hl i y av e1 e2 hvis
    refine ⟨w, r, .inr ⟨hfr.2, ?_⟩⟩
    obtain ⟨c, h1, h2⟩ := look hfr.1
    rcases q with ⟨k, _⟩ | ⟨_, c', e', z⟩
    · have k : X.env.scope.names.lookup y = some .local := k
      rcases ok.free _ (PySem.mem_of_lookup hfr.1) rfl with k' | k' <;> rw [show X.env.scope.names.lookup y = _ from k'] at k <;> cases k
    · rw [h2] at e'; cases e'
      exact ⟨c, h1, z.keeps kp⟩
  · have e : cenv.cells.lookup y = some c := e
    rcases mem e with ⟨h1, _⟩ | ⟨_, z⟩
    · obtain ⟨w, z⟩ := I.cell y c h1
      exact ⟨w, z.keeps kp⟩
    · exact ⟨_, z⟩
  · show H cenv.locals = none
    rw [hL]; exact I.hok.fresh (Nat.le_refl _)
  · have e : cenv.cells.lookup y = some c := e
    rcases mem e with ⟨h1, _⟩ | ⟨h1, _⟩
    · exact I.freeC y c h1
    · exact I.hok.fresh (Nat.le_of_succ_le h1)
  · exact absurd (show p ∈ ([] : List (Addr × Obj)) ++ [] from hp) (by simp)

/-- an item appended to a tracked list -/
theorem app_ok {E : Value → Shared → Prop} {D : Addr} {xs : List V} {y : V} {v : Value} {Q : Value → Shared → Prop} (I : Inv X pins σ H s) (hD : H D = some (.lst xs)) (hz : xs.length < sizeLine) (r : RelV y v)
    (h : ∀ s', Inv X pins σ (upd H D (.lst (xs ++ [y]))) s' → Q .none s') : wpAny (model X.prog X.w) X.A (call (.builtin "list.append") [.ref D, v]) Q E s := by
  obtain ⟨hz', its, n, ri, e⟩ := I.hok D _ hD
  have hl := ri.length
  refine append_at (hsz := by rw [List.size_toArray]; omega) e fun h' sb ho' => ?_
  refine h { s with heap := h' } (I.write (t' := s.toks) (by rw [hD]; trivial) (.inl rfl) (fun b u hb q => (sb.2 b hb).trans q) ⟨_, ho'⟩ ⟨by rw [List.length_append]; exact hz, its ++ [v], n + 1, ri.append (.cons r .nil), ?_⟩)
  rw [ho']
  simp

/-- a clause's tests -/
def PTs (X : Cx) (ifs : List Expr) (t : TT) : Prop :=
  ∀ (pins : List (Addr × Obj)) (s : Shared) (σ : St) (H : Hp) (Q : Bool → Hp → Prop), Inv X pins σ H s → t σ H Q →
    wpAny (model X.prog X.w) X.A (forIn ifs true fun c r => if r = true then do let ok ← isTrue c X.env (eval c X.env); pure (ForInStep.yield ok) else pure (ForInStep.yield r)) (TP X pins σ Q) X.xe s
def tYes : TT := fun _ H Q => Q true H
theorem pts_nil : PTs X [] tYes := fun _ _ _ H _ I h => wpAny_tests_nil ⟨H, I, h⟩
theorem pts_one {c : Expr} {t : TT} (h : PT X c t) : PTs X [c] t := fun pins s σ H Q I hw => wpAny_tests_one (h pins s σ H Q I hw)
end

theorem thnF {α : Type} {t : Sem α} {Q Q' : α → Shared → Prop} {M : Model} {A : Around} {E : Value → Shared → Prop} {s : Shared} (h : wpAny M A t Q (fun _ _ => False) s) (hQ : ∀ a s, Q a s → Q' a s) : wpAny M A t Q' E s := wpAny_mono h hQ fun _ _ z => False.elim z

/-- the loop of a list comprehension's block, the target of any form (codeAny_compLoop_tests asks a target that no tuple goes to; statement and proof follow it, PyProof/CompMap.lean:41-61, with the step letOwnedTupleGo kept) -/
theorem compLoop_any {prog : Program} {w : World} {A : Around} {R : Result → Shared → Prop} {s : Shared} {elt target iter : Expr} {ifs : List Expr} {scope : Scope} {pos : Pos} {it acc : Value} {env : Env} (I : Nat → Shared → Prop)
    (turn : ∀ n s, I n s → wpAny (model prog w) A (pyNext it) (fun r s₁ => match r with
      | none => R (.ok .next) s₁
      | some v => wpAny (model prog w) A (letOwnedTupleGo target it v) (fun _ s₁' => wpAny (model prog w) A (assign target env v) (fun _ s₂ =>
          wpAny (model prog w) A (forIn ifs true fun c r => if r = true then do let ok ← isTrue c env (eval c env); pure (ForInStep.yield ok) else pure (ForInStep.yield r)) (fun ok s₃ =>
            if ok = true then wpAny (model prog w) A (eval elt env) (fun x s₄ =>
              wpAny (model prog w) A (call (.builtin "list.append") [acc, x]) (fun _ s₅ => ∃ m, m < n ∧ I m s₅) (notedBy (model prog w) A env fun e s' => R (.error e) s') s₄) (notedBy (model prog w) A env fun e s' => R (.error e) s') s₃
            else ∃ m, m < n ∧ I m s₃) (notedBy (model prog w) A env fun e s' => R (.error e) s') s₂) (notedBy (model prog w) A env fun e s' => R (.error e) s') s₁') (notedBy (model prog w) A env fun e s' => R (.error e) s') s₁) (notedBy (model prog w) A env fun e s' => R (.error e) s') s)
    (n : Nat) (h : I n s) :
    codeAny (model prog w) A (.compLoop (.ListComp elt [⟨target, iter, ifs, 0⟩] scope pos) 0 it acc env) R s := by
  refine codeAny_loop rfl I (fun n s hI => ?_) n h
  show wpAny _ A ((compTurn (.ListComp elt [⟨target, iter, ifs, 0⟩] scope pos) 0 it acc env).onRaise (fun x => do noteFrame x env; theTreesLotGoes x)) _ _ s
  refine wpAny_noted ?_
  rw [compTurn_list]
  refine wpAny_bind (wpAny_standAt (wpAny_bind (wpAny_mono (turn n s hI) (fun r s₁ h₁ => ?_) fun _ _ h' => h')))
  cases r with
  | none => exact wpAny_pure h₁
  | some v =>
    refine wpAny_bind (wpAny_mono h₁ (fun _ s₁' h₁' => ?_) fun _ _ h' => h')
    refine wpAny_bind (wpAny_mono h₁' (fun _ s₂ h₂ => wpAny_bind (wpAny_mono h₂ (fun ok s₃ h₃ => ?_) fun _ _ h' => h')) fun _ _ h' => h')
    cases ok with
    | false => exact wpAny_pure ⟨rfl, h₃⟩
    | true =>
      exact wpAny_bind (wpAny_bind (wpAny_mono h₃ (fun x s₄ h₄ => wpAny_bind (wpAny_mono h₄ (fun _ s₅ h₅ => wpAny_pure (wpAny_pure ⟨rfl, h₅⟩)) fun _ _ h' => h')) fun _ _ h' => h'))

section
variable {X : Cx}
/-- [elt for target in iter if ..]: D the new list; W by the turn and a measure, Nx what a turn is to reach -/
def tLc (wi : TI) (g : TG) (tt : TT) (te : TE) (vs : List Nat) : TE := fun σ H Q => wi σ H fun J H1 => ∀ D, H1 D = none → ∃ W : Nat → Nat → Hp → Prop, (∃ m, W 0 m (upd H1 D (.lst []))) ∧ ∀ i m H, W i m H →
  (J.stop i H ∧ Q (.ref D) H) ∨ (J.go i H ∧ ∃ Nx : Hp → Prop, (∀ H', Nx H' → ∃ m', m' < m ∧ W (i + 1) m' H') ∧ ∀ x H', J.yld i H x H' → g x (wipe σ vs) H' fun σ2 H2 => wipe σ2 vs = wipe σ vs ∧ tt σ2 H2 fun b H3 =>
    if b = true then te σ2 H3 fun y H4 => ∃ acc, H4 D = some (.lst acc) ∧ acc.length < sizeLine ∧ Nx (upd H4 D (.lst (acc ++ [y]))) else Nx H3)
theorem lc_core {pins : List (Addr × Obj)} {s : Shared} {σ : St} {H : Hp} {Q : VK} {elt tg iter : Expr} {ifs : List Expr} {scope : Scope} {own : List (Str × Nat)} {pos pos' : Pos} {wi : TI} {g : TG} {tt : TT} {te : TE} {use : Option (Value → Sem Unit)} {Qf : Value → Shared → Prop}
    (hc : X.calm = true) (hN : X.N.Nodup) (I : Inv X pins σ H s) (hi : PI X tg iter wi) (ok : BlkOk X.N X.env.scope scope own)
    (hg : ∀ (s : Shared) (H : Hp) (C : Addr) (cl : List (Str × Addr)) (fp : List Addr), PG (X.blk s H scope (compEnvC scope cl C X.env) fp) tg g) (ht : ∀ (s : Shared) (H : Hp) (C : Addr) (cl : List (Str × Addr)) (fp : List Addr), PTs (X.blk s H scope (compEnvC scope cl C X.env) fp) ifs tt)
    (he : ∀ (s : Shared) (H : Hp) (C : Addr) (cl : List (Str × Addr)) (fp : List Addr), PE (X.blk s H scope (compEnvC scope cl C X.env) fp) elt te) (hs : ∀ x, foldedSetIterable iter X.env x = pure x)
    (h : tLc wi g tt te (own.map (·.2)) σ H Q)
    (hRR : ∀ D C s' m H', Inv X pins σ H' s' → Q (.ref D) H' → s'.heap.Ns C m → FpOk X pins H' C → compPost (model X.prog X.w) X.A X.xe use Qf (.ref D) C (.ok .next) s') :
    wpAny (model X.prog X.w) X.A (comprehension (.ListComp elt [⟨tg, iter, ifs, 0⟩] scope pos) scope X.env pos' (newList []) false (eval iter X.env) use) Qf X.xe s := by
  have hfree : ∀ y ∈ scope.names, y.2 = .free → ∃ c, X.env.cells.lookup y.1 = some c := fun y hy e => by
    rcases ok.free y hy e with k | k
    · exact I.ok.has _ (.inl k)
    · exact I.ok.has _ (.inr k)
  refine wpAny_comprehension_free (use := use) rfl hs (closure_ok hfree) ok.kind (fun y hy e => by rw [ok.uniq y hy, e])
    (thn (hi pins s σ H _ I h) fun xv s1 hx => thn hx fun itv s2 h2 => ?_)
  obtain ⟨it, fp, tn, J, H2, e, I2, T, st2, f2, q⟩ := h2
  subst e
  refine wpAny_newObj_type (newEnv_comp ?_) (by show 0 ≤ sizeLine; decide)
  generalize hD : s2.heap.objs.size = D
  have hDn : H2 D = none := I2.hok.fresh (Nat.le_of_eq hD)
  obtain ⟨W, ⟨m0, w0⟩, turn⟩ := q D hDn
  -- the new list
  generalize hs3 : ({ s2 with heap := s2.heap.push { cls := .type "list", data := .seq ([] : List Value).toArray } } : Shared) = s3
  have I3 : Inv X pins σ (upd H2 D (.lst [])) s3 := by
    rw [← hs3]
    refine I2.laid (t' := s2.toks) (fun b o e => Heap.get?_push_of_some _ e) (Nat.le_of_eq hD) ⟨Nat.zero_le _, [], 0, .nil, ?_⟩
    rw [← hD]
    exact Heap.get?_push_size _ rfl
  have h3 : s3.heap = s2.heap.push { cls := .type "list", data := .seq ([] : List Value).toArray } := by rw [← hs3]
  have sz : ∀ b ∈ fp, b < s2.heap.objs.size := fun b hb => by
    obtain ⟨o, e, _⟩ := T.obj _ _ st2 b hb
    exact Heap.lt_size e
  have f3 : ∀ b ∈ fp, FpOk X pins (upd H2 D (.lst [])) b ∧ b < s3.heap.objs.size := fun b hb => by
    have hlt := sz b hb
    refine ⟨⟨?_, (f2 b hb).2⟩, by rw [h3, Heap.size_push]; exact Nat.lt_succ_of_lt hlt⟩
    rw [upd_ne (by rw [← hD]; exact Nat.ne_of_lt hlt)]
    exact (f2 b hb).1
  have st3 : tn 0 s3.heap := T.keep _ _ _ st2 fun b _ o e => by rw [h3]; exact Heap.get?_push_of_some _ e
  have I4 := block_start I3 ok hN f3
  have pg := hg s3 (upd H2 D (.lst [])) s3.heap.objs.size (cellsFrom (s3.heap.objs.size + 1) scope.names (cloFrom X.env.cells scope.names [])) fp
  have pt := ht s3 (upd H2 D (.lst [])) s3.heap.objs.size (cellsFrom (s3.heap.objs.size + 1) scope.names (cloFrom X.env.cells scope.names [])) fp
  have pe := he s3 (upd H2 D (.lst [])) s3.heap.objs.size (cellsFrom (s3.heap.objs.size + 1) scope.names (cloFrom X.env.cells scope.names [])) fp
  show codeAny _ _ (.compStart (.ListComp elt [⟨tg, iter, ifs, 0⟩] scope pos) 0 (.ref it) (.ref D) (compEnvC scope (cellsFrom (s3.heap.objs.size + 1) scope.names (cloFrom X.env.cells scope.names [])) s3.heap.objs.size X.env)) (compPost (model X.prog X.w) X.A X.xe use Qf (.ref D) s3.heap.objs.size) { s3 with heap := pushCells (s3.heap.push { cls := .type "dict", data := .dict #[] }) scope.names }
  have nfp : ∀ b ∈ fp, (upd H2 D (.lst [])) b = none := fun b hb => (f3 b hb).1.1
  generalize hce : compEnvC scope (cellsFrom (s3.heap.objs.size + 1) scope.names (cloFrom X.env.cells scope.names [])) s3.heap.objs.size X.env = ce at I4 pg pt pe ⊢
  have cL : ce.locals = s3.heap.objs.size := by subst hce; rfl
  generalize hH3 : upd H2 D (.lst []) = H3 at I3 I4 pg pt pe w0 nfp f3
  generalize hs4 : ({ s3 with heap := pushCells (s3.heap.push { cls := .type "dict", data := .dict #[] }) scope.names } : Shared) = s4 at I4 ⊢
  have st4 : tn 0 s4.heap := T.keep _ _ _ st3 fun b _ o e => by rw [← hs4]; exact pushCells_keeps _ _ _ _ (Heap.get?_push_of_some _ e)
  have stat : ∀ {σ' : St} {H' : Hp} {s' : Shared}, Inv (X.blk s3 H3 scope ce fp) [] σ' H' s' → (∀ b ∈ fp, H' b = none) → ∀ b ∈ fp, FpOk (X.blk s3 H3 scope ce fp) [] H' b := fun {σ' H' s'} I' hn b hb =>
    ⟨hn b hb, (I'.ok.exf b hb).1, I'.ok.exfs b hb, .inl hb, fun x c e => (I'.ok.exf b hb).2 x c e, fun p hp => absurd (show p ∈ ([] : List (Addr × Obj)) ++ [] from hp) (by simp)⟩
  have loop : codeAny (model X.prog X.w) X.A (.compLoop (.ListComp elt [⟨tg, iter, ifs, 0⟩] scope pos) 0 (.ref it) (.ref D) ce) (compPost (model X.prog X.w) X.A X.xe use Qf (.ref D) s3.heap.objs.size) s4 := by
    refine compLoop_any (fun n s' => ∃ i H', Inv (X.blk s3 H3 scope ce fp) [] (wipe σ (own.map (·.2))) H' s' ∧ tn i s'.heap ∧ (∀ b ∈ fp, H' b = none) ∧ W i n H') ?_ m0 ⟨0, H3, I4, st4, nfp, w0⟩
    rintro n s5 ⟨i, H5, I5, st5, n5, w5⟩
    rcases turn i n H5 w5 with ⟨stop, qq⟩ | ⟨go, Nx, hNx, step⟩
    · have td := T.done (X.blk s3 H3 scope ce fp) rfl rfl rfl hc i [] s5 _ H5 (fun _ _ => False) I5 (stat I5 n5) st5 stop
      refine thnF td fun r s6 ⟨hr, I6⟩ => ?_
      subst hr
      -- back in the def's context
      have I7 : Inv X pins σ H5 s6 := I3.call' (ch := fp) I6.os I6.base I6.hok I6.bare fun b hb => ⟨(f3 b hb).1.2.2.2.1, (f3 b hb).1.2.1, (f3 b hb).1.2.2.2.2.1, (f3 b hb).1.2.2.2.2.2⟩
      have nC : H5 s3.heap.objs.size = none := by
        have z : H5 ce.locals = none := I6.free
        rw [cL] at z
        exact z
      obtain ⟨m, hn, _⟩ := I6.loc
      have hn : s6.heap.Ns ce.locals m := hn
      rw [cL] at hn
      exact hRR D s3.heap.objs.size s6 m H5 I7 qq hn (I3.fpOk (Nat.le_refl _) nC)
    · have ti := T.item (X.blk s3 H3 scope ce fp) rfl rfl rfl hc i [] s5 _ H5 (fun _ _ => False) I5 (stat I5 n5) st5 go
      refine thnF ti fun r s6 ⟨u, hr, h6⟩ => ?_
      subst hr
      refine thnF h6 fun _ s7 ⟨x, H7, I7, r7, y7, st7, n7⟩ => ?_
      have I7' := I7.pinned (stat I7 n7) (T.obj _ _ st7)
      refine thnF (pg _ s7 _ H7 x u _ I7' r7 (step x H7 y7)) fun _ s8 ⟨σ8, H8, I8, hw8, q8⟩ => ?_
      refine thnF (pt _ s8 σ8 H8 _ I8 q8) fun b s9 ⟨H9, I9, q9⟩ => ?_
      -- the turn's end
      have fin : ∀ {s' : Shared} {H' : Hp}, Inv (X.blk s3 H3 scope ce fp) ([] ++ pinsAt fp s7.heap) σ8 H' s' → Nx H' → ∃ m, m < n ∧ ∃ i H', Inv (X.blk s3 H3 scope ce fp) [] (wipe σ (own.map (·.2))) H' s' ∧ tn i s'.heap ∧ (∀ b ∈ fp, H' b = none) ∧ W i m H' := fun {s' H'} I' nx => by
        obtain ⟨m', hm, w'⟩ := hNx H' nx
        have pin' : ∀ b ∈ fp, ∀ o, s7.heap.get? b = some o → s'.heap.get? b = some o ∧ H' b = none := fun b hb o e =>
          let z := I'.pin (b, o) (List.mem_append_right _ (List.mem_append_right _ (mem_pinsAt hb e)))
          ⟨z.1, z.2.1⟩
        have hl : (wipe σ (own.map (·.2))).length = σ8.length := by rw [← hw8, wipe_length]
        refine ⟨m', hm, i + 1, H', (I'.unpinned (pins := [])).weak hl (fun j v e => ?_), T.keep _ _ _ st7 fun b hb o e => (pin' b hb o e).1, fun b hb => ?_, w'⟩
        · rw [← hw8] at e
          exact (wipe_some e).1
        · obtain ⟨o, e, _⟩ := T.obj _ _ st7 b hb
          exact (pin' b hb o e).2
      cases b with
      | false =>
        simp only [Bool.false_eq_true, if_false] at q9 ⊢
        exact fin I9 q9
      | true =>
        simp only [if_true] at q9 ⊢
        refine thnF (pe _ s9 σ8 H9 _ I9 q9) fun z s10 ⟨yv, H10, I10, r10, acc, hD10, hz10, nx⟩ => ?_
        exact app_ok (X := X.blk s3 H3 scope ce fp) I10 hD10 hz10 r10 fun s11 I11 => fin I11 nx
  exact codeAny_compStart_list loop (T.self X.A 0 _ _ _ st4 loop)
/-- as a value -/
theorem pe_lc {elt tg iter : Expr} {ifs : List Expr} {scope : Scope} {own : List (Str × Nat)} {pos : Pos} {wi : TI} {g : TG} {tt : TT} {te : TE} (hc : X.calm = true) (hN : X.N.Nodup) (hi : PI X tg iter wi) (ok : BlkOk X.N X.env.scope scope own)
    (hg : ∀ (s : Shared) (H : Hp) (C : Addr) (cl : List (Str × Addr)) (fp : List Addr), PG (X.blk s H scope (compEnvC scope cl C X.env) fp) tg g) (ht : ∀ (s : Shared) (H : Hp) (C : Addr) (cl : List (Str × Addr)) (fp : List Addr), PTs (X.blk s H scope (compEnvC scope cl C X.env) fp) ifs tt)
    (he : ∀ (s : Shared) (H : Hp) (C : Addr) (cl : List (Str × Addr)) (fp : List Addr), PE (X.blk s H scope (compEnvC scope cl C X.env) fp) elt te) (hs : ∀ x, foldedSetIterable iter X.env x = pure x := by intro _; rfl) :
    PE X (.ListComp elt [⟨tg, iter, ifs, 0⟩] scope pos) (tLc wi g tt te (own.map (·.2))) := by
  intro pins s σ H Q I h
  rw [eval_ListComp]
  refine lc_core hc hN I hi ok hg ht he hs h fun D C s' m H' I' q hn f => ⟨m, hn, fun h'' sb => ?_⟩
  obtain ⟨f0, f1, f2, f3, f4, f5⟩ := f
  exact ⟨.ref D, H', I'.turned (t' := s'.toks) (fun b o hb e => (sb.2 b hb).trans e) f0 f1 f3 f4 f5, rfl, q⟩
/-- name = [..] on one line, the name a local -/
theorem ps_setLc {i : Nat} {y : Str} {py : Pos} {elt tg iter : Expr} {ifs : List Expr} {scope : Scope} {own : List (Str × Nat)} {pos spos : Pos} {wi : TI} {g : TG} {tt : TT} {te : TE} (hc : X.calm = true) (hN : X.N.Nodup) (hy : X.N[i]? = some y) (hyl : X.env.scope.names.lookup y = some .local)
    (hsw : swapsWith (.ListComp elt [⟨tg, iter, ifs, 0⟩] scope pos) (some (.Name y py)) spos.line X.env = pure true) (hi : PI X tg iter wi) (ok : BlkOk X.N X.env.scope scope own)
    (hg : ∀ (s : Shared) (H : Hp) (C : Addr) (cl : List (Str × Addr)) (fp : List Addr), PG (X.blk s H scope (compEnvC scope cl C X.env) fp) tg g) (ht : ∀ (s : Shared) (H : Hp) (C : Addr) (cl : List (Str × Addr)) (fp : List Addr), PTs (X.blk s H scope (compEnvC scope cl C X.env) fp) ifs tt)
    (he : ∀ (s : Shared) (H : Hp) (C : Addr) (cl : List (Str × Addr)) (fp : List Addr), PE (X.blk s H scope (compEnvC scope cl C X.env) fp) elt te) (hs : ∀ x, foldedSetIterable iter X.env x = pure x := by intro _; rfl) :
    PS X (.Assign [.Name y py] (.ListComp elt [⟨tg, iter, ifs, 0⟩] scope pos) spos) (tAsg (tLc wi g tt te (own.map (·.2))) (gName i)) := by
  intro pins s σ H D I h
  rw [exec_Assign_Name_used _ _ _ _ hsw]
  refine wpAny_bind (wpAny_standAt (wpAny_bind ?_))
  show wpAny _ X.A (do let _ ← comprehension (.ListComp elt [⟨tg, iter, ifs, 0⟩] scope pos) scope X.env (firstIterPos [⟨tg, iter, ifs, 0⟩] pos) (newList []) false (eval iter X.env) (some (assign (.Name y py) X.env))) _ _ s
  have h : tLc wi g tt te (own.map (·.2)) σ H (fun x H1 => gName i x σ H1 D.nx) := h
  refine wpAny_bind (thn (lc_core (Qf := fun _ s' => SP X pins D .next s') hc hN I hi ok hg ht he hs h fun L C s' m H' I' q hn f => ?_) fun _ s' hq => wpAny_pure (wpAny_pure hq))
  show wpAny _ _ (assign (.Name y py) X.env (.ref L)) _ _ _
  refine wpAny_assign_Name (store_ok2 (v := V.ref L) I' hN hy (.inl hyl) rfl (fun s2 I2 ⟨a, sb, ha⟩ => ?_) (.inr hyl))
  obtain ⟨f0, f1, f2, f3, f4, f5⟩ := f
  have haC : C ≠ a := by
    rcases ha with z | z
    · rw [z]; exact f1
    · exact fun e => f4 y a z e.symm
  refine ⟨m, hn.sameBut sb haC, fun h3 sb3 => ?_⟩
  exact ⟨_, H', I2.turned (t' := s2.toks) (fun b o hb e => (sb3.2 b hb).trans e) f0 f1 f3 f4 f5, q⟩
theorem sw_true {elt : Expr} {gs : List Comprehension} {scope : Scope} {pos py : Pos} {y : Str} {l : Nat} {env : Env} (hk : env.scope.kind = .function) (hy : env.scope.names.lookup y = some .local) (hl : (py.line == pos.line) = true)
    (ha : (scope.names.any fun (n, k) => n == y && (k == .local || k == .cell)) = false) : swapsWith (.ListComp elt gs scope pos) (some (.Name y py)) l env = pure true := by
  have ky : env.kindOf y = some .local := hy
  have hb : env.blockKind = .function := by unfold Env.blockKind; rw [hk]; rfl
  unfold swapsWith
  simp only [hb, ky, ha, Expr.pos, hl]
  rfl
end

/-! ### the forms one uses -/
/-- over a list that the block leaves as it is -/
theorem lc_list {K : PySem.W.Frag} {a : Addr} {xs : List V} {g : TG} {tt : TT} {te : TE} {vs : List Nat} {σ : St} {H1 : Hp} {D : Addr} {Qd : Hp → Prop} (Pv : Nat → Hp → Prop) (h0 : Pv 0 (upd H1 D (.lst []))) (hl : ∀ i H, i ≤ xs.length → Pv i H → SqL K H a xs)
    (hs : ∀ i x H, xs[i]? = some x → Pv i H → g x (wipe σ vs) H fun σ2 H2 => wipe σ2 vs = wipe σ vs ∧ tt σ2 H2 fun b H3 =>
      if b = true then te σ2 H3 fun y H4 => ∃ acc, H4 D = some (.lst acc) ∧ acc.length < sizeLine ∧ Pv (i + 1) (upd H4 D (.lst (acc ++ [y]))) else Pv (i + 1) H3) (hd : ∀ H, Pv xs.length H → Qd H) :
    ∃ W : Nat → Nat → Hp → Prop, (∃ m, W 0 m (upd H1 D (.lst []))) ∧ ∀ i m H, W i m H →
      ((Itl K a).stop i H ∧ Qd H) ∨ ((Itl K a).go i H ∧ ∃ Nx : Hp → Prop, (∀ H', Nx H' → ∃ m', m' < m ∧ W (i + 1) m' H') ∧ ∀ x H', (Itl K a).yld i H x H' → g x (wipe σ vs) H' fun σ2 H2 => wipe σ2 vs = wipe σ vs ∧ tt σ2 H2 fun b H3 =>
        if b = true then te σ2 H3 fun y H4 => ∃ acc, H4 D = some (.lst acc) ∧ acc.length < sizeLine ∧ Nx (upd H4 D (.lst (acc ++ [y]))) else Nx H3) := by
  refine ⟨fun i m H => m = xs.length - i ∧ i ≤ xs.length ∧ Pv i H, ⟨xs.length, by simp, Nat.zero_le _, h0⟩, ?_⟩
  rintro i m H ⟨rfl, hi, p⟩
  have q := hl i H hi p
  by_cases hlt : i < xs.length
  · refine .inr ⟨⟨xs, xs[i], q, by simp [hlt]⟩, Pv (i + 1), fun H' p' => ⟨xs.length - (i + 1), by omega, rfl, hlt, p'⟩, fun x H' y => ?_⟩
    obtain ⟨e, y⟩ := y
    subst e
    exact hs i x _ (y xs q) p
  · have e : i = xs.length := by omega
    subst e
    exact .inl ⟨⟨xs, q, Nat.le_refl _⟩, hd H p⟩
def blkC (N : List Str) (sc scope : Scope) (own : List (Str × Nat)) : Bool :=
  (match scope.kind with | .function => true | _ => false) && (scope.names.all fun y => decide (scope.names.lookup y.1 = some y.2)) && (own.all fun p => decide (N[p.2]? = some p.1)) &&
    (scope.names.all fun y => match y.2 with
      | .free => (match sc.names.lookup y.1 with | some .cell => true | some .free => true | _ => false)
      | .local => decide (y.1 ∈ own.map (·.1)) || decide (y.1 ∉ N)
      | .cell => decide (y.1 ∈ own.map (·.1)) || decide (y.1 ∉ N)
      | _ => true)
theorem blkOk_by {N : List Str} {sc scope : Scope} {own : List (Str × Nat)} (h : blkC N sc scope own = true) : BlkOk N sc scope own := by
  unfold blkC at h
  simp only [Bool.and_eq_true, List.all_eq_true, decide_eq_true_eq] at h
  obtain ⟨⟨⟨h1, h2⟩, h3⟩, h4⟩ := h
  refine ⟨?_, h2, h3, fun y hy e => ?_, fun y hy e => ?_⟩
  · split at h1
    · assumption
    · cases h1
  · have q := h4 y hy
    simp only [e] at q
    split at q <;> first | exact .inl (by assumption) | exact .inr (by assumption) | cases q
  · have q := h4 y hy
    rcases e with e | e <;> (simp only [e, Bool.or_eq_true, decide_eq_true_eq] at q; exact q)
end L2

namespace L2
open PySem PySem.Spec PyProof.Rows


section
variable {prog : Program} {w : World} {A : Around} {R : Result → Shared → Prop} {s : Shared} {elt t0 i0 t1 i1 : Expr} {ifs0 ifs1 : List Expr} {scope : Scope} {pos : Pos} {it acc : Value} {env : Env}
end

section
variable {X : Cx}
/-- [elt for tg in iter if .. for tg1 in iter1 if ..]: behind the first clause's store and tests the second source's own loop, from which Nx is reached. vs: the block's names; vs1: those of the second target -/
def tLc2 (wi : TI) (g : TG) (tt : TT) (wi1 : TI) (g1 : TG) (tt1 : TT) (te : TE) (vs vs1 : List Nat) : TE := fun σ H Q => wi σ H fun J H1 => ∀ D, H1 D = none → ∃ W : Nat → Nat → Hp → Prop, (∃ m, W 0 m (upd H1 D (.lst []))) ∧ ∀ i m H, W i m H →
  (J.stop i H ∧ Q (.ref D) H) ∨ (J.go i H ∧ ∃ Nx : Hp → Prop, (∀ H', Nx H' → ∃ m', m' < m ∧ W (i + 1) m' H') ∧ ∀ x H', J.yld i H x H' → g x (wipe σ vs) H' fun σ2 H2 => wipe σ2 vs = wipe σ vs ∧ tt σ2 H2 fun b H3 =>
    if b = true then wi1 σ2 H3 fun J1 H4 => ∃ W1 : Nat → Nat → Hp → Prop, (∃ m, W1 0 m H4) ∧ ∀ j k H, W1 j k H →
      (J1.stop j H ∧ Nx H) ∨ (J1.go j H ∧ ∃ Nx1 : Hp → Prop, (∀ H', Nx1 H' → ∃ k', k' < k ∧ W1 (j + 1) k' H') ∧ ∀ x H', J1.yld j H x H' → g1 x (wipe σ2 vs1) H' fun σ3 H5 => wipe σ3 vs1 = wipe σ2 vs1 ∧ tt1 σ3 H5 fun b H6 =>
        if b = true then te σ3 H6 fun y H7 => ∃ acc, H7 D = some (.lst acc) ∧ acc.length < sizeLine ∧ Nx1 (upd H7 D (.lst (acc ++ [y]))) else Nx1 H6)
    else Nx H3)
end
end L2

namespace L2
open PySem PySem.Spec PyProof.Rows

/-! ### lists of pairs as tables -/
section
variable {κ : Type} [DecidableEq κ]
def valV (kvs : List (κ × V)) (k : κ) : Option V := (kvs.find? fun kv => decide (kv.1 = k)).map (·.2)
/-- in its place, or at the end -/
def putK (kvs : List (κ × V)) (k : κ) (v : V) : List (κ × V) :=
  if (kvs.any fun kv => decide (kv.1 = k)) = true then kvs.map (fun kv => if kv.1 = k then (kv.1, v) else kv) else kvs ++ [(k, v)]
def dropK (kvs : List (κ × V)) (k : κ) : List (κ × V) := kvs.filter fun kv => decide (kv.1 ≠ k)

theorem valV_pos {p : κ × V} {r : List (κ × V)} {k : κ} (e : p.1 = k) : valV (p :: r) k = some p.2 := by simp [valV, List.find?_cons, e]
theorem valV_neg {p : κ × V} {r : List (κ × V)} {k : κ} (e : ¬ p.1 = k) : valV (p :: r) k = valV r k := by simp [valV, List.find?_cons, e]
theorem valV_any (k : κ) : ∀ kvs : List (κ × V), (kvs.any fun kv => decide (kv.1 = k)) = (valV kvs k).isSome
  | [] => rfl
  | p :: r => by
    rw [List.any_cons]
    by_cases e : p.1 = k
    · simp only [valV_pos e, decide_eq_true e, Bool.true_or, Option.isSome_some]
    · rw [valV_neg e, decide_eq_false e, Bool.false_or]; exact valV_any k r

theorem RelO.isSome_eq {o : Option V} {u : Option Value} (r : RelO o u) : o.isSome = u.isSome := by
  cases o with
  | none => cases u with
    | none => rfl
    | some _ => exact (show False from r).elim
  | some _ => cases u with
    | none => exact (show False from r).elim
    | some _ => rfl
theorem RelO.getD {o : Option V} {u : Option Value} {d : V} {d' : Value} (r : RelO o u) (rd : RelV d d') : RelV (o.getD d) (u.getD d') := by
  cases o with
  | none => cases u with
    | none => exact rd
    | some _ => exact (show False from r).elim
  | some _ => cases u with
    | none => exact (show False from r).elim
    | some _ => exact r

/-- raw tables of the same keys -/
theorem KV.val {kvs : List (κ × V)} {vs : List (κ × Value)} (r : KV kvs vs) (k : κ) : RelO (valV kvs k) (valueAt vs k) := by
  unfold KV at r
  induction r with
  | nil => exact True.intro
  | @cons p q ps qs h t ih =>
    obtain ⟨h1, h2⟩ := h
    by_cases e : p.1 = k
    · have e' : q.1 = k := h1.symm.trans e
      have b : valueAt (q :: qs) k = some q.2 := by simp [valueAt, List.find?_cons, e']
      rw [valV_pos e, b]; exact h2
    · have e' : ¬ q.1 = k := fun z => e (h1.trans z)
      have b : valueAt (q :: qs) k = valueAt qs k := by simp [valueAt, List.find?_cons, e']
      rw [valV_neg e, b]; exact ih
theorem KV.any {kvs : List (κ × V)} {vs : List (κ × Value)} (r : KV kvs vs) (k : κ) : (kvs.any fun kv => decide (kv.1 = k)) = vs.any fun kv => decide (kv.1 = k) := by
  unfold KV at r
  induction r with
  | nil => rfl
  | cons h t ih => rw [List.any_cons, List.any_cons, ih, h.1]
theorem KV.repl {kvs : List (κ × V)} {vs : List (κ × Value)} (r : KV kvs vs) (k : κ) {y : V} {u : Value} (ry : RelV y u) :
    KV (kvs.map fun kv => if kv.1 = k then (kv.1, y) else kv) (vs.map fun kv => if kv.1 = k then (kv.1, u) else kv) := by
  unfold KV at r ⊢
  induction r with
  | nil => exact .nil
  | @cons p q ps qs h t ih =>
    rw [List.map_cons, List.map_cons]
    refine .cons ?_ ih
    obtain ⟨h1, h2⟩ := h
    by_cases e : p.1 = k
    · rw [if_pos e, if_pos (h1.symm.trans e)]; exact ⟨h1, ry⟩
    · rw [if_neg e, if_neg (fun z => e (h1.trans z))]; exact ⟨h1, h2⟩
theorem KV.put {kvs : List (κ × V)} {vs : List (κ × Value)} (r : KV kvs vs) (k : κ) {y : V} {u : Value} (ry : RelV y u) : KV (putK kvs k y) (stored vs k u) := by
  unfold putK stored
  rw [r.any k]
  by_cases e : (vs.any fun kv => decide (kv.1 = k)) = true
  · rw [if_pos e, if_pos e]; exact r.repl k ry
  · rw [if_neg e, if_neg e]; exact Paired.snoc r ⟨rfl, ry⟩
theorem KV.drop {kvs : List (κ × V)} {vs : List (κ × Value)} (r : KV kvs vs) (k : κ) : KV (dropK kvs k) (without vs k) := by
  unfold KV at r ⊢
  unfold dropK without
  induction r with
  | nil => exact .nil
  | @cons p q ps qs h t ih =>
    obtain ⟨h1, h2⟩ := h
    rw [List.filter_cons, List.filter_cons]
    by_cases e : p.1 = k
    · have a : ¬ decide (p.1 ≠ k) = true := by simp [e]
      have b : ¬ decide (q.1 ≠ k) = true := by simp [h1.symm.trans e]
      rw [if_neg a, if_neg b]; exact ih
    · have e' : ¬ q.1 = k := fun z => e (h1.trans z)
      have a : decide (p.1 ≠ k) = true := by simp [e]
      have b : decide (q.1 ≠ k) = true := by simp [e']
      rw [if_pos a, if_pos b]; exact .cons ⟨h1, h2⟩ ih
theorem KV.keys {kvs : List (κ × V)} {vs : List (κ × Value)} (r : KV kvs vs) : kvs.map (·.1) = vs.map (·.1) := by
  unfold KV at r
  induction r with
  | nil => rfl
  | cons h t ih => rw [List.map_cons, List.map_cons, ih, h.1]
theorem KV.length {kvs : List (κ × V)} {vs : List (κ × Value)} (r : KV kvs vs) : kvs.length = vs.length := Paired.length r
end


/-! ### a tracked dict, its keys ints and texts or tuples of these -/

/-- raw entries of a dict with tuple keys -/
abbrev KT (H : Hp) : List (List Key × V) → List (List Key × Addr × Value) → Prop := Paired fun p q => p.1 = q.1 ∧ H q.2.1 = some (.tup (p.1.map kV)) ∧ RelV p.2 q.2.2
theorem KT.val {H : Hp} {kvs : List (List Key × V)} {xs : List (List Key × Addr × Value)} (r : KT H kvs xs) (k : List Key) : RelO (valV kvs k) ((atKey xs k).map (·.2)) := by
  induction r with
  | nil => exact True.intro
  | @cons p q ps qs h t ih =>
    obtain ⟨h1, _, h2⟩ := h
    by_cases e : p.1 = k
    · have e' : q.1 = k := h1.symm.trans e
      have b : atKey (q :: qs) k = some q.2 := by simp [atKey, List.find?_cons, e']
      rw [valV_pos e, b]; exact h2
    · have e' : ¬ q.1 = k := fun z => e (h1.trans z)
      have b : atKey (q :: qs) k = atKey qs k := by simp [atKey, List.find?_cons, e']
      rw [valV_neg e, b]; exact ih
theorem KT.repl {H : Hp} {kvs : List (List Key × V)} {xs : List (List Key × Addr × Value)} (r : KT H kvs xs) (k : List Key) {y : V} {u : Value} (ry : RelV y u) :
    KT H (kvs.map fun kv => if kv.1 = k then (kv.1, y) else kv) (xs.map (putAt k u)) := by
  induction r with
  | nil => exact .nil
  | @cons p q ps qs h t ih =>
    rw [List.map_cons, List.map_cons]
    refine .cons ?_ ih
    obtain ⟨h1, h2, h3⟩ := h
    unfold putAt
    by_cases e : p.1 = k
    · rw [if_pos e, if_pos (h1.symm.trans e)]; exact ⟨h1, h2, ry⟩
    · rw [if_neg e, if_neg (fun z => e (h1.trans z))]; exact ⟨h1, h2, h3⟩
theorem KT.put {H : Hp} {kvs : List (List Key × V)} {xs : List (List Key × Addr × Value)} (r : KT H kvs xs) (k : List Key) {b : Addr} {y : V} {u : Value} (hb : H b = some (.tup (k.map kV))) (ry : RelV y u) :
    KT H (putK kvs k y) (storedH xs k b u) := by
  have e : (kvs.any fun kv => decide (kv.1 = k)) = (atKey xs k).isSome := by
    rw [valV_any, (r.val k).isSome_eq, Option.isSome_map]
  unfold putK storedH
  rw [e]
  by_cases q : (atKey xs k).isSome = true
  · rw [if_pos q, if_pos q]; exact r.repl k ry
  · rw [if_neg q, if_neg q]; exact Paired.snoc r ⟨rfl, hb, ry⟩
theorem KT.keeps {H H' : Hp} {kvs : List (List Key × V)} {xs : List (List Key × Addr × Value)} (r : KT H kvs xs) (ht : ∀ b ys, H b = some (.tup ys) → H' b = some (.tup ys)) : KT H' kvs xs :=
  Paired.mapP r fun _ _ z => ⟨z.1, ht _ _ z.2.1, z.2.2⟩

section
variable {P : Program} {w : World} {H : Hp} {h : Heap} {a : Addr}
end

/-- what the dict at a holds at the key y -/
def DGet (H : Hp) (a : Addr) (y : V) (r : Option V) : Prop :=
  (∃ kvs k, Rd H a (.dK kvs) ∧ y = kV k ∧ r = valV kvs k) ∨ ∃ kvs k b, Rd H a (.dT kvs) ∧ y = .ref b ∧ H b = some (.tup (k.map kV)) ∧ r = valV kvs k
/-- the heap behind a[y] = v -/
def DPut (H : Hp) (a : Addr) (y v : V) (H' : Hp) : Prop :=
  (∃ kvs k, H a = some (.dK kvs) ∧ y = kV k ∧ kvs.length < sizeLine ∧ H' = upd H a (.dK (putK kvs k v))) ∨
  ∃ kvs k b, H a = some (.dT kvs) ∧ y = .ref b ∧ H b = some (.tup (k.map kV)) ∧ kvs.length < sizeLine ∧ H' = upd H a (.dT (putK kvs k v))
theorem DGet.k {H : Hp} {a : Addr} {kvs : List (Key × V)} {k : Key} (e : H a = some (.dK kvs)) : DGet H a (kV k) (valV kvs k) := .inl ⟨kvs, k, .inl e, rfl, rfl⟩
theorem DGet.t {H : Hp} {a b : Addr} {kvs : List (List Key × V)} {k : List Key} (e : H a = some (.dT kvs)) (eb : H b = some (.tup (k.map kV))) : DGet H a (.ref b) (valV kvs k) := .inr ⟨kvs, k, b, .inl e, rfl, eb, rfl⟩
theorem DPut.k {H : Hp} {a : Addr} {kvs : List (Key × V)} {k : Key} {v : V} (e : H a = some (.dK kvs)) (hl : kvs.length < sizeLine) : DPut H a (kV k) v (upd H a (.dK (putK kvs k v))) := .inl ⟨kvs, k, e, rfl, hl, rfl⟩
theorem DPut.t {H : Hp} {a b : Addr} {kvs : List (List Key × V)} {k : List Key} {v : V} (e : H a = some (.dT kvs)) (eb : H b = some (.tup (k.map kV))) (hl : kvs.length < sizeLine) :
    DPut H a (.ref b) v (upd H a (.dT (putK kvs k v))) := .inr ⟨kvs, k, b, e, rfl, eb, hl, rfl⟩


section
variable {X : Cx} {pins : List (Addr × Obj)} {σ : St} {H : Hp} {s : Shared} {a : Addr} {y v : V} {u r : Value} {o : Option V} {A : Around} {E : Value → Shared → Prop}

theorem Inv.big (I : Inv X pins σ H s) : sysModules < s.heap.objs.size := by
  have h : mainGlobals < s.heap.objs.size := (I.mod.glob.keeps I.bk).lt
  exact Nat.lt_trans (by decide) h

end

section
variable {X : Cx} {pins : List (Addr × Obj)} {σ : St} {H : Hp} {s : Shared} {a : Addr} {kvs : List (Key × V)} {k : Key} {u : Value} {A : Around} {E : Value → Shared → Prop}
end


/-! ### readings and rules -/
/-- the element of a subscription, not a slice -/
def NoSl (i : Expr) : Prop := ∀ ov iv, subscripted i false ov iv = operate [ov, iv] (getItem ov iv)


/-- d[y] -/
def tDGet (td ty : TE) : TE := fun σ H Q => td σ H fun x H1 => ty σ H1 fun y H2 => ∃ a v, x = .ref a ∧ DGet H2 a y (some v) ∧ Q v H2
/-- y in d, y not in d -/
def tDIn (ty td : TE) : TE := fun σ H Q => ty σ H fun y H1 => td σ H1 fun x H2 => ∃ a o, x = .ref a ∧ DGet H2 a y o ∧ Q (.bl o.isSome) H2
def tDNotIn (ty td : TE) : TE := fun σ H Q => ty σ H fun y H1 => td σ H1 fun x H2 => ∃ a o, x = .ref a ∧ DGet H2 a y o ∧ Q (.bl (!o.isSome)) H2
/-- d[y] = v -/
def sDPut (td ty tv : TE) : TS := fun D σ H => tv σ H fun v H1 => td σ H1 fun x H2 => ty σ H2 fun y H3 => ∃ a H4, x = .ref a ∧ DPut H3 a y v H4 ∧ D.nx σ H4
/-- d[y] op= v -/
def sDAug (td ty tv : TE) (rd : V → V → Hp → VK → Prop) : TS := fun D σ H => td σ H fun x H1 => ty σ H1 fun y H2 => ∃ a v, x = .ref a ∧ DGet H2 a y (some v) ∧
  tv σ H2 fun y2 H3 => rd v y2 H3 fun z H4 => ∃ H5, DPut H4 a y z H5 ∧ D.nx σ H5
/-- del d[y] -/
def sDDel (td ty : TE) : TS := fun D σ H => td σ H fun x H1 => ty σ H1 fun y H2 => ∃ a kvs k, x = .ref a ∧ H2 a = some (.dK kvs) ∧ y = kV k ∧ (valV kvs k).isSome = true ∧ D.nx σ (upd H2 a (.dK (dropK kvs k)))

section
variable {X : Cx} {o i e value : Expr} {pos pos' tpos : Pos} {td ty tv : TE}
end


/-! ### displays -/
/-- {}, to be a dict of the kind that is wanted -/
def tDNewK : TE := fun _ H Q => ∀ p, H p = none → Q (.ref p) (upd H p (.dK []))
def tDNewT : TE := fun _ H Q => ∀ p, H p = none → Q (.ref p) (upd H p (.dT []))
section
variable {X : Cx} {pos : Pos}
end

/-- the pairs of a display, from the left -/
def tPairs : List (TE × TE) → St → Hp → (List (V × V) → Hp → Prop) → Prop
  | [], _, H, Q => Q [] H
  | (tk, tv) :: r, σ, H, Q => tk σ H fun x H1 => tv σ H1 fun y H2 => tPairs r σ H2 fun ps H3 => Q ((x, y) :: ps) H3
abbrev VV : List (V × V) → List (Value × Value) → Prop := Paired fun p q => RelV p.1 q.1 ∧ RelV p.2 q.2
def PPs (X : Cx) (pos : Pos) (keys : List (Option Expr)) (values : List Expr) (trs : List (TE × TE)) : Prop :=
  ∀ (pins : List (Addr × Obj)) (s : Shared) (σ : St) (H : Hp) (Q : List (V × V) → Hp → Prop), Inv X pins σ H s → tPairs trs σ H Q →
    wpAny (model X.prog X.w) X.A (evalPairs (pairTrees keys values X.env pos)) (fun vs s' => ∃ ps H', Inv X pins σ H' s' ∧ VV ps vs ∧ Q ps H') X.xe s

def mergeK (kvs more : List (Key × V)) : List (Key × V) := more.foldl (fun acc kv => putK acc kv.1 kv.2) kvs
/-- {k: v, ..} with keys ints and texts; the new dict stands empty while the pairs are made -/
def tDisp (trs : List (TE × TE)) : TE := fun σ H Q => ∀ p, H p = none → tPairs trs σ (upd H p (.dK [])) fun ps H2 => H2 p = some (.dK []) ∧ ∃ kvs : List (Key × V), ps = kvs.map (fun kv => (kV kv.1, kv.2)) ∧ kvs.length ≤ 15 ∧ Q (.ref p) (upd H2 p (.dK (mergeK [] kvs)))


/-! ### methods -/
/-- a method call o.m(e) of a built-in, with one argument: what must be seen of the text -/
structure M1 (X : Cx) (o : Expr) (m : Str) (apos : Pos) (e : Expr) (cpos : Pos) : Prop where
  base : attributeBase o m X.env (eval o X.env) = eval o X.env
  few : ((backTo cpos (starEach [e] X.env)).all (fun x => !x.1) && (backToKw cpos (keywordEach [] X.env)).all (fun x => x.1.isSome)
    && decide (([e] : List Expr).length + ([] : List Keyword).length + (if ([] : List Keyword).isEmpty then 0 else 1) < 30)) = true
  line : (apos.endLine == cpos.line) = true
  trees : backTo cpos (starEach [e] X.env) = [(false, eval e X.env)]
structure M2 (X : Cx) (o : Expr) (m : Str) (apos : Pos) (e f : Expr) (cpos : Pos) : Prop where
  base : attributeBase o m X.env (eval o X.env) = eval o X.env
  few : ((backTo cpos (starEach [e, f] X.env)).all (fun x => !x.1) && (backToKw cpos (keywordEach [] X.env)).all (fun x => x.1.isSome)
    && decide (([e, f] : List Expr).length + ([] : List Keyword).length + (if ([] : List Keyword).isEmpty then 0 else 1) < 30)) = true
  line : (apos.endLine == cpos.line) = true
  trees : backTo cpos (starEach [e, f] X.env) = [(false, eval e X.env), (false, eval f X.env)]

/-- a is a dict, whatever its keys -/
def IsD (H : Hp) (a : Addr) : Prop := (∃ kvs, Rd H a (.dK kvs)) ∨ ∃ kvs, Rd H a (.dT kvs)

section
variable {X : Cx} {pins : List (Addr × Obj)} {σ : St} {H : Hp} {s : Shared} {a : Addr} {y d : V} {u r : Value} {o : Option V} {A : Around} {E : Value → Shared → Prop}
end

def tDGet1 (td ty : TE) : TE := fun σ H Q => td σ H fun x H1 => ∃ a, x = .ref a ∧ IsD H1 a ∧ ty σ H1 fun y H2 => ∃ o, DGet H2 a y o ∧ Q (o.getD .non) H2
def tDGet2 (td ty tx : TE) : TE := fun σ H Q => td σ H fun x H1 => ∃ a, x = .ref a ∧ IsD H1 a ∧ ty σ H1 fun y H2 => tx σ H2 fun z H3 => ∃ o, DGet H3 a y o ∧ Q (o.getD z) H3
/-- d.pop(k): there; d.pop(k, x): there or not -/
def tDPop1 (td ty : TE) : TE := fun σ H Q => td σ H fun x H1 => ∃ a, x = .ref a ∧ IsD H1 a ∧ ty σ H1 fun y H2 => ∃ kvs k v, H2 a = some (.dK kvs) ∧ y = kV k ∧ valV kvs k = some v ∧ Q v (upd H2 a (.dK (dropK kvs k)))
def tDPop2 (td ty tx : TE) : TE := fun σ H Q => td σ H fun x H1 => ∃ a, x = .ref a ∧ IsD H1 a ∧ ty σ H1 fun y H2 => tx σ H2 fun z H3 => ∃ kvs k, H3 a = some (.dK kvs) ∧ y = kV k ∧
  (∀ v, valV kvs k = some v → Q v (upd H3 a (.dK (dropK kvs k)))) ∧ (valV kvs k = none → Q z H3)
section
variable {X : Cx} {o e f : Expr} {apos cpos : Pos} {td ty tx : TE}
end

/-! ### dict(d): a copy -/
section
variable {X : Cx} {pins : List (Addr × Obj)} {σ : St} {H : Hp} {s : Shared} {a : Addr} {kvs : List (Key × V)} {A : Around} {E : Value → Shared → Prop}
end


section
variable {X : Cx} {pins : List (Addr × Obj)} {σ : St} {H : Hp} {s : Shared} {a : Addr} {y : V} {u : Value} {A : Around} {E : Value → Shared → Prop}
end
end L2

namespace L2
open PySem PySem.Spec PyProof.Rows


section
variable {prog : Program} {w : World} {A : Around} {E : Value → Shared → Prop}


end

section
variable {X : Cx}
end
end L2

namespace L2
open PySem PySem.Spec PyProof.Rows

theorem boot_reversed5 : bootBuiltins "reversed" = some (.type "reversed") := by decide +kernel

section
variable {X : Cx} {pins : List (Addr × Obj)} {σ : St} {H : Hp} {s : Shared} {h' : Heap}
/-- several records of ours have turned -/
theorem Inv.turnedL {t' : Nat} {ch : List Addr} (I : Inv X pins σ H s) (k : ∀ b o, b ∉ ch → s.heap.get? b = some o → h'.get? b = some o) (hf : ∀ b ∈ ch, FpOk X pins H b) : Inv X pins σ H { s with heap := h', toks := t' } := by
  have nit : ∀ b u, H b = some u → b ∉ ch := fun b u e z => by
    have q := (hf b z).1
    rw [q] at e; cases e
  refine I.step (g' := s.gens) (d' := s.drawn) (ch := ch) (fun b hb => ⟨(hf b hb).2.2.2.1, (hf b hb).2.1, (hf b hb).2.2.2.2.1, (hf b hb).2.2.2.2.2⟩) (fun b o _ _ hc e _ => k b o hc e) (fun b o _ _ hc e _ => ⟨o.slots, k b o hc e⟩)
    (fun _ _ _ _ n => n) (fun b o hc e => ⟨o, k b o hc e⟩) (fun _ _ e => e) (fun _ _ _ e => e) (fun b ps e => ⟨#[], by rw [e]; simp⟩) (fun m hm => ?_) (fun b u e => ?_) I.bare
  · obtain ⟨o, es, ep, ho, r⟩ := hm
    exact ⟨o, es, ep, k _ o (fun z => (hf _ z).2.1 rfl) ho, r⟩
  · refine (I.hok b u e).stay (fun c v hc q => k c v ?_ q) (fun _ q => q) fun _ _ q => q
    rcases hc with z | z
    · rw [z]; exact nit b u e
    · exact nit c _ z
/-- .. and one new object is laid -/
theorem Inv.turnedNew {t' : Nat} {ch : List Addr} {T : Addr} {ob : HO} (I : Inv X pins σ H s) (k : ∀ b o, b ∉ ch → s.heap.get? b = some o → h'.get? b = some o) (hf : ∀ b ∈ ch, FpOk X pins H b) (hT : s.heap.objs.size ≤ T)
    (new : ObjOk X.prog X.w (upd H T ob) h' T ob) : Inv X pins σ (upd H T ob) { s with heap := h', toks := t' } := by
  have hn : H T = none := I.hok.fresh hT
  have nit : ∀ b u, H b = some u → b ∉ ch := fun b u e z => by
    have q := (hf b z).1
    rw [q] at e; cases e
  refine I.step (g' := s.gens) (d' := s.drawn) (ch := ch) (fun b hb => ⟨(hf b hb).2.2.2.1, (hf b hb).2.1, (hf b hb).2.2.2.2.1, (hf b hb).2.2.2.2.2⟩) (fun b o _ _ hc e _ => k b o hc e) (fun b o _ _ hc e _ => ⟨o.slots, k b o hc e⟩)
    (fun b o _ e n => ?_) (fun b o hc e => ⟨o, k b o hc e⟩) (fun b xs e => ?_) (fun b o u e => ?_) (fun b ps e => ⟨#[], ?_⟩) (fun m hm => ?_) (fun b u e => ?_) I.bare
  · rw [upd_ne (Nat.ne_of_lt (Nat.lt_of_lt_of_le (Heap.lt_size e) hT))]; exact n
  · rw [upd_ne (ne_of_none e hn)]; exact e
  · rw [upd_ne (ne_of_none e hn)]; exact e
  · rw [upd_ne (ne_of_none e hn), e]; simp
  · obtain ⟨o, es, ep, ho, r⟩ := hm
    exact ⟨o, es, ep, k _ o (fun z => (hf _ z).2.1 rfl) ho, r⟩
  · by_cases hb : b = T
    · subst hb
      rw [upd_same] at e
      cases e
      exact new
    · rw [upd_ne hb] at e
      refine (I.hok b u e).stay (fun c v hc q => k c v ?_ q) (fun c q => by rw [upd_ne (ne_of_none q hn)]; exact q) fun c xs q => by rw [upd_ne (ne_of_none q hn)]; exact q
      rcases hc with z | z
      · rw [z]; exact nit b u e
      · exact nit c _ z

/-! ### locking a thing while a statement runs -/
end
/-- the statement runs while the thing at d is locked (read, not written); d and what stands there are the reading's choice -/
def tLock (t : TS) : TS := fun D σ H => ∃ d u, H d = some u ∧ Mut (some u) ∧ ∀ od, t ⟨fun σ' H' => H' d = some (.frz od u) ∧ D.nx σ' (upd H' d u), fun v H' => H' d = some (.frz od u) ∧ D.rt v (upd H' d u), fun σ' H' => H' d = some (.frz od u) ∧ D.bk σ' (upd H' d u), fun σ' H' => H' d = some (.frz od u) ∧ D.ct σ' (upd H' d u)⟩ σ (upd H d (.frz od u))
def tLockE (t : TE) : TE := fun σ H Q => ∃ d u, H d = some u ∧ Mut (some u) ∧ ∀ od, t σ (upd H d (.frz od u)) fun v H' => H' d = some (.frz od u) ∧ Q v (upd H' d u)
section
variable {X : Cx}

/-! ### one iterator just laid -/
theorem pi_one {tg : Expr} {pins : List (Addr × Obj)} {σ : St} {H : Hp} {s : Shared} {R : It → Hp → Prop} {J : It} {tn : Nat → Heap → Prop} {tk : Nat} (I : Inv X pins σ H s) (o : Obj)
    (T : Turn X.prog X.w X.K tg J [s.heap.objs.size] s.heap.objs.size tn) (st : tn 0 (s.heap.push o)) (q : R J H) : PIE X pins σ tg R (.ref s.heap.objs.size) { s with heap := s.heap.push o, toks := tk } := by
  refine ⟨s.heap.objs.size, [s.heap.objs.size], tn, J, H, rfl, I.kept fun b ob e => Heap.get?_push_of_some _ e, T, st, fun b hb => ?_, q⟩
  have e : b = s.heap.objs.size := by simpa using hb
  subst e
  exact I.fpOk (Nat.le_refl _) (I.hok.fresh (Nat.le_refl _))
end

/-! ### range with a step -/
/-- lo, lo + c, .. (n of them) -/
def Itc (lo c : Int) (n : Nat) : It := ⟨fun i _ => i < n, fun i H x H' => H' = H ∧ x = .int (lo + (i : Nat) * c), fun i _ => n ≤ i⟩
/-- range(i, j, c): small bounds, n items -/
def RgC (i j c : Int) (n : Nat) : Prop := c ≠ 0 ∧ c.natAbs < 1073741824 ∧ Builtin.Range.small i j c = true ∧ Builtin.Range.rangeSize i j c = n
theorem RgC.neg {i j : Int} (ha : -(2 ^ 62) ≤ i) (ha' : i < 2 ^ 62) (hb : -(2 ^ 62) ≤ j) (hb' : j < 2 ^ 62) : RgC i j (-1) (i - j).toNat :=
  ⟨by decide, by decide, PySem.W.small_down ha ha' hb hb', PySem.W.rangeSize_downNat i j⟩
def iRng3 (ta : TA) : TI := fun σ H R => ta σ H fun vs H1 => ∃ (i j c : Int) (n : Nat), vs = [.int i, .int j, .int c] ∧ RgC i j c n ∧ R (Itc i c n) H1
section
variable {X : Cx} {tg : Expr}
end

/-! ### reversed(list) -/
/-- the list at a (n items at the start, which the loop leaves there), from its end -/
def Itv (K : PySem.W.Frag) (a : Addr) (n : Nat) : It :=
  ⟨fun i H => i < n ∧ ∃ (xs : List V) (x : V), SqL K H a xs ∧ xs[n - 1 - i]? = some x, fun i H x H' => H' = H ∧ ∀ xs, SqL K H a xs → xs[n - 1 - i]? = some x, fun i _ => n ≤ i⟩
theorem turn_rev {P : Program} {w : World} {K : PySem.W.Frag} {tg : Expr} (a it : Addr) (n : Nat) : Turn P w K tg (Itv K a n) [it] it (fun i h => i ≤ n ∧ h.IsRevIter it a ((n : Int) - 1 - (i : Nat))) where
  mem := by simp
  obj := fun i h st b hb => by
    have e : b = it := by simpa using hb
    subst e
    obtain ⟨_, o, e, c, d⟩ := st
    exact ⟨o, e, fun v z => by rw [d] at z; cases z⟩
  keep := fun i h h' st k => ⟨st.1, st.2.at fun o e => k it (by simp) o e⟩
  item := by
    intro X hP hw hK hc i pins s σ H E I hf st hg
    subst hP hw hK
    obtain ⟨hin, xs, x, hq, hx⟩ := hg
    obtain ⟨its, rv, p, hz⟩ := I.list hq
    obtain ⟨u, hu, ru⟩ := rv.get hx
    obtain ⟨f0, f1, f2, f3, f4, f5⟩ := hf it (by simp)
    obtain ⟨_, hit⟩ := st
    have e1 : (n : Int) - 1 - ((i : Nat) : Int) = ((n - 1 - i : Nat) : Int) := by omega
    rw [e1] at hit
    refine wpAny_pyNext_rev_item hit p.isList (x := u) (by simpa using hu) fun h' st' sb => ?_
    have e2 : ((n - 1 - i : Nat) : Int) - 1 = (n : Int) - 1 - ((i + 1 : Nat) : Int) := by omega
    rw [e2] at st'
    have I1 : Inv X pins σ H { s with heap := h' } := I.turned (t' := s.toks) (fun b o hb e => (sb.2 b hb).trans e) f0 f1 f3 f4 f5
    obtain ⟨o, e, c, d⟩ := id st'
    exact ⟨u, rfl, go_of (s := { s with heap := h' }) e c d (by decide) ⟨x, H, I1, ru, ⟨rfl, fun ys hy => by rw [I.list_inj hy hq]; exact hx⟩, ⟨hin, st'⟩, fun b hb => (hf b hb).1⟩⟩
  done := by
    intro X hP hw hK hc i pins s σ H E I hf st hg
    subst hP hw hK
    obtain ⟨f0, f1, f2, f3, f4, f5⟩ := hf it (by simp)
    obtain ⟨hin, hit⟩ := st
    have hge : n ≤ i := hg
    have e1 : (n : Int) - 1 - ((i : Nat) : Int) = -1 := by omega
    rw [e1] at hit
    exact wpAny_pyNext_rev_end (I.ok.hd hc) hit fun h' eb => ⟨rfl, I.turned (t' := s.toks) (fun b o hb e => eb b o hb e) f0 f1 f3 f4 f5⟩
  self := fun A i s Q E st h => wpAny_pyIter_revIter st.2 h
def iRev (K : PySem.W.Frag) (ta : TA) : TI := fun σ H R => ta σ H fun vs H1 => ∃ (a : Addr) (xs : List V), vs = [.ref a] ∧ SqL K H1 a xs ∧ R (Itv K a xs.length) H1
section
variable {X : Cx} {tg : Expr}
theorem pi_reversed {e : Expr} {ta : TA} {p pos : Pos} (hg : Gl X "reversed") (hm : X.mg "reversed" = none) (ha : PA X [e] ta) (hs : starEach [e] X.env = [(false, eval e X.env)] := by rfl) : PI X tg (.Call (.Name "reversed" p) [e] [] pos) (iRev X.K ta) := by
  intro pins s σ H R I h
  refine Call_ (ld_blt I hg hm boot_reversed5 (PyProof.Rows.callWith_type1 (thn (ha pos pins s σ H _ I h) fun us s1 ⟨vs, H1, I1, r1, q1⟩ => ?_) hs rfl))
  obtain ⟨a, xs, e, hq, q⟩ := q1
  subst e
  cases r1 with
  | cons r rr =>
    cases rr
    cases r
    obtain ⟨its, rv, p', hz⟩ := I1.list hq
    have hl := rv.length
    have e1 : ((its.toArray.size : Nat) : Int) - 1 = (xs.length : Int) - 1 - ((0 : Nat) : Int) := by simp only [List.size_toArray]; omega
    refine call_reversed_list p'.isList (wpAny_pyIter_revIter (l := a) (i := ((its.toArray.size : Nat) : Int) - 1) ⟨_, Heap.get?_push_size _ rfl, rfl, rfl⟩ ?_)
    refine pi_one (tk := s1.toks) I1 _ (turn_rev a _ xs.length) ⟨Nat.zero_le _, ?_⟩ q
    rw [← e1]
    exact ⟨_, Heap.get?_push_size _ rfl, rfl, rfl⟩
end

/-! ### a str -/
def Its (x : Str) : It := ⟨fun i _ => i < x.cps.size, fun i H v H' => H' = H ∧ ∃ c, x.cps[i]? = some c ∧ v = .str ⟨#[c]⟩, fun i _ => x.cps.size ≤ i⟩
def iStr (te : TE) : TI := fun σ H R => te σ H fun v H1 => ∃ x, v = .str x ∧ R (Its x) H1

/-! ### a dict's keys: any dict's entries -/
section
variable {prog : Program} {w : World} {A : Around} {E : Value → Shared → Prop} {s : Shared}
end

/-! ### a locked dict -/
section
variable {X : Cx} {pins : List (Addr × Obj)} {σ : St} {H : Hp} {s : Shared} {d : Addr} {o : Obj}
end

/-- the keys of the locked dict at d, in their order -/
def Itk (d : Addr) (o : Obj) (kvs : List (Key × V)) : It :=
  ⟨fun i H => H d = some (.frz o (.dK kvs)) ∧ i < kvs.length, fun i H x H' => H' = H ∧ ∃ k v, kvs[i]? = some (k, v) ∧ x = kV k, fun i H => H d = some (.frz o (.dK kvs)) ∧ kvs.length ≤ i⟩
/-- .. of tuple keys: the key's own tuple -/
def Itkt (d : Addr) (o : Obj) (kvs : List (List Key × V)) : It :=
  ⟨fun i H => H d = some (.frz o (.dT kvs)) ∧ i < kvs.length, fun i H x H' => H' = H ∧ ∃ (k : List Key) (v : V) (q : Addr), kvs[i]? = some (k, v) ∧ x = .ref q ∧ H q = some (.tup (k.map kV)), fun i H => H d = some (.frz o (.dT kvs)) ∧ kvs.length ≤ i⟩
/-- the values -/
def Itd (d : Addr) (o : Obj) (kvs : List (Key × V)) : It :=
  ⟨fun i H => H d = some (.frz o (.dK kvs)) ∧ i < kvs.length, fun i H x H' => H' = H ∧ ∃ k, kvs[i]? = some (k, x), fun i H => H d = some (.frz o (.dK kvs)) ∧ kvs.length ≤ i⟩
/-- the pairs, each a new tuple -/
def Iti (d : Addr) (o : Obj) (kvs : List (Key × V)) : It :=
  ⟨fun i H => H d = some (.frz o (.dK kvs)) ∧ i < kvs.length, fun i H x H' => ∃ T k v, kvs[i]? = some (k, v) ∧ x = .ref T ∧ H T = none ∧ H' = upd H T (.tup [kV k, v]), fun i H => H d = some (.frz o (.dK kvs)) ∧ kvs.length ≤ i⟩
section
variable {P : Program} {w : World} {K : PySem.W.Frag} {tg : Expr} {d : Addr} {o : Obj} {es : Array DictEntry} {ep : Nat}
end

/-! ### for k in d, d.keys(), d.values(), d.items() -/
/-- the dict is locked (tLock, or by the caller) -/
def iKeys (td : TE) : TI := fun σ H R => td σ H fun x H1 => ∃ d o, x = .ref d ∧ ((∃ kvs, H1 d = some (.frz o (.dK kvs)) ∧ R (Itk d o kvs) H1) ∨ ∃ kvs, H1 d = some (.frz o (.dT kvs)) ∧ R (Itkt d o kvs) H1)
def iVals (td : TE) : TI := fun σ H R => td σ H fun x H1 => ∃ d o kvs, x = .ref d ∧ H1 d = some (.frz o (.dK kvs)) ∧ R (Itd d o kvs) H1
def iItems (td : TE) : TI := fun σ H R => td σ H fun x H1 => ∃ d o kvs, x = .ref d ∧ H1 d = some (.frz o (.dK kvs)) ∧ R (Iti d o kvs) H1
def iKeysM (td : TE) : TI := fun σ H R => td σ H fun x H1 => ∃ d o kvs, x = .ref d ∧ H1 d = some (.frz o (.dK kvs)) ∧ R (Itk d o kvs) H1
section
variable {X : Cx} {tg e : Expr} {td : TE} {apos cpos : Pos}
end

/-! ### enumerate(list) -/
/-- the list at a as it stands at each turn, each item in a new pair -/
def Ite (K : PySem.W.Frag) (a : Addr) : It :=
  ⟨fun i H => ∃ (xs : List V) (x : V), SqL K H a xs ∧ xs[i]? = some x, fun i H v H' => ∃ T x, v = .ref T ∧ H T = none ∧ H' = upd H T (.tup [.int (i : Nat), x]) ∧ ∀ xs, SqL K H a xs → xs[i]? = some x, fun i H => ∃ xs : List V, SqL K H a xs ∧ xs.length ≤ i⟩
theorem turn_enum {P : Program} {w : World} {K : PySem.W.Frag} {elts : List Expr} {kk : Nat} {tpos : Pos} (a e it : Addr) :
    Turn P w K (.Tuple elts kk tpos) (Ite K a) [e, it] e (fun i h => (∃ old, IsEnum h e it ((i : Nat) : Int) old) ∧ h.IsListIter it a i ∧ e ≠ it) where
  mem := by simp
  obj := fun i h st b hb => by
    obtain ⟨⟨old, he⟩, ⟨o, ho, hc, hd⟩, _⟩ := st
    have e' : b = e ∨ b = it := by simpa using hb
    rcases e' with z | z
    · rw [z]; exact ⟨_, he, fun v q => nomatch q⟩
    · rw [z]; exact ⟨o, ho, fun v q => by rw [hd] at q; cases q⟩
  keep := fun i h h' st k => let ⟨⟨old, he⟩, hi, hne⟩ := st; ⟨⟨old, k e (by simp) _ he⟩, hi.at fun o q => k it (by simp) o q, hne⟩
  item := by
    intro X hP hw hK hc i pins s σ H E I hf st hg
    subst hP hw hK
    obtain ⟨⟨old, he⟩, hit, hne⟩ := st
    obtain ⟨xs, x, hq, hx⟩ := hg
    obtain ⟨its, rv, p, hz⟩ := I.list hq
    obtain ⟨u, hu, ru⟩ := rv.get hx
    have hel : e < s.heap.objs.size := Heap.lt_size he
    have hil : it < s.heap.objs.size := by obtain ⟨_, q, _⟩ := hit; exact Heap.lt_size q
    refine wpAny_pyNext_enum_item he hit p.isList (x := u) (by simpa using hu) hne fun h' ho hit' hT hsz hk => ?_
    refine ⟨_, rfl, wpAny_letOwnedTupleGo_enum (s := { s with heap := h', toks := s.toks + 1 }) ho fun h'' he' sb => ?_⟩
    have hT2 : h''.get? s.heap.objs.size = some { cls := .type "tuple", data := .seq #[.int i s.toks, u] } := (sb.2 _ (Nat.ne_of_gt hel)).trans hT
    have new : ObjOk X.prog X.w (upd H s.heap.objs.size (.tup [.int (i : Nat), x])) h'' s.heap.objs.size (.tup [.int (i : Nat), x]) :=
      ⟨by show 2 ≤ sizeLine; decide, [.int i s.toks, u], .cons ⟨_, rfl⟩ (.cons ru .nil), ⟨_, hT2, rfl, _, rfl⟩⟩
    have I1 : Inv X pins σ (upd H s.heap.objs.size (.tup [.int (i : Nat), x])) { s with heap := h'', toks := s.toks + 1 } :=
      I.turnedNew (ch := [e, it]) (fun b ob hb q => (sb.2 b (fun z => hb (by simp [z]))).trans (hk b ob (fun z => hb (by simp [z])) (fun z => hb (by simp [z])) q)) hf (Nat.le_refl _) new
    refine ⟨.ref s.heap.objs.size, _, I1, rfl, ⟨_, x, rfl, I.hok.fresh (Nat.le_refl _), rfl, fun ys hy => by rw [I.list_inj hy hq]; exact hx⟩, ⟨⟨u, ?_⟩, hit'.at fun o q => (sb.2 it (Ne.symm hne)).trans q, hne⟩, fun b hb => ?_⟩
    · have e1 : ((i + 1 : Nat) : Int) = (i : Int) + 1 := by omega
      rw [e1]; exact he'
    · have hb' : b < s.heap.objs.size := by
        have e' : b = e ∨ b = it := by simpa using hb
        rcases e' with z | z
        · rw [z]; exact hel
        · rw [z]; exact hil
      rw [upd_ne (Nat.ne_of_lt hb')]
      exact (hf b hb).1
  done := by
    intro X hP hw hK hc i pins s σ H E I hf st hg
    subst hP hw hK
    obtain ⟨⟨old, he⟩, hit, hne⟩ := st
    obtain ⟨xs, hq, hx⟩ := hg
    obtain ⟨its, rv, p, hz⟩ := I.list hq
    obtain ⟨f0, f1, f2, f3, f4, f5⟩ := hf it (by simp)
    have hl := rv.length
    exact wpAny_pyNext_enum_end (I.ok.hd hc) he hit p.isList (by simp; omega) fun h' eb => ⟨rfl, I.turned (t' := s.toks) (fun b o hb q => eb b o hb q) f0 f1 f3 f4 f5⟩
  self := fun A i s Q E st h => let ⟨⟨_, he⟩, _⟩ := st; wpAny_pyIter_enum he h
def iEnum (K : PySem.W.Frag) (ta : TA) : TI := fun σ H R => ta σ H fun vs H1 => ∃ a xs, vs = [.ref a] ∧ SqL K H1 a xs ∧ R (Ite K a) H1
theorem pi_enum {X : Cx} {e : Expr} {ta : TA} {p pos tpos : Pos} {elts : List Expr} {kk : Nat} (hg : Gl X "enumerate") (hm : X.mg "enumerate" = none) (ha : PA X [e] ta) (hs : starEach [e] X.env = [(false, eval e X.env)] := by rfl) :
    PI X (.Tuple elts kk tpos) (.Call (.Name "enumerate" p) [e] [] pos) (iEnum X.K ta) := by
  intro pins s σ H R I h
  refine Call_ (ld_blt I hg hm boot_enumerate (PyProof.Rows.callWith_type1 (thn (ha pos pins s σ H _ I h) fun us s1 ⟨vs, H1, I1, r1, q1⟩ => ?_) hs rfl))
  obtain ⟨a, xs, ex, hq, q⟩ := q1
  subst ex
  cases r1 with
  | cons r rr =>
    cases rr
    cases r
    obtain ⟨its, rv, p', hz⟩ := I1.list hq
    refine call_enumerate_list p'.isList fun h' he hit hsz hk => wpAny_pyIter_enum he ?_
    have I2 : Inv X pins σ H1 { s1 with heap := h' } := I1.kept (t' := s1.toks) hk
    refine ⟨s1.heap.objs.size + 1, [s1.heap.objs.size + 1, s1.heap.objs.size], _, _, H1, rfl, I2, turn_enum a (s1.heap.objs.size + 1) s1.heap.objs.size, ⟨⟨.none, he⟩, hit, Nat.succ_ne_self _⟩, fun b hb => ?_, q⟩
    have e' : b = s1.heap.objs.size + 1 ∨ b = s1.heap.objs.size := by simpa using hb
    have hle : s1.heap.objs.size ≤ b := by
      rcases e' with z | z
      · rw [z]; exact Nat.le_add_right _ _
      · rw [z]; exact Nat.le_refl _
    exact I1.fpOk hle (I1.hok.fresh hle)
/-! ### zip(list, list) -/
theorem boot_zip5 : bootBuiltins "zip" = some (.type "zip") := by decide +kernel
/-- the lists at a and b as they stand at each turn, the items in new pairs -/
def Itz (K : PySem.W.Frag) (a b : Addr) : It :=
  ⟨fun i H => ∃ (xs ys : List V) (x y : V), SqL K H a xs ∧ SqL K H b ys ∧ xs[i]? = some x ∧ ys[i]? = some y,
    fun i H v H' => ∃ T x y, v = .ref T ∧ H T = none ∧ H' = upd H T (.tup [x, y]) ∧ (∀ xs, SqL K H a xs → xs[i]? = some x) ∧ ∀ ys, SqL K H b ys → ys[i]? = some y,
    fun i H => ∃ xs ys : List V, SqL K H a xs ∧ SqL K H b ys ∧ (xs.length ≤ i ∨ ys.length ≤ i)⟩
theorem turn_zip {P : Program} {w : World} {K : PySem.W.Frag} {elts : List Expr} {kk : Nat} {tpos : Pos} {a b z TI TO i1 i2 : Addr} (D : ZipApart z TI TO i1 i2 a b) :
    Turn P w K (.Tuple elts kk tpos) (Itz K a b) [z, TI, TO, i1, i2] z (fun i h => IsZip h z TI TO .none ∧ IsPair h TI (.ref i1) (.ref i2) ∧ (∃ x y, IsPair h TO x y) ∧ h.IsListIter i1 a i ∧ h.IsListIter i2 b i) where
  mem := by simp
  obj := fun i h st c hc => by
    obtain ⟨hz, hTI, ⟨x, y, hTO⟩, ⟨o1, e1, _, d1⟩, ⟨o2, e2, _, d2⟩⟩ := st
    have e' : c = z ∨ c = TI ∨ c = TO ∨ c = i1 ∨ c = i2 := by simpa using hc
    rcases e' with q | q | q | q | q
    · rw [q]; exact ⟨_, hz, fun v q => nomatch q⟩
    · rw [q]; exact ⟨_, hTI, fun v q => nomatch q⟩
    · rw [q]; exact ⟨_, hTO, fun v q => nomatch q⟩
    · rw [q]; exact ⟨o1, e1, fun v q => by rw [d1] at q; cases q⟩
    · rw [q]; exact ⟨o2, e2, fun v q => by rw [d2] at q; cases q⟩
  keep := fun i h h' st k => by
    obtain ⟨hz, hTI, ⟨x, y, hTO⟩, h1, h2⟩ := st
    exact ⟨k z (by simp) _ hz, k TI (by simp) _ hTI, ⟨x, y, k TO (by simp) _ hTO⟩, h1.at fun o q => k i1 (by simp) o q, h2.at fun o q => k i2 (by simp) o q⟩
  item := by
    intro X hP hw hK hc i pins s σ H E I hf st hg
    subst hP hw hK
    obtain ⟨hz, hTI, ⟨x0, y0, hTO⟩, h1, h2⟩ := st
    obtain ⟨xs, ys, x, y, hqx, hqy, hx, hy⟩ := hg
    obtain ⟨its, rv, p, _⟩ := I.list hqx
    obtain ⟨its2, rv2, p2, _⟩ := I.list hqy
    obtain ⟨u, hu, ru⟩ := rv.get hx
    obtain ⟨u2, hu2, ru2⟩ := rv2.get hy
    have hzl : z < s.heap.objs.size := Heap.lt_size hz
    refine wpAny_pyNext_zip_item D hz hTI hTO h1 h2 p.isList p2.isList (x := u) (y := u2) (by simpa using hu) (by simpa using hu2) fun h' z' TO' h1' h2' hT hsz hk => ?_
    refine ⟨_, rfl, wpAny_letOwnedTupleGo_zip (s := { s with heap := h' }) z' fun h'' z'' sb => ?_⟩
    have hT2 : h''.get? s.heap.objs.size = some { cls := .type "tuple", data := .seq #[u, u2] } := (sb.2 _ (Nat.ne_of_gt hzl)).trans hT
    have new : ObjOk X.prog X.w (upd H s.heap.objs.size (.tup [x, y])) h'' s.heap.objs.size (.tup [x, y]) :=
      ⟨by show 2 ≤ sizeLine; decide, [u, u2], .cons ru (.cons ru2 .nil), ⟨_, hT2, rfl, _, rfl⟩⟩
    have I1 : Inv X pins σ (upd H s.heap.objs.size (.tup [x, y])) { s with heap := h'' } :=
      I.turnedNew (t' := s.toks) (ch := [z, TI, TO, i1, i2]) (fun c o hb q => (sb.2 c (fun q' => hb (by simp [q']))).trans (hk c o (fun q' => hb (by simp [q'])) (fun q' => hb (by simp [q'])) (fun q' => hb (by simp [q'])) (fun q' => hb (by simp [q'])) q)) hf (Nat.le_refl _) new
    refine ⟨.ref s.heap.objs.size, _, I1, rfl, ⟨_, x, y, rfl, I.hok.fresh (Nat.le_refl _), rfl, fun l hl => by rw [I.list_inj hl hqx]; exact hx, fun l hl => by rw [I.list_inj hl hqy]; exact hy⟩, ⟨z'', ?_, ⟨u, u2, ?_⟩, ?_, ?_⟩, fun c hcm => ?_⟩
    · exact (sb.2 _ D.TIz).trans (hk _ _ D.TIz D.TITO D.TIi1 D.TIi2 hTI)
    · exact (sb.2 _ D.TOz).trans TO'
    · exact h1'.at fun o q => (sb.2 _ D.i1z).trans q
    · exact h2'.at fun o q => (sb.2 _ D.i2z).trans q
    · have hlt : c < s.heap.objs.size := by
        have e' : c = z ∨ c = TI ∨ c = TO ∨ c = i1 ∨ c = i2 := by simpa using hcm
        rcases e' with q | q | q | q | q
        · rw [q]; exact hzl
        · rw [q]; exact Heap.lt_size hTI
        · rw [q]; exact Heap.lt_size hTO
        · rw [q]; obtain ⟨_, e1, _⟩ := h1; exact Heap.lt_size e1
        · rw [q]; obtain ⟨_, e2, _⟩ := h2; exact Heap.lt_size e2
      rw [upd_ne (Nat.ne_of_lt hlt)]
      exact (hf c hcm).1
  done := by
    intro X hP hw hK hc i pins s σ H E I hf st hg
    subst hP hw hK
    obtain ⟨hz, hTI, ⟨x0, y0, hTO⟩, h1, h2⟩ := st
    obtain ⟨xs, ys, hqx, hqy, hend⟩ := hg
    obtain ⟨its, rv, p, _⟩ := I.list hqx
    obtain ⟨its2, rv2, p2, _⟩ := I.list hqy
    have l1 := rv.length
    have l2 := rv2.length
    have he : its.toArray[i]? = none ∨ its2.toArray[i]? = none := by
      rcases hend with q | q
      · exact .inl (by simp; omega)
      · exact .inr (by simp; omega)
    exact wpAny_pyNext_zip_end (I.ok.hd hc) D hz hTI hTO h1 h2 p.isList p2.isList he fun h' hk => ⟨rfl, I.turnedL (t' := s.toks) (ch := [z, TI, TO, i1, i2]) (fun c o hb q =>
      hk c o (fun q' => hb (by simp [q'])) (fun q' => hb (by simp [q'])) (fun q' => hb (by simp [q'])) (fun q' => hb (by simp [q'])) q) hf⟩
  self := fun A i s Q E st h => wpAny_pyIter_zip st.1 h
def iZip (K : PySem.W.Frag) (ta : TA) : TI := fun σ H R => ta σ H fun vs H1 => ∃ a b xs ys, vs = [.ref a, .ref b] ∧ SqL K H1 a xs ∧ SqL K H1 b ys ∧ R (Itz K a b) H1
theorem pi_zip {X : Cx} {e e2 : Expr} {ta : TA} {p pos tpos : Pos} {elts : List Expr} {kk : Nat} (hg : Gl X "zip") (hm : X.mg "zip" = none) (ha : PA X [e, e2] ta)
    (hs : starEach [e, e2] X.env = (false, eval e X.env) :: starEach [e2] X.env := by rfl) (hpl : (backTo pos (starEach [e2] X.env)).any (·.1) = false := by rfl) :
    PI X (.Tuple elts kk tpos) (.Call (.Name "zip" p) [e, e2] [] pos) (iZip X.K ta) := by
  intro pins s σ H R I h
  refine Call_ (ld_blt I hg hm boot_zip5 (PyProof.Rows.callWith_type1 (thn (ha pos pins s σ H _ I h) fun us s1 ⟨vs, H1, I1, r1, q1⟩ => ?_) hs hpl))
  obtain ⟨a, b, xs, ys, ex, hqx, hqy, q⟩ := q1
  subst ex
  cases r1 with
  | cons r rr =>
    cases rr with
    | cons r' rr =>
      cases rr
      cases r
      cases r'
      obtain ⟨its, rv, p1, _⟩ := I1.list hqx
      obtain ⟨its2, rv2, p2, _⟩ := I1.list hqy
      have la : a < s1.heap.objs.size := p1.lt
      have lb : b < s1.heap.objs.size := p2.lt
      refine call_zip_2 p1.isList p2.isList fun h' hz hTI hTO h1 h2 hsz hk => wpAny_pyIter_zip hz ?_
      have I2 : Inv X pins σ H1 { s1 with heap := h' } := I1.kept (t' := s1.toks) hk
      refine ⟨s1.heap.objs.size + 4, [s1.heap.objs.size + 4, s1.heap.objs.size + 2, s1.heap.objs.size + 3, s1.heap.objs.size, s1.heap.objs.size + 1], _, _, H1, rfl, I2, turn_zip (PySem.W.ktu_apart s1.heap.objs.size a b la lb), ⟨hz, hTI, ⟨_, _, hTO⟩, h1, h2⟩, fun c hcm => ?_, q⟩
      have e' : c = s1.heap.objs.size + 4 ∨ c = s1.heap.objs.size + 2 ∨ c = s1.heap.objs.size + 3 ∨ c = s1.heap.objs.size ∨ c = s1.heap.objs.size + 1 := by simpa using hcm
      have hle : s1.heap.objs.size ≤ c := by
        rcases e' with z | z | z | z | z
        · rw [z]; exact Nat.le_add_right _ _
        · rw [z]; exact Nat.le_add_right _ _
        · rw [z]; exact Nat.le_add_right _ _
        · rw [z]; exact Nat.le_refl _
        · rw [z]; exact Nat.le_add_right _ _
      exact I1.fpOk hle (I1.hok.fresh hle)
end L2

section 
namespace Bits
open PySem PyProof.Rows








end Bits
end 

section 
namespace TL
open PySem PySem.Builtin PySem.Builtin.Str PySem.StrLaws

abbrev tl (x : Str) : List Nat := x.cps.toList
theorem len_tl (x : Str) : x.length = (tl x).length := by simp [tl, Str.length]

/-! ### the list functions -/
/-- S stands at the head of l -/
def pre (S l : List Nat) : Bool := l.take S.length == S
/-- l cut at each S from the left; k signs are still to be passed over -/
def spl (S : List Nat) : Nat → List Nat → List Nat → List (List Nat)
  | _, acc, [] => [acc]
  | 0, acc, c :: r => if pre S (c :: r) = true then acc :: spl S (S.length - 1) [] r else spl S 0 (acc ++ [c]) r
  | k + 1, acc, _ :: r => spl S k acc r
/-- what stands before the first S, and behind it -/
def par (S : List Nat) : List Nat → List Nat → Option (List Nat × List Nat)
  | _, [] => none
  | acc, c :: r => if pre S (c :: r) = true then some (acc, (c :: r).drop S.length) else par S (acc ++ [c]) r




/-! ### the model's split and partition are these -/
theorem len1 {y : Str} (hy : tl y ≠ []) : 1 ≤ y.length := by
  have e2 : 0 < (tl y).length := List.length_pos_iff.mpr hy
  rw [len_tl y]
  exact e2




/-! ### computing spl and par -/

/-- joined lists -/
def joinL (S : List Nat) : List (List Nat) → List Nat
  | [] => []
  | [p] => p
  | p :: q :: r => p ++ (S ++ joinL S (q :: r))

/-! ### digits -/
/-- the signs of a number -/
def numL (n : Nat) : List Nat := (Nat.toDigits 10 n).map Char.toNat

/-! ### words: x.split() -/
def wstep (st : List (List Nat) × List Nat) (c : Nat) : List (List Nat) × List Nat :=
  if Unicode.isSpace c = true then (if st.2 = [] then st else (st.1 ++ [st.2], [])) else (st.1, st.2 ++ [c])
def wfin (st : List (List Nat) × List Nat) : List (List Nat) := if st.2 = [] then st.1 else st.1 ++ [st.2]
end TL
end 

namespace L2
open PySem PySem.Spec PyProof.Rows



/-- a new list of texts, tracked -/
def rNewStrs (ys : List Str) : Hp → VK → Prop := fun H Q => ∀ p, H p = none → Q (.ref p) (upd H p (.lst (ys.map V.str)))

section
variable {X : Cx} {pins : List (Addr × Obj)} {σ : St} {H : Hp} {s : Shared} {Q : VK}
end

section
variable {X : Cx}





/-! ### of a text alone -/

/-! ### of a text and a text -/

end

section
variable {X : Cx} {o e : Expr} {to te : TE}
def tM0 (r : V → List V → Hp → VK → Prop) (to : TE) : TE := fun σ H Q => to σ H fun x H1 => (∃ a, x = .str a) ∧ r x [] H1 Q
def tM1 (r : V → List V → Hp → VK → Prop) (to te : TE) : TE := fun σ H Q => to σ H fun x H1 => (∃ a, x = .str a) ∧ te σ H1 fun y H2 => r x [y] H2 Q

end
end L2

namespace L2
open PySem PySem.Spec PyProof.Rows

section
variable {X : Cx}
end

/-! ### slices of a text -/
theorem IsPart.raw {v : Value} {o : Option Int} (p : IsPart v o) : ∃ l : Option (Int × Tok), v = partValue l ∧ l.map (·.1) = o := by
  cases p with
  | none => exact ⟨none, rfl, rfl⟩
  | int i t => exact ⟨some (i, t), rfl, rfl⟩

/-- a part, clipped, as the text's slice reckons it -/
def clipS (n d : Nat) : Option Int → Int
  | none => (d : Int)
  | some i => max 0 (min (if i < 0 then i + (n : Int) else i) (n : Int))

/-- z[lo:hi] -/
def cutS (z : Str) (lo hi : Option Int) : Str :=
  ⟨((z.cps.toList.drop (HT.sIx z.length 0 lo)).take (HT.sIx z.length z.length hi - HT.sIx z.length 0 lo)).toArray⟩
def rSlS : V → Option Int → Option Int → Hp → VK → Prop := fun x lo hi H Q => ∃ z, x = .str z ∧ z.length ≤ sizeLine ∧ Q (.str (cutS z lo hi)) H
end L2

namespace Att
open PySem PySem.W PySem.Calls PyProof.Rows

/-! ### the script -/
theorem ints_of_wellAll {P : Params} {h : Heap} : ∀ (ns : List Int) (vs : List Value), WellAll P h vs (ns.map WData.int) → IntsAre vs ns := by
  intro ns
  induction ns with
  | nil =>
    intro vs w
    rw [List.map_nil] at w
    cases w
    exact .nil
  | cons n ns ih =>
    intro vs w
    rw [List.map_cons] at w
    cases w with
    | cons a b =>
      cases a
      exact .cons _ _ (ih _ b)

theorem script_of {l : OpenLaw} {n : Nat} (hn : l.most = some n) {P : Params} {h : Heap} {args : List WData} {vals : List Value}
    (hpre : l.row.toRowW.claim.pre args = true) (hwl : WellAll P h vals args) :
    ∃ a vs ns, vals = [Value.ref a] ∧ args = [WData.list (ns.map WData.int)] ∧ h.get? a = some { cls := .type "list", data := .seq vs.toArray } ∧ IntsAre vs ns ∧ ns.length ≤ n := by
  have hsh : WShape.hasAll [] args [.list .int] = true := (pre_splitW hpre).1
  have hc : l.pre.holds [] { args := args } = true := (pre_splitW hpre).2
  obtain ⟨d, r, rfl, h1, h2⟩ := hasAllW_cons hsh
  obtain rfl := hasAllW_nil h2
  obtain ⟨xs, rfl, h3⟩ := hasW_list h1
  obtain ⟨ns, rfl⟩ := items_int h3
  have hlen : ns.length ≤ n := by
    unfold OpenLaw.pre at hc
    have h4 : (WTm.not (.lt (.lit (.int (n : Int))) (.len (.arg 0)))).holds [] { args := [.list (ns.map .int)] } = true := by
      have h4 := (holds_andW hc).1
      rw [hn] at h4
      exact h4
    have h5 := condW_of h4 (w_not (w_lt w_lit (w_len_list (w_arg rfl))))
    rw [List.length_map] at h5
    refine Nat.le_of_not_lt fun q => ?_
    have q' : (n : Int) < ((ns.length : Nat) : Int) := by omega
    first
      | (rw [decide_eq_true q'] at h5; exact absurd h5 (by decide))
      | (simp at h5; omega)
  cases hwl with
  | cons w1 w2 =>
    cases w2
    cases w1 with
    | list ho hall => exact ⟨_, _, ns, rfl, rfl, ho, ints_of_wellAll ns _ hall, hlen⟩

theorem post_true (l : OpenLaw) (args : List WData) : l.row.toRowW.claim.post args (.bool true) args = true :=
  postW_of (r := l.row.toRowW) (X := (true == true))
    (show WShape.has [] (.bool true) .bool = true by first | rfl | decide | simp [WShape.has, WShape.arms, WShape.armsAll])
    (show (WTm.eq .res (.lit (.bool true))).value [] { args := args, res := some (.bool true), after := args } = some (.bool (true == true)) from w_eq_bool (w_res rfl) w_lit) rfl

/-! ### the attachment: holds_open's last premise (the goal 'hc' behind k_head) from a wpAny of the law's body -/

/-- the same from a codeAny of the CALL (for a layer whose function contracts speak of calls) -/
theorem attach_call {l : OpenLaw} {n : Nat} {q : Program} {loose : List Str} {XP : (Str → Option Value) → Heap → Prop} {YP : World → Heap → Prop} {d : DefRec}
    (hn : l.most = some n) (hdf : d.params.defaults = [])
    (call : ∀ (w : World) (s₀ s₁ : Shared) (mg mb : Str → Option Value) (fa : Addr) (o : Obj) (pm cd doc : Value) (a : Addr) (vs : List Value) (ns : List Int),
      Ground q loose [] XP w s₀ mg mb s₁.heap → YP w s₁.heap →
      s₁.heap.get? fa = some o → o.data = .func (docDef d.name d.params d.body d.scope pm cd doc) → s₁.heap.CodeRec cd d.name → mg d.name = some (.ref fa) →
      s₁.heap.get? a = some { cls := .type "list", data := .seq vs.toArray } → IntsAre vs ns → ns.length ≤ n → s₁.gens = #[] →
      codeAny (model l.prog w) callerA (.call (.ref fa) ⟨[.ref a], []⟩) (fun r s' => r = .ok (.ret (.bool true)) ∧ OldK s₁.heap s'.heap ∧ s'.os = s₁.os ∧ AllBare s'.gens) s₁) :
    WalkO q loose XP YP l.row.toRowW d [] (fun f vs => PySem.call f vs) := by
  intro w s₀ s₁ mg mb G Y fa o pm cd doc dV kV ho hd hcd hD hmg hg args vals as hpre hlay hrd hwl hlo
  obtain rfl : dV = .none := Dflts.none hD hdf
  obtain rfl : kV = .none := Dflts.noKw hD
  obtain ⟨a, vs, ns, rfl, rfl, hobj, hints, hlen⟩ := script_of hn hpre hwl
  refine enter_call (codeAny_mono (call w s₀ s₁ mg mb fa o pm cd doc a vs ns G Y ho (fd_plain hd) hcd hmg hobj hints hlen hg) fun r s' hq => ?_)
  obtain ⟨rfl, h2, h3, h4⟩ := hq
  exact ⟨.inl ⟨.bool true, .bool true, [], rfl, fun _ => rfl, .bool true, post_true l _, fun _ => ⟨List.Pairwise.nil, fun _ hm => (nomatch hm)⟩⟩, h2, h3, h4⟩


/-! ### rules over ANY heap (no ledger) from facts about the written part K: the library's own take a ledger (News) for what they write -/
section
variable {prog : Program} {w : World} {A : Around} {E : Value → Shared → Prop} {s : Shared} {K : Frag}





/-! the whole heap as the ledger: makes every rule that writes through a ledger a rule over any heap -/
def noObjs (h : Heap) : Heap := { h with objs := #[] }
def ledger (h : Heap) (L d : Addr) : List (Addr × Obj) := (List.range h.objs.size).filterMap fun a => if a = L ∨ a = d then none else (h.get? a).map fun o => (a, o)

end
end Att

namespace L2
open PySem PySem.Spec PyProof.Rows

theorem vals_ints : ∀ {vs : List Value} {ns : List Int}, IntsAre vs ns → Vals (ns.map V.int) vs
  | _, _, .nil => .nil
  | _, _, .cons n t h => .cons ⟨t, rfl⟩ (vals_ints h)

/-- nothing is tracked but the script, known to the object (or it is an object of the module) -/
def Only (H : Hp) : Prop := ∀ b, H b = none ∨ ∃ o xs, H b = some (.frz o (.lst xs))

/-- THE HEAD: the law's promise, at the heap behind the top. F, the promise of the law's def, may use that base is part of the heap (so K.In base, base.Ns mainGlobals mg stand in Mod) -/
theorem law_call {P : Program} {w : World} {K : PySem.W.Frag} {mg mb : Str → Option Value} {CX : CXT} {k : Nat} {fa a : Addr} {fd : FuncData} {x : Str} {sp : Sp} {s₁ : Shared} {vs : List Value} {ns : List Int}
    (KX : K.In s₁.heap) (hns : s₁.heap.Ns mainGlobals mg) (hb : s₁.heap.Ns builtinsNs mb) (hbb : ∀ x : Str, x ≠ "__name__" → mb x = bootBuiltins x) (hlim : s₁.heap.NoLimit) (hg : s₁.gens = #[])
    (ha : s₁.heap.get? a = some { cls := .type "list", data := .seq vs.toArray }) (hi : IntsAre vs ns) (hl : ns.length ≤ sizeLine) (hr : Room k callerA)
    (F : ∀ base : Heap, K.In base → base.Ns mainGlobals mg → FnOk P w K mg base CX k fa fd [x] sp) (hbind : ∀ (s : Shared) (u : Value), BindsTo s fd ⟨[u], []⟩ [(x, u)])
    (hsp : ∀ H : Hp, Only H → SqL K H a (ns.map V.int) → sp [.ref a] H (fun v _ => v = .bl true) fun _ _ _ => False)
    (hCX : ∀ H e s', CX [] H s₁ (fun _ _ _ => False) e s' → False) :
    codeAny (model P w) callerA (.call (.ref fa) ⟨[.ref a], []⟩) (fun r s' => r = .ok (.ret (.bool true)) ∧ OldK s₁.heap s'.heap ∧ s'.os = s₁.os ∧ AllBare s'.gens) s₁ := by
  have rv := vals_ints hi
  have lenV := hi.length
  -- from an abstract heap in which nothing but the script may be tracked
  have core : ∀ H : Hp, Only H → SqL K H a (ns.map V.int) → HOk P w H s₁.heap → (∀ b, H b ≠ none → b = a) → (H a ≠ none → K.lookup a = none) →
      codeAny (model P w) callerA (.call (.ref fa) ⟨[.ref a], []⟩) (fun r s' => r = .ok (.ret (.bool true)) ∧ OldK s₁.heap s'.heap ∧ s'.os = s₁.os ∧ AllBare s'.gens) s₁ := by
    intro H hO hS hok hA hK
    have base_of : ∀ {b : Addr} {o : Obj}, s₁.heap.get? b = some o → H b = none → (hidT s₁.heap H).get? b = some o := fun e n => hidT_get e n
    have noA : ∀ {b : Addr} {o : Obj} {es : Array DictEntry} {ep : Nat}, s₁.heap.get? b = some o → o.data = .dict es ep → H b = none := fun {b o es ep} e d => by
      cases q : H b with
      | none => rfl
      | some u =>
        have e' : b = a := hA b (by rw [q]; simp)
        subst e'
        rw [ha] at e; cases e
        have d' : Data.seq vs.toArray _ = Data.dict es ep := d
        cases d'
    have nsK : ∀ {b : Addr} {m : Str → Option Value}, s₁.heap.Ns b m → (hidT s₁.heap H).Ns b m := fun {b m} ⟨o, es, ep, e, d, r⟩ => ⟨o, es, ep, base_of e (noA e d), d, r⟩
    have hKb : K.In (hidT s₁.heap H) := fun b o e => base_of (KX b o e) (by
      cases q : H b with
      | none => rfl
      | some u =>
        have e' : b = a := hA b (by rw [q]; simp)
        subst e'
        rw [hK (by rw [q]; simp)] at e; cases e)
    have hM : Mod K mg (hidT s₁.heap H) := ⟨hKb, nsK hns, ⟨mb, nsK hb, hbb⟩, let ⟨mc, h1, h2⟩ := hlim; ⟨mc, nsK h1, h2⟩⟩
    have e0 : Env0 P w K mg (hidT s₁.heap H) callerA [] s₁ H := ⟨rfl, hM, fun b o e => of_hidT e, Nat.le_of_eq (hidT_size _ _), trivial, fun b hb => absurd (show b ∈ ([] : List Addr) from hb) (by simp), hok, .of_eq hg⟩
    refine codeAny_mono ((F _ hKb (nsK hns)).run callerA [] s₁ H ⟨[.ref a], []⟩ [.ref a] [.ref a] _ _ hr e0 (hbind s₁ (.ref a)) (.cons rfl .nil) (hsp H hO hS)) fun r s' h => ?_
    cases r with
    | error e => exact (hCX H e s' h).elim
    | ok fl =>
      cases fl with
      | next => exact False.elim h
      | brk => exact False.elim h
      | cont => exact False.elim h
      | ret u =>
        obtain ⟨v, H', os, bare, un, hok', r', q⟩ := h
        have q' : v = .bl true := q
        subst q'
        obtain rfl : u = Value.bool true := r'
        refine ⟨rfl, OldK.of_keep fun b o e => ?_, os, bare⟩
        cases q : H b with
        | none => exact un.keep b o e q (by intro z; exact absurd (show b ∈ ([] : List Addr) from z) (by simp)) (by simp)
        | some u =>
          rcases hO b with z | ⟨ob, xs, z⟩
          · rw [q] at z; cases z
          · have z2 := un.frzs b ob _ z
            obtain ⟨e1, _⟩ := hok b _ z
            obtain ⟨e2, _⟩ := hok' b _ z2
            rw [e] at e1; cases e1
            exact e2
  cases hk : K.lookup a with
  | some o =>
    -- the script is one of the module's own objects
    have e := KX a o hk
    rw [ha] at e
    cases e
    refine core (fun _ => none) (fun _ => .inl rfl) (.inr ⟨_, vs.toArray, _, hk, rfl, rfl, rfl, by rw [List.size_toArray, lenV]; exact hl, by simpa using rv⟩) (fun b u z => by have z' : (none : Option HO) = some u := z; cases z') (fun b z => absurd rfl z) fun z => absurd rfl z
  | none =>
    refine core (fun b => if b = a then some (.frz { cls := .type "list", data := .seq vs.toArray } (.lst (ns.map V.int))) else none) (fun b => ?_) (.inl (.inr ⟨{ cls := .type "list", data := .seq vs.toArray }, if_pos rfl⟩)) (fun b u z => ?_) (fun b z => ?_) fun _ => hk
    · by_cases hb : b = a
      · exact .inr ⟨_, _, if_pos hb⟩
      · exact .inl (if_neg hb)
    · by_cases hb : b = a
      · have z' := (if_pos hb).symm.trans z
        cases z'
        subst hb
        exact ⟨ha, by rw [List.length_map]; exact hl, vs, _, rv, ha⟩
      · have z' := (if_neg hb).symm.trans z
        cases z'
    · by_cases hb : b = a
      · exact hb
      · exact absurd (if_neg hb) z
end L2

namespace L2
open PySem PySem.Spec PyProof.Rows

abbrev KOf {K : PySem.W.Frag} {h : Heap} (_ : K.In h) : PySem.W.Frag := K

/-- the goal that k_head leaves (case hc), from the law's promise. F gives the function object fd (K's own) once, then the promise over every base -/
theorem walk_of {l : PySem.W.OpenLaw} {n k : Nat} {q : Program} {loose : List Str} {XP : (Str → Option Value) → Heap → Prop} {YP : World → Heap → Prop} {d : DefRec} {K : Params → PySem.W.Frag} {CX : World → CXT} {sp : World → Sp} {x : Str}
    (hn : l.most = some n) (hn2 : n ≤ sizeLine) (hdf : d.params.defaults = []) (hr : Room k callerA)
    (hY : ∀ (w : World) (h : Heap), YP w h → (K w.params).In h)
    (F : ∀ (w : World) (mg : Str → Option Value) (fa : Addr) (h : Heap), (K w.params).In h → h.Ns mainGlobals mg → mg d.name = some (.ref fa) →
      ∃ fd : FuncData, (∀ (s : Shared) (u : Value), BindsTo s fd ⟨[u], []⟩ [(x, u)]) ∧
        ∀ base : Heap, (K w.params).In base → base.Ns mainGlobals mg → FnOk l.prog w (K w.params) mg base (CX w) k fa fd [x] (sp w))
    (hsp : ∀ (w : World) (H : Hp) (a : Addr) (ns : List Int), ns.length ≤ n → Only H → SqL (K w.params) H a (ns.map V.int) → sp w [.ref a] H (fun v _ => v = .bl true) fun _ _ _ => False)
    (hCX : ∀ (w : World) (H : Hp) (s : Shared) (e : Value) (s' : Shared), CX w [] H s (fun _ _ _ => False) e s' → False) :
    PySem.W.WalkO q loose XP YP l.row.toRowW d [] (fun f vs => PySem.call f vs) := by
  refine Att.attach_call hn hdf fun w s₀ s₁ mg mb fa o pm cd doc a vs ns G Y ho hd hcd hmg hobj hints hlen hg => ?_
  have KX := hY w _ Y
  obtain ⟨fd, hb, hF⟩ := F w mg fa _ KX G.T.g hmg
  exact law_call KX G.T.g G.T.b G.T.builtins G.T.nolimit hg hobj hints (Nat.le_trans hlen hn2) hr hF hb (fun H hO hS => hsp w H a ns hlen hO hS) fun H e s' => hCX w H s₁ e s'
end L2

/- THE LAST THEOREM (shape; LID, My.* are yours):
   My.Adr: a structure of the addresses that your layer names (classes, functions); My.Txt K t: a structure (Prop) of the equations over K;
   My.txt_mk : {K} {implicit addresses ..} (e1 : nsIn K mainGlobals "law" = some (some (.ref f))) (e2 : K.lookup f = some ⟨oc, od, .func (fnOf "law" "law" params body scope dV kV doc pm an cdv ct), sl⟩) (e3 : codeIn K cdv "law" = true) .. : ∃ t, My.Txt K t

set_option maxRecDepth 100000 in
set_option maxHeartbeats 0 in
theorem PySem.Challenge.cw_LID_holds : PySem.Challenge.rw_LID.Holds := by
  w_on; o_law; k_head; (case hw => w_witness2)
  k_fill
  refine L2.walk_of (l := PySem.Challenge.rw_LID) (n := 63) (k := 40) (x := "script") (CX := fun w => ..) (sp := fun _ => My.sp_law) rfl (by decide) rfl ⟨rfl, by decide, by decide⟩ (fun w h Y => PySem.W.kIn_of Y) ?F ?S ?C
  case F =>
    intro w mg fa h KX G hmg
    have T : ∃ t, My.Txt (L2.KOf KX) t := by
      dsimp only [L2.KOf]                          -- K must stand as «<heap const> w.params» for k_is
      refine' My.txt_mk ?e1 ?e2 ?e3 ..
      (case e1 => PySem.W.k_is)                    -- in the order: a name -> its address -> its object -> its parts
      (case e2 => PySem.W.k_is)
      ..
    obtain ⟨t, T⟩ := T
    have e0 := hmg.symm.trans (PySem.W.mg_of KX G T.law)
    cases e0                                       -- fa is the law's own address
    exact ⟨_, fun s u => .of_eq rfl, fun base kb nb => My.law_fn T kb nb⟩     -- if «.of_eq rfl» comes too early: refine' ⟨_, ?b, fun base kb nb => My.law_fn T kb nb⟩; exact fun s u => .of_eq rfl
  case S => exact fun w H a ns hl hO hS => ..
  case C => exact ..
(the tactic k_is has no namespace: write k_is) -/

/-! SHORT WORDS over the layer: a def of the text, its body, what a loop and a test want. -/
namespace L2
open PySem PySem.Spec PyProof.Rows

/-! ### the text by places -/
/-- the j-th statement of a class's body -/
def inClass (s : Stmt) (j : Nat) : Stmt := match s with
  | .ClassDef _ _ _ body _ _ _ _ _ _ _ => body.getD j (.Pass ⟨0, 0, 0, 0⟩)
  | _ => .Pass ⟨0, 0, 0, 0⟩
def defArgs (s : Stmt) : Arguments := match s with
  | .FunctionDef _ a _ _ _ _ _ _ _ _ => a
  | _ => { posonlyargs := [], args := [], vararg := none, kwonlyargs := [], kw_defaults := [], kwarg := none, defaults := [] }
def defBody (s : Stmt) : List Stmt := match s with
  | .FunctionDef _ _ b _ _ _ _ _ _ _ => b
  | _ => []
def defScope (s : Stmt) : Scope := match s with
  | .FunctionDef _ _ _ _ _ _ sc _ _ _ => sc
  | _ => { kind := .function, names := [], isGenerator := false, isCoroutine := false }

/-! ### no exception leaves a def -/
abbrev CX0 : CXT := fun _ _ _ _ _ _ => False
abbrev E0 : XK := fun _ _ _ => False
theorem pass0 {X : Cx} : Passes CX0 X E0 := fun _ _ _ _ _ _ _ h => h.elim

/-! ### a def (or method) of the text as it stands behind the top -/
structure Fun (K : PySem.W.Frag) (x qual : Str) (st : Stmt) (f : Addr) (fd : FuncData) : Prop where
  ex : ∃ (oc : Value) (od : Option Addr) (kV doc pm : Value) (an : Option Addr) (cdv ct : Value) (osl : Array (Option Value)),
    fd = PySem.W.fnOf x qual (defArgs st) (defBody st) (defScope st) .none kV doc pm an cdv ct ∧ K.lookup f = some ⟨oc, od, .func fd, osl⟩ ∧ PySem.W.codeIn K cdv qual = true
  kp : PySem.W.keepIn K (.ref f) = true
section
variable {P : Program} {w : World} {K : PySem.W.Frag} {mg : Str → Option Value} {base : Heap}
/-- THE RULE for a def: its body as a term of rules, and the reading of that term -/
theorem Fun.ok {x qual : Str} {st : Stmt} {f : Addr} {fd : FuncData} {N ps : List Str} {k : Nat} {sp : Sp} (F : Fun K x qual st f fd) (S : FnScope N ps (defScope st)) (len : ∀ vs H Q E, sp vs H Q E → vs.length = ps.length)
    (hbody : ∀ (cdv : Value) (A : Around) (outer : List Env) (s : Shared) (H : Hp) (vs : List V) (Q : VK) (E : XK), Room k (A.deeper (envOfC qual (defScope st) s.heap.objs.size f cdv)) → sp vs H Q E →
      ∃ t, PSs (cxOf CX0 P w K mg base N qual (defScope st) f cdv A outer s H E).nox (defBody st) t ∧ t { nx := fun _ H' => Q .non H', rt := Q } (start N vs) H) : FnOk P w K mg base CX0 (k + 1) f fd ps sp := by
  obtain ⟨oc, od, kV, doc, pm, an, cdv, ct, osl, rfl, lk, hcd⟩ := F.ex
  refine fn_of lk hcd S len fun A outer s H vs Q E hr hsp => ?_
  obtain ⟨t, h, q⟩ := hbody cdv A outer s H vs Q E hr hsp
  exact ⟨t, h.nox, q⟩
/-- how its arguments bind (no defaults): h is «fun _ _ _ _ _ _ us hl => match us, hl with | [_, _], _ => rfl», one _ a parameter -/
theorem Fun.binds {x qual : Str} {st : Stmt} {f : Addr} {fd : FuncData} {ps : List Str} (F : Fun K x qual st f fd)
    (h : ∀ (kV doc pm : Value) (an : Option Addr) (cdv ct : Value) (us : List Value), us.length = ps.length → bindArgs (PySem.W.fnOf x qual (defArgs st) (defBody st) (defScope st) .none kV doc pm an cdv ct) ⟨us, []⟩ = pure (ps.zip us)) : Binds K fd ps [] := by
  obtain ⟨oc, od, kV, doc, pm, an, cdv, ct, osl, rfl, lk, hcd⟩ := F.ex
  exact .all (h kV doc pm an cdv ct)
theorem fun_mk {x qual : Str} {st : Stmt} {f : Addr} {oc : Value} {od an : Option Addr} {osl : Array (Option Value)} {kV doc pm cdv ct : Value} (l : K.lookup f = some ⟨oc, od, .func (PySem.W.fnOf x qual (defArgs st) (defBody st) (defScope st) .none kV doc pm an cdv ct), osl⟩)
    (c : PySem.W.codeIn K cdv qual = true) (k : PySem.W.keepIn K (.ref f) = true) : Fun K x qual st f (PySem.W.fnOf x qual (defArgs st) (defBody st) (defScope st) .none kV doc pm an cdv ct) := ⟨⟨oc, od, kV, doc, pm, an, cdv, ct, osl, rfl, l, c⟩, k⟩
end

/-! ### expressions in short: the name that stands in the i-th slot -/
section
variable {X : Cx}
theorem pv (i : Nat) {x : Str} {pos : Pos} (hN : X.N[i]? = some x := by rfl) (hv : Vis X.env.scope x := by first | exact Or.inl rfl | exact Or.inr (Or.inl rfl) | exact Or.inr (Or.inr rfl)) (hd : (x == ("__debug__" : Str)) = false := by decide)
    (hcd : (x == ("__classdict__" : Str)) = false := by decide) : PE X (.Name x pos) (tVar i) := pe_var hN hv hd hcd
end

/-! ### tests -/
theorem iteF {A B : Prop} (h : B) : if false = true then A else B := by
  rw [if_neg Bool.false_ne_true]
  exact h
theorem iteT {A B : Prop} (h : A) : if true = true then A else B := by
  rw [if_pos rfl]
  exact h
theorem ite2 {c A B : Prop} [Decidable c] (h1 : c → A) (h2 : ¬ c → B) : if c then A else B := by
  by_cases h : c
  · rw [if_pos h]
    exact h1 h
  · rw [if_neg h]
    exact h2 h

/-! ### heaps -/
/-- all that was tracked is as it was -/
def Same (H H' : Hp) : Prop := ∀ b o, H b = some o → H' b = some o
theorem Same.refl (H : Hp) : Same H H := fun _ _ h => h
theorem Same.trans {H H1 H2 : Hp} (a : Same H H1) (b : Same H1 H2) : Same H H2 := fun c o h => b c o (a c o h)
theorem Same.free {H H' : Hp} (e : Same H H') {l : Addr} (h : H' l = Option.none) : H l = Option.none := by
  cases q : H l with
  | none => rfl
  | some o =>
    rw [e l o q] at h
    cases h
theorem Same.seq {K : PySem.W.Frag} {H H' : Hp} {a : Addr} {xs : List V} (e : Same H H') (h : SqL K H a xs) : SqL K H' a xs := by
  rcases h with (h | ⟨o, h⟩) | h
  · exact .inl (.inl (e _ _ h))
  · exact .inl (.inr ⟨o, e _ _ h⟩)
  · exact .inr h

/-! ### a dict's pairs: keys that differ -/
section
variable {κ : Type} [DecidableEq κ]
end
/-! ### lists -/
/-- a new instance and its __init__ leave all that was tracked as it was -/
theorem Same.made {H H1 : Hp} {x dx C : Addr} (nx : H x = Option.none) (nd : H dx = Option.none) (k : ∀ b o, (upd (upd H dx (.own x)) x (.ins C dx [])) b = some o → b ≠ x → H1 b = some o) : Same H H1 := fun b o e =>
  k b o (by rw [upd_ne (ne_of_none e nx), upd_ne (ne_of_none e nd)]; exact e) (ne_of_none e nx)
end L2

section
set_option Elab.async false
set_option linter.all false
set_option maxRecDepth 100000
namespace Att
open PySem PySem.W PySem.Calls PyProof.Rows
/-! ### rules over ANY heap (no ledger) from facts about the written part K: the library's own take a ledger (News) for what they write -/
section
variable {prog : Program} {w : World} {A : Around} {E : Value → Shared → Prop} {s : Shared} {K : Frag}
end
end Att
namespace L2
open PySem PySem.Spec PyProof.Rows
end L2
namespace L2
open PySem PySem.Spec PyProof.Rows
end L2
end
section
set_option Elab.async false
set_option linter.all false
set_option maxRecDepth 100000
set_option maxHeartbeats 2000000
namespace L2
open PySem PySem.Spec PyProof.Rows
open PySem.W (WData Codec OpenSpec Well WellAll ReadsW ReadsAllW)
/-! ### an answer as data -/
mutual
/-- x stands for the datum d, lists and tuples all the way -/
inductive Dw (K : PySem.W.Frag) (H : Hp) : V → WData → Prop
  | non : Dw K H .non .none
  | bl (b : Bool) : Dw K H (.bl b) (.bool b)
  | int (i : Int) : Dw K H (.int i) (.int i)
  | str (x : Str) : Dw K H (.str x) (.str x)
  | byt (b : Array UInt8) : Dw K H (.byt b) (.bytes b.toList)
  | lst {a : Addr} {xs : List V} {ds : List WData} : SqL K H a xs → DwAll K H xs ds → Dw K H (.ref a) (.list ds)
  | tup {a : Addr} {xs : List V} {ds : List WData} : SqT K H a xs → DwAll K H xs ds → Dw K H (.ref a) (.tuple ds)
inductive DwAll (K : PySem.W.Frag) (H : Hp) : List V → List WData → Prop
  | nil : DwAll K H [] []
  | cons {v : V} {vs : List V} {d : WData} {ds : List WData} : Dw K H v d → DwAll K H vs ds → DwAll K H (v :: vs) (d :: ds)
end
theorem dw_ints {K : PySem.W.Frag} {H : Hp} : ∀ ns : List Int, DwAll K H (ns.map V.int) (ns.map WData.int)
  | [] => .nil
  | n :: r => .cons (.int n) (dw_ints r)
theorem ints_dw {K : PySem.W.Frag} {H : Hp} : ∀ (ns : List Int) (xs : List V), DwAll K H xs (ns.map WData.int) → xs = ns.map V.int
  | [], xs, h => by
    cases h
    rfl
  | n :: r, xs, h => by
    cases h with
    | cons h1 h2 =>
      cases h1
      rw [ints_dw r _ h2] <;> rfl
section
variable {P : Program} {w : World} {K : PySem.W.Frag} {H : Hp} {h : Heap} {R : PySem.W.WRecords} {cl : Str → Option Addr}
theorem sqL_at {a : Addr} {xs : List V} (hok : HOk P w H h) (KX : K.In h) (q : SqL K H a xs) : ∃ (its : List Value) (o : Obj) (n : Nat), Vals xs its ∧ h.get? a = some o ∧ o.cls = .type "list" ∧ o.data = .seq its.toArray n := by
  rcases q with q | ⟨o, its, n, e, hc, _, hd, _, hv⟩
  · obtain ⟨_, its, n, hv, e⟩ := (show ObjOk P w H h a (.lst xs) from q.ok hok)
    exact ⟨its, _, n, hv, e, rfl, rfl⟩
  · exact ⟨its.toList, o, n, hv, KX _ _ e, hc, by simp [hd]⟩
theorem sqT_at {a : Addr} {xs : List V} (hok : HOk P w H h) (KX : K.In h) (q : SqT K H a xs) : ∃ (its : List Value) (o : Obj) (n : Nat), Vals xs its ∧ h.get? a = some o ∧ o.cls = .type "tuple" ∧ o.data = .seq its.toArray n := by
  rcases q with q | ⟨o, its, n, e, hc, hd, _, hv⟩
  · obtain ⟨_, its, hv, o, e, hc, n, hd⟩ := (show ObjOk P w H h a (.tup xs) from q.ok hok)
    exact ⟨its, o, n, hv, e, hc, hd⟩
  · exact ⟨its.toList, o, n, hv, KX _ _ e, hc, by simp [hd]⟩
mutual
theorem Dw.reads (hok : HOk P w H h) (KX : K.In h) : ∀ (d : WData) (v : V) (u : Value), Dw K H v d → RelV v u → ∃ as, ReadsW R cl h u d as
  | .none, _, _, x, r => by
    cases x
    cases r
    exact ⟨_, ReadsW.none⟩
  | .bool b, _, _, x, r => by
    cases x
    cases r
    exact ⟨_, ReadsW.bool b⟩
  | .int i, _, _, x, r => by
    cases x
    obtain ⟨t, rfl⟩ := r
    exact ⟨_, ReadsW.int i t⟩
  | .str s, _, _, x, r => by
    cases x
    obtain ⟨t, rfl⟩ := r
    exact ⟨_, ReadsW.str s t⟩
  | .bytes b, _, _, x, r => by
    cases x
    obtain ⟨t, rfl⟩ := r
    exact ⟨_, ReadsW.bytes _ t⟩
  | .list ds, _, _, x, r => by
    cases x with
    | lst hs ha =>
      cases r
      obtain ⟨its, o, n, rv, ho, hc, hd⟩ := sqL_at hok KX hs
      obtain ⟨as, hr⟩ := Dw.readsAll hok KX ds _ its ha rv
      exact ⟨_, ReadsW.list ho hc hd hr⟩
  | .tuple ds, _, _, x, r => by
    cases x with
    | tup hs ha =>
      cases r
      obtain ⟨its, o, n, rv, ho, hc, hd⟩ := sqT_at hok KX hs
      obtain ⟨as, hr⟩ := Dw.readsAll hok KX ds _ its ha rv
      exact ⟨_, ReadsW.tuple ho hc hd hr⟩
  | .float _, _, _, x, _ => by cases x
  | .dict _, _, _, x, _ => by cases x
  | .bytearray _, _, _, x, _ => by cases x
  | .set _, _, _, x, _ => by cases x
  | .frozenset _, _, _, x, _ => by cases x
  | .obj _ _, _, _, x, _ => by cases x
theorem Dw.readsAll (hok : HOk P w H h) (KX : K.In h) : ∀ (ds : List WData) (vs : List V) (us : List Value), DwAll K H vs ds → Vals vs us → ∃ as, ReadsAllW R cl h us ds as
  | [], _, _, x, r => by
    cases x
    cases r
    exact ⟨_, ReadsAllW.nil⟩
  | d :: ds, _, _, x, r => by
    cases x with
    | cons h1 h2 =>
      cases r with
      | cons r1 r2 =>
        obtain ⟨as, q1⟩ := Dw.reads hok KX d _ _ h1 r1
        obtain ⟨bs, q2⟩ := Dw.readsAll hok KX ds _ _ h2 r2
        exact ⟨_, ReadsAllW.cons q1 q2⟩
end
end
/-! ### the arguments -/
mutual
/-- data that a codec tells -/
def plW : WData → Bool
  | .none => true
  | .bool _ => true
  | .int _ => true
  | .str _ => true
  | .bytes _ => true
  | .list xs => plWs xs
  | .tuple xs => plWs xs
  | _ => false
def plWs : List WData → Bool
  | [] => true
  | x :: r => plW x && plWs r
end
theorem plWs_map {α : Type} {f : α → WData} (h : ∀ a, plW (f a) = true) : ∀ l : List α, plWs (l.map f) = true
  | [] => rfl
  | x :: r => by
    show (plW (f x) && plWs (r.map f)) = true
    rw [h x, plWs_map h r] <;> rfl
theorem pl_enc : ∀ (c : Codec) (a : c.denote), plW (c.enc a) = true
  | .unit, _ => rfl
  | .bool, _ => rfl
  | .int _ _, _ => rfl
  | .nat _ _, _ => rfl
  | .u8, _ => rfl
  | .bytes _ _, _ => rfl
  | .text _ _ _ _, _ => rfl
  | .list _ _ c, a => plWs_map (fun x => pl_enc c x) a
  | .pair c d, a => by
    show (plW (c.enc a.1) && (plW (d.enc a.2) && true)) = true
    rw [pl_enc c a.1, pl_enc d a.2] <;> rfl
  | .triple c d e, a => by
    show (plW (c.enc a.1) && (plW (d.enc a.2.1) && (plW (e.enc a.2.2) && true))) = true
    rw [pl_enc c a.1, pl_enc d a.2.1, pl_enc e a.2.2] <;> rfl
  | .option c, none => rfl
  | .option c, some x => pl_enc c x
theorem pl_encAll : ∀ (cs : List Codec) (a : Codec.denoteAll cs), plWs (Codec.encAll cs a) = true
  | [], _ => rfl
  | c :: cs, a => by
    show (plW (c.enc a.1) && plWs (Codec.encAll cs a.2)) = true
    rw [pl_enc c a.1, pl_encAll cs a.2] <;> rfl
theorem weight_mem : ∀ {xs : List WData} {d : WData}, d ∈ xs → d.weight ≤ WData.weightAll xs
  | [], d, h => absurd h (by simp)
  | x :: r, d, h => by
    show d.weight ≤ x.weight + 1 + WData.weightAll r
    rcases List.mem_cons.mp h with e | m
    · rw [e]
      omega
    · have z := weight_mem m
      omega
def toV : Value → V
  | .none => .non
  | .bool b => .bl b
  | .int i _ => .int i
  | .str x _ => .str x
  | .bytes b _ => .byt b
  | .ref a => .ref a
  | _ => .non
/-- a value of the arguments, its objects among A -/
def OkU (A : List Addr) : Value → Prop
  | .none => True
  | .bool _ => True
  | .int _ _ => True
  | .str _ _ => True
  | .bytes _ _ => True
  | .ref a => a ∈ A
  | _ => False
theorem OkU.mono {A B : List Addr} (h : ∀ a ∈ A, a ∈ B) : ∀ {u : Value}, OkU A u → OkU B u := fun {u} x => by
  cases u with
  | ref a => exact h a x
  | none => trivial
  | bool b => trivial
  | int i t => trivial
  | str s t => trivial
  | bytes b t => trivial
  | _ => exact False.elim x
theorem relV_toV {A : List Addr} {u : Value} (x : OkU A u) : RelV (toV u) u := by
  cases u with
  | ref a => rfl
  | none => rfl
  | bool b => rfl
  | int i t => exact ⟨t, rfl⟩
  | str s t => exact ⟨t, rfl⟩
  | bytes b t => exact ⟨t, rfl⟩
  | _ => exact False.elim x
theorem vals_toV {A : List Addr} : ∀ {vs : List Value}, (∀ u ∈ vs, OkU A u) → Vals (vs.map toV) vs
  | [], _ => .nil
  | u :: r, h => .cons (relV_toV (h u (List.mem_cons_self ..))) (vals_toV fun x hx => h x (List.mem_cons_of_mem _ hx))
/-- an object of the arguments -/
def ArgOb (h : Heap) (A : List Addr) (a : Addr) : Prop := ∃ vs : List Value, vs.length ≤ sizeLine ∧ (∀ u ∈ vs, OkU A u) ∧
  (h.get? a = some { cls := .type "list", data := .seq vs.toArray } ∨ h.get? a = some { cls := .type "tuple", data := .seq vs.toArray })
theorem ArgOb.mono {h : Heap} {A B : List Addr} {a : Addr} (k : ∀ a ∈ A, a ∈ B) (x : ArgOb h A a) : ArgOb h B a := by
  obtain ⟨vs, h1, h2, h3⟩ := x
  exact ⟨vs, h1, fun u hu => (h2 u hu).mono k, h3⟩
theorem wellAll_len {P : Params} {h : Heap} : ∀ {vs : List Value} {ds : List WData}, WellAll P h vs ds → vs.length = ds.length
  | _, _, .nil => rfl
  | _, _, .cons _ b => by
    show _ + 1 = _ + 1
    rw [wellAll_len b]
theorem well_list {P : Params} {h : Heap} {v : Value} {ds : List WData} (x : Well P h v (.list ds)) : ∃ (a : Addr) (vs : List Value), v = .ref a ∧ h.get? a = some { cls := .type "list", data := .seq vs.toArray } ∧ WellAll P h vs ds := by
  cases x with
  | list ho hall => exact ⟨_, _, rfl, ho, hall⟩
theorem well_tuple {P : Params} {h : Heap} {v : Value} {ds : List WData} (x : Well P h v (.tuple ds)) : ∃ (a : Addr) (vs : List Value), v = .ref a ∧ h.get? a = some { cls := .type "tuple", data := .seq vs.toArray } ∧ WellAll P h vs ds := by
  cases x with
  | tuple ho hall => exact ⟨_, _, rfl, ho, hall⟩
theorem well_cons {P : Params} {h : Heap} {us : List Value} {d : WData} {ds : List WData} (x : WellAll P h us (d :: ds)) : ∃ (v : Value) (vs : List Value), us = v :: vs ∧ Well P h v d ∧ WellAll P h vs ds := by
  cases x with
  | cons a b => exact ⟨_, _, rfl, a, b⟩
theorem line_of {n : Nat} (h : n ≤ 1048576) : n ≤ sizeLine := Nat.le_trans h (by decide)
section
variable {P : Params} {h : Heap}
mutual
theorem area_one : ∀ (d : WData) (v : Value), Well P h v d → plW d = true → d.weight ≤ 1048576 → ∃ A : List Addr, OkU A v ∧ ∀ a ∈ A, ArgOb h A a
  | .none, _, x, _, _ => by
    cases x
    exact ⟨[], trivial, fun a m => absurd m (by simp)⟩
  | .bool b, _, x, _, _ => by
    cases x
    exact ⟨[], trivial, fun a m => absurd m (by simp)⟩
  | .int i, _, x, _, _ => by
    cases x
    exact ⟨[], trivial, fun a m => absurd m (by simp)⟩
  | .str s, _, x, _, _ => by
    cases x
    exact ⟨[], trivial, fun a m => absurd m (by simp)⟩
  | .bytes b, _, x, _, _ => by
    cases x
    exact ⟨[], trivial, fun a m => absurd m (by simp)⟩
  | .list ds, _, x, p, z => by
    obtain ⟨a, vs, rfl, ho, hall⟩ := well_list x
    have z2 : WData.weightAll ds ≤ 1048576 := z
    obtain ⟨A, h1, h2⟩ := area_all ds _ hall p fun d hd => Nat.le_trans (weight_mem hd) z2
    have k : ∀ b ∈ A, b ∈ a :: A := fun b hb => List.mem_cons_of_mem _ hb
    refine ⟨a :: A, List.mem_cons_self .., fun b hb => ?_⟩
    rcases List.mem_cons.mp hb with e | m
    · rw [e]
      exact ⟨vs, line_of (by rw [wellAll_len hall]; exact Nat.le_trans (PySem.W.length_le_weightAllW ds) z2), fun u hu => (h1 u hu).mono k, .inl ho⟩
    · exact (h2 b m).mono k
  | .tuple ds, _, x, p, z => by
    obtain ⟨a, vs, rfl, ho, hall⟩ := well_tuple x
    have z2 : WData.weightAll ds ≤ 1048576 := z
    obtain ⟨A, h1, h2⟩ := area_all ds _ hall p fun d hd => Nat.le_trans (weight_mem hd) z2
    have k : ∀ b ∈ A, b ∈ a :: A := fun b hb => List.mem_cons_of_mem _ hb
    refine ⟨a :: A, List.mem_cons_self .., fun b hb => ?_⟩
    rcases List.mem_cons.mp hb with e | m
    · rw [e]
      exact ⟨vs, line_of (by rw [wellAll_len hall]; exact Nat.le_trans (PySem.W.length_le_weightAllW ds) z2), fun u hu => (h1 u hu).mono k, .inr ho⟩
    · exact (h2 b m).mono k
  | .float _, _, _, p, _ => Bool.noConfusion (show false = true from p)
  | .dict _, _, _, p, _ => Bool.noConfusion (show false = true from p)
  | .bytearray _, _, _, p, _ => Bool.noConfusion (show false = true from p)
  | .set _, _, _, p, _ => Bool.noConfusion (show false = true from p)
  | .frozenset _, _, _, p, _ => Bool.noConfusion (show false = true from p)
  | .obj _ _, _, _, p, _ => Bool.noConfusion (show false = true from p)
theorem area_all : ∀ (ds : List WData) (vs : List Value), WellAll P h vs ds → plWs ds = true → (∀ d ∈ ds, d.weight ≤ 1048576) → ∃ A : List Addr, (∀ u ∈ vs, OkU A u) ∧ ∀ a ∈ A, ArgOb h A a
  | [], _, x, _, _ => by
    cases x
    exact ⟨[], fun u m => absurd m (by simp), fun a m => absurd m (by simp)⟩
  | d :: ds, _, x, p, z => by
    obtain ⟨v, vs, rfl, x1, x2⟩ := well_cons x
    have q : plW d = true ∧ plWs ds = true := Bool.and_eq_true_iff.mp p
    obtain ⟨A, a1, a2⟩ := area_one d v x1 q.1 (z d (List.mem_cons_self ..))
    obtain ⟨B, b1, b2⟩ := area_all ds vs x2 q.2 fun e he => z e (List.mem_cons_of_mem _ he)
    have kA : ∀ b ∈ A, b ∈ A ++ B := fun b hb => List.mem_append.mpr (.inl hb)
    have kB : ∀ b ∈ B, b ∈ A ++ B := fun b hb => List.mem_append.mpr (.inr hb)
    refine ⟨A ++ B, fun u hu => ?_, fun b hb => ?_⟩
    · rcases List.mem_cons.mp hu with e | m
      · rw [e]
        exact a1.mono kA
      · exact (b1 u m).mono kB
    · rcases List.mem_append.mp hb with m | m
      · exact (a2 b m).mono kA
      · exact (b2 b m).mono kB
end
end
/-- what is tracked of an argument's object -/
def hoOf (o : Obj) : Option HO := match o.data with
  | .seq vs _ => if (o.cls == Value.type "list") = true then some (.frz o (.lst (vs.toList.map toV))) else some (.frz o (.tup (vs.toList.map toV)))
  | _ => none
def argH (K : PySem.W.Frag) (h : Heap) (A : List Addr) : Hp := fun b => if b ∈ A then (if (K.lookup b).isNone = true then (h.get? b).bind hoOf else none) else none
/-- nothing is tracked but what is known to the object -/
def OnlyF (H : Hp) : Prop := ∀ b, H b = none ∨ ∃ o u, H b = some (.frz o u)
theorem hoOf_lst (vs : List Value) : hoOf { cls := .type "list", data := .seq vs.toArray } = some (.frz { cls := .type "list", data := .seq vs.toArray } (.lst (vs.map toV))) := by
  show (if (Value.type "list" == Value.type "list") = true then some (HO.frz { cls := .type "list", data := .seq vs.toArray } (.lst (vs.toArray.toList.map toV))) else some (HO.frz { cls := .type "list", data := .seq vs.toArray } (.tup (vs.toArray.toList.map toV)))) = _
  rw [if_pos (beq_self_eq_true _)]
theorem hoOf_tup (vs : List Value) : hoOf { cls := .type "tuple", data := .seq vs.toArray } = some (.frz { cls := .type "tuple", data := .seq vs.toArray } (.tup (vs.map toV))) := by
  show (if (Value.type "tuple" == Value.type "list") = true then some (HO.frz { cls := .type "tuple", data := .seq vs.toArray } (.lst (vs.toArray.toList.map toV))) else some (HO.frz { cls := .type "tuple", data := .seq vs.toArray } (.tup (vs.toArray.toList.map toV)))) = _
  rw [if_neg (by decide)]
section
variable {P : Program} {w : World} {K : PySem.W.Frag} {h : Heap} {A : List Addr}
theorem argH_at {b : Addr} {o : Obj} (hb : b ∈ A) (hk : K.lookup b = none) (e : h.get? b = some o) : argH K h A b = hoOf o := by
  unfold argH
  rw [if_pos hb, hk, if_pos (show (none : Option Obj).isNone = true from rfl), e] <;> rfl
theorem of_argH {b : Addr} {u : HO} (q : argH K h A b = some u) : b ∈ A ∧ K.lookup b = none := by
  unfold argH at q
  by_cases hb : b ∈ A
  · rw [if_pos hb] at q
    cases hk : K.lookup b with
    | none => exact ⟨hb, rfl⟩
    | some o =>
      rw [hk, if_neg (by simp)] at q
      cases q
  · rw [if_neg hb] at q
    cases q
/-- what stands tracked -/
theorem argH_is (ar : ∀ a ∈ A, ArgOb h A a) {b : Addr} {u : HO} (q : argH K h A b = some u) : K.lookup b = none ∧ ∃ vs : List Value, vs.length ≤ sizeLine ∧ (∀ u ∈ vs, OkU A u) ∧
    ((h.get? b = some { cls := .type "list", data := .seq vs.toArray } ∧ u = .frz { cls := .type "list", data := .seq vs.toArray } (.lst (vs.map toV))) ∨
     (h.get? b = some { cls := .type "tuple", data := .seq vs.toArray } ∧ u = .frz { cls := .type "tuple", data := .seq vs.toArray } (.tup (vs.map toV)))) := by
  obtain ⟨hb, hk⟩ := of_argH q
  obtain ⟨vs, h1, h2, h3⟩ := ar b hb
  refine ⟨hk, vs, h1, h2, ?_⟩
  rcases h3 with e | e
  · rw [argH_at hb hk e, hoOf_lst] at q
    exact .inl ⟨e, (Option.some.inj q).symm⟩
  · rw [argH_at hb hk e, hoOf_tup] at q
    exact .inr ⟨e, (Option.some.inj q).symm⟩
theorem argH_only (ar : ∀ a ∈ A, ArgOb h A a) : OnlyF (argH K h A) := fun b => by
  cases q : argH K h A b with
  | none => exact .inl rfl
  | some u =>
    obtain ⟨_, vs, _, _, ⟨_, e⟩ | ⟨_, e⟩⟩ := argH_is ar q
    · exact .inr ⟨_, _, by rw [e]⟩
    · exact .inr ⟨_, _, by rw [e]⟩
theorem argH_ok (ar : ∀ a ∈ A, ArgOb h A a) : HOk P w (argH K h A) h := fun b u q => by
  obtain ⟨_, vs, h1, h2, ⟨e, rfl⟩ | ⟨e, rfl⟩⟩ := argH_is ar q
  · exact ⟨e, by rw [List.length_map]; exact h1, vs, _, vals_toV h2, e⟩
  · exact ⟨e, by rw [List.length_map]; exact h1, vs, vals_toV h2, _, e, rfl, _, rfl⟩
theorem seq_inj {c c' : Value} {vs us : List Value} (e : (some { cls := c, data := .seq vs.toArray } : Option Obj) = some { cls := c', data := .seq us.toArray }) : c = c' ∧ vs = us := by
  have e1 := Option.some.inj e
  have e2 : c = c' := congrArg Obj.cls e1
  have e3 : Data.seq vs.toArray = Data.seq us.toArray := congrArg Obj.data e1
  injection e3 with e4
  refine ⟨e2, ?_⟩
  have e5 := congrArg Array.toList e4
  simpa using e5
/-- a list argument -/
theorem argL (KX : K.In h) (ar : ∀ a ∈ A, ArgOb h A a) {a : Addr} {vs : List Value} (ha : a ∈ A) (e : h.get? a = some { cls := .type "list", data := .seq vs.toArray }) : (∀ u ∈ vs, OkU A u) ∧ SqL K (argH K h A) a (vs.map toV) := by
  obtain ⟨us, h1, h2, h3⟩ := ar a ha
  have hu : us = vs := by
    rcases h3 with q | q
    · rw [e] at q
      exact (seq_inj q).2.symm
    · rw [e] at q
      exact absurd (Value.type.inj (seq_inj q).1) (by decide)
  subst hu
  refine ⟨h2, ?_⟩
  cases hk : K.lookup a with
  | none => exact .inl (.inr ⟨_, by rw [argH_at ha hk e, hoOf_lst]⟩)
  | some o =>
    have e2 := KX a o hk
    rw [e] at e2
    obtain rfl := Option.some.inj e2
    exact .inr ⟨_, us.toArray, _, hk, rfl, rfl, rfl, by rw [List.size_toArray]; exact h1, by simpa using vals_toV h2⟩
theorem argT (KX : K.In h) (ar : ∀ a ∈ A, ArgOb h A a) {a : Addr} {vs : List Value} (ha : a ∈ A) (e : h.get? a = some { cls := .type "tuple", data := .seq vs.toArray }) : (∀ u ∈ vs, OkU A u) ∧ SqT K (argH K h A) a (vs.map toV) := by
  obtain ⟨us, h1, h2, h3⟩ := ar a ha
  have hu : us = vs := by
    rcases h3 with q | q
    · rw [e] at q
      exact absurd (Value.type.inj (seq_inj q).1) (by decide)
    · rw [e] at q
      exact (seq_inj q).2.symm
  subst hu
  refine ⟨h2, ?_⟩
  cases hk : K.lookup a with
  | none => exact .inl (.inr ⟨_, by rw [argH_at ha hk e, hoOf_tup]⟩)
  | some o =>
    have e2 := KX a o hk
    rw [e] at e2
    obtain rfl := Option.some.inj e2
    exact .inr ⟨_, us.toArray, _, hk, rfl, rfl, by rw [List.size_toArray]; exact h1, by simpa using vals_toV h2⟩
mutual
theorem dw_one {Pm : Params} (KX : K.In h) (ar : ∀ a ∈ A, ArgOb h A a) : ∀ (d : WData) (v : Value), Well Pm h v d → plW d = true → OkU A v → Dw K (argH K h A) (toV v) d
  | .none, _, x, _, _ => by
    cases x
    exact .non
  | .bool b, _, x, _, _ => by
    cases x
    exact .bl b
  | .int i, _, x, _, _ => by
    cases x
    exact .int i
  | .str s, _, x, _, _ => by
    cases x
    exact .str s
  | .bytes b, _, x, _, _ => by
    cases x
    have z := Dw.byt (K := K) (H := argH K h A) b.toArray
    exact z
  | .list ds, _, x, p, hu => by
    obtain ⟨a, vs, rfl, ho, hall⟩ := well_list x
    obtain ⟨h2, hs⟩ := argL KX ar hu ho
    exact .lst hs (dw_all KX ar ds _ hall p h2)
  | .tuple ds, _, x, p, hu => by
    obtain ⟨a, vs, rfl, ho, hall⟩ := well_tuple x
    obtain ⟨h2, hs⟩ := argT KX ar hu ho
    exact .tup hs (dw_all KX ar ds _ hall p h2)
  | .float _, _, _, p, _ => Bool.noConfusion (show false = true from p)
  | .dict _, _, _, p, _ => Bool.noConfusion (show false = true from p)
  | .bytearray _, _, _, p, _ => Bool.noConfusion (show false = true from p)
  | .set _, _, _, p, _ => Bool.noConfusion (show false = true from p)
  | .frozenset _, _, _, p, _ => Bool.noConfusion (show false = true from p)
  | .obj _ _, _, _, p, _ => Bool.noConfusion (show false = true from p)
theorem dw_all {Pm : Params} (KX : K.In h) (ar : ∀ a ∈ A, ArgOb h A a) : ∀ (ds : List WData) (vs : List Value), WellAll Pm h vs ds → plWs ds = true → (∀ u ∈ vs, OkU A u) → DwAll K (argH K h A) (vs.map toV) ds
  | [], _, x, _, _ => by
    cases x
    exact .nil
  | d :: ds, _, x, p, hu => by
    obtain ⟨v, vs, rfl, x1, x2⟩ := well_cons x
    have q : plW d = true ∧ plWs ds = true := Bool.and_eq_true_iff.mp p
    exact .cons (dw_one KX ar d v x1 q.1 (hu _ (List.mem_cons_self ..))) (dw_all KX ar ds vs x2 q.2 fun u m => hu u (List.mem_cons_of_mem _ m))
end
end
/-! ### the call -/
theorem spec_call {P : Program} {w : World} {K : PySem.W.Frag} {mg mb : Str → Option Value} {CX : CXT} {k : Nat} {fa : Addr} {fd : FuncData} {ps : List Str} {sp : Sp} {s₁ : Shared} {vals : List Value} {ds : List WData} {R : PySem.W.WRecords} {cl : Str → Option Addr} {d0 : WData}
    (KX : K.In s₁.heap) (hns : s₁.heap.Ns mainGlobals mg) (hb : s₁.heap.Ns builtinsNs mb) (hbb : ∀ x : Str, x ≠ "__name__" → mb x = bootBuiltins x) (hlim : s₁.heap.NoLimit) (hg : s₁.gens = #[])
    (hwl : WellAll w.params s₁.heap vals ds) (hpl : plWs ds = true) (hwt : ∀ d ∈ ds, d.weight ≤ 1048576) (hr : Room k callerA)
    (F : ∀ base : Heap, K.In base → base.Ns mainGlobals mg → FnOk P w K mg base CX k fa fd ps sp) (hbind : ∀ (s : Shared) (us : List Value), us.length = ps.length → BindsTo s fd ⟨us, []⟩ (ps.zip us)) (hlen : ds.length = ps.length)
    (hsp : ∀ (H : Hp) (xs : List V), OnlyF H → DwAll K H xs ds → sp xs H (fun v H' => Dw K H' v d0) fun _ _ _ => False)
    (hCX : ∀ H e s', CX [] H s₁ (fun _ _ _ => False) e s' → False) :
    codeAny (model P w) callerA (.call (.ref fa) ⟨vals, []⟩) (fun r s' => ∃ u as, r = .ok (.ret u) ∧ ReadsW R cl s'.heap u d0 as ∧ OldK s₁.heap s'.heap ∧ s'.os = s₁.os ∧ AllBare s'.gens) s₁ := by
  obtain ⟨A, ho, ar⟩ := area_all ds vals hwl hpl hwt
  have hO : OnlyF (argH K s₁.heap A) := argH_only ar
  have hok : HOk P w (argH K s₁.heap A) s₁.heap := argH_ok ar
  have hS := dw_all KX ar ds vals hwl hpl ho
  have hV := vals_toV ho
  have hK : ∀ b u, argH K s₁.heap A b = some u → K.lookup b = none := fun b u q => (argH_is ar q).1
  have noA : ∀ {b : Addr} {o : Obj} {es : Array DictEntry} {ep : Nat}, s₁.heap.get? b = some o → o.data = .dict es ep → argH K s₁.heap A b = none := fun {b o es ep} e d => by
    cases q : argH K s₁.heap A b with
    | none => rfl
    | some u =>
      obtain ⟨_, vs, _, _, ⟨e2, _⟩ | ⟨e2, _⟩⟩ := argH_is ar q
      · rw [e2] at e
        cases e
        have d' : Data.seq vs.toArray _ = Data.dict es ep := d
        cases d'
      · rw [e2] at e
        cases e
        have d' : Data.seq vs.toArray _ = Data.dict es ep := d
        cases d'
  generalize argH K s₁.heap A = H at hO hok hS hK noA
  have base_of : ∀ {b : Addr} {o : Obj}, s₁.heap.get? b = some o → H b = none → (hidT s₁.heap H).get? b = some o := fun e n => hidT_get e n
  have nsK : ∀ {b : Addr} {m : Str → Option Value}, s₁.heap.Ns b m → (hidT s₁.heap H).Ns b m := fun {b m} ⟨o, es, ep, e, d, r⟩ => ⟨o, es, ep, base_of e (noA e d), d, r⟩
  have nK : ∀ b o, K.lookup b = some o → H b = none := fun b o e => by
    cases q : H b with
    | none => rfl
    | some u =>
      rw [hK b u q] at e
      cases e
  have hKb : K.In (hidT s₁.heap H) := fun b o e => base_of (KX b o e) (nK b o e)
  have hM : Mod K mg (hidT s₁.heap H) := ⟨hKb, nsK hns, ⟨mb, nsK hb, hbb⟩, let ⟨mc, h1, h2⟩ := hlim; ⟨mc, nsK h1, h2⟩⟩
  have e0 : Env0 P w K mg (hidT s₁.heap H) callerA [] s₁ H := ⟨rfl, hM, fun b o e => of_hidT e, Nat.le_of_eq (hidT_size _ _), trivial, fun b hb => absurd (show b ∈ ([] : List Addr) from hb) (by simp), hok, .of_eq hg⟩
  have hl : vals.length = ps.length := by rw [wellAll_len hwl]; exact hlen
  refine codeAny_mono ((F _ hKb (nsK hns)).run callerA [] s₁ H ⟨vals, []⟩ vals (vals.map toV) _ _ hr e0 (hbind s₁ vals hl) hV (hsp H _ hO hS)) fun r s' x => ?_
  cases r with
  | error e => exact (hCX H e s' x).elim
  | ok fl =>
    cases fl with
    | next => exact False.elim x
    | brk => exact False.elim x
    | cont => exact False.elim x
    | ret u =>
      obtain ⟨v, H', os, bare, un, hok', r', q⟩ := x
      have kept : ∀ b o, s₁.heap.get? b = some o → s'.heap.get? b = some o := fun b o e => by
        cases q2 : H b with
        | none => exact un.keep b o e q2 (by intro z; exact absurd (show b ∈ ([] : List Addr) from z) (by simp)) (by simp)
        | some u2 =>
          rcases hO b with z | ⟨ob, u3, z⟩
          · rw [q2] at z
            cases z
          · have z2 := un.frzs b ob _ z
            obtain ⟨e1, _⟩ := hok b _ z
            obtain ⟨e2, _⟩ := hok' b _ z2
            rw [e] at e1
            cases e1
            exact e2
      have KX' : K.In s'.heap := fun b o e => kept b o (KX b o e)
      obtain ⟨as, hrd⟩ := Dw.reads (R := R) (cl := cl) hok' KX' d0 v u q r'
      exact ⟨u, as, rfl, hrd, OldK.of_keep kept, os, bare⟩
/-! ### the row -/
theorem layable_weight {ds : List WData} (h : WData.layableAll ds = true) : ∀ d ∈ ds, d.weight ≤ 1048576 := fun d hd =>
  (PySem.W.layableW_iff.mp (List.all_eq_true.mp h d hd)).2.2
theorem encAll_len : ∀ (cs : List Codec) (a : Codec.denoteAll cs), (Codec.encAll cs a).length = cs.length
  | [], _ => rfl
  | c :: cs, a => by
    show (Codec.encAll cs a.2).length + 1 = cs.length + 1
    rw [encAll_len cs a.2]
/-- the goal that k_headS leaves (case hc), from the promise of the row's def: whatever the arguments that the codecs let and the row asks for, the def gives what stands for enc (f ..) -/
theorem walk_spec {r : OpenSpec} {k : Nat} {q : Program} {loose : List Str} {XP : (Str → Option Value) → Heap → Prop} {YP : World → Heap → Prop} {d : DefRec} {K : Params → PySem.W.Frag} {CX : World → CXT} {ps : List Str} {sp : World → Sp}
    (hwell : r.wellSaid = true) (hdf : d.params.defaults = []) (hlen : r.args.length = ps.length) (hr : Room k callerA)
    (hY : ∀ (w : World) (h : Heap), YP w h → (K w.params).In h)
    (F : ∀ (w : World) (mg : Str → Option Value) (fa : Addr) (h : Heap), YP w h → (K w.params).In h → h.Ns mainGlobals mg → mg d.name = some (.ref fa) →
      ∃ fd : FuncData, (∀ (s : Shared) (us : List Value), us.length = ps.length → BindsTo s fd ⟨us, []⟩ (ps.zip us)) ∧
        ∀ base : Heap, (K w.params).In base → base.Ns mainGlobals mg → FnOk r.prog w (K w.params) mg base (CX w) k fa fd ps (sp w))
    (hsp : ∀ (w : World) (H : Hp) (xs : List V) (a : Codec.denoteAll r.args), OnlyF H → Codec.withinAll r.args a = true → Codec.app r.args r.asked a = true → DwAll (K w.params) H xs (Codec.encAll r.args a) →
      sp w xs H (fun v H' => Dw (K w.params) H' v (r.ret.enc (Codec.app r.args r.f a))) fun _ _ _ => False)
    (hCX : ∀ (w : World) (H : Hp) (s : Shared) (e : Value) (s' : Shared), CX w [] H s (fun _ _ _ => False) e s' → False) :
    PySem.W.WalkOS q loose XP YP r d [] (fun f vs => PySem.call f vs) := by
  intro w s_0 s₁ mg mb G Y fa o pm cd doc dV kV ho hd hcd hD hmg hg args vals as hpre hlay hrd hwl hlo
  obtain ⟨a, e1, e2⟩ := PySem.W.os_pre_some hpre
  obtain ⟨e3, hwi⟩ := Codec.encAll_of_decAll r.args args a e1
  subst e3
  have KX := hY w _ Y
  obtain ⟨fd, hb, hF⟩ := F w mg fa _ Y KX G.T.g hmg
  refine PySem.W.enter_call (codeAny_mono (spec_call (R := []) (cl := classAt s_0.heap) (d0 := r.ret.enc (Codec.app r.args r.f a)) KX G.T.g G.T.b G.T.builtins G.T.nolimit hg hwl (pl_encAll _ _) (layable_weight hlay) hr hF hb (by rw [encAll_len]; exact hlen)
    (fun H xs hO hS => hsp w H xs a hO hwi e2 hS) fun H e s' => hCX w H s₁ e s') fun r' s' hq => ?_)
  obtain ⟨u, as', rfl, h1, h2, h3, h4⟩ := hq
  exact ⟨.inl ⟨u, _, as', rfl, fun _ => rfl, h1, (OpenSpec.post_iff hwell hwi _ _).mpr rfl, fun z => Bool.noConfusion (show false = true from z)⟩, h2, h3, h4⟩
/-- the same where the promise hangs on the written part alone -/
theorem walk_specK {r : OpenSpec} {k : Nat} {q : Program} {loose : List Str} {XP : (Str → Option Value) → Heap → Prop} {YP : World → Heap → Prop} {d : DefRec} {K : Params → PySem.W.Frag} {CX : CXT} {ps : List Str} {sp : PySem.W.Frag → Sp}
    (hwell : r.wellSaid = true) (hdf : d.params.defaults = []) (hlen : r.args.length = ps.length) (hr : Room k callerA)
    (hY : ∀ (w : World) (h : Heap), YP w h → (K w.params).In h)
    (F : ∀ (w : World) (mg : Str → Option Value) (fa : Addr) (h : Heap), YP w h → (K w.params).In h → h.Ns mainGlobals mg → mg d.name = some (.ref fa) →
      ∃ fd : FuncData, (∀ (s : Shared) (us : List Value), us.length = ps.length → BindsTo s fd ⟨us, []⟩ (ps.zip us)) ∧
        ∀ base : Heap, (K w.params).In base → base.Ns mainGlobals mg → FnOk r.prog w (K w.params) mg base CX k fa fd ps (sp (K w.params)))
    (hsp : ∀ (K : PySem.W.Frag) (H : Hp) (xs : List V) (a : Codec.denoteAll r.args), OnlyF H → Codec.withinAll r.args a = true → Codec.app r.args r.asked a = true → DwAll K H xs (Codec.encAll r.args a) →
      sp K xs H (fun v H' => Dw K H' v (r.ret.enc (Codec.app r.args r.f a))) fun _ _ _ => False)
    (hCX : ∀ (H : Hp) (s : Shared) (e : Value) (s' : Shared), CX [] H s (fun _ _ _ => False) e s' → False) :
    PySem.W.WalkOS q loose XP YP r d [] (fun f vs => PySem.call f vs) :=
  walk_spec (K := K) (CX := fun _ => CX) (sp := fun w => sp (K w.params)) hwell hdf hlen hr hY F (fun w H xs a h1 h2 h3 h4 => hsp (K w.params) H xs a h1 h2 h3 h4) fun _ H s e s' => hCX H s e s'
end L2
-- rests on (row put in by the clerk, for the bench that shows a file only what it spells): KE.SpHead KE.OsShapes
end
/-! What carrying costs: the specification's rounds and a list of marks that is bettered in place come to the same. Plain Lean. -/
namespace Fr
open Sw98
/-- a way from j to the gate over roads of l: the places it passes (j first, the gate last), and what it costs -/
inductive Way (l : List Road) : Nat → List Nat → Nat → Prop where
  | gate : Way l 0 [0] 0
  | step {j k c : Nat} {vs : List Nat} {r : Road} (m : r ∈ l) (e : (r.a = j ∧ r.b = k) ∨ (r.b = j ∧ r.a = k)) (w : Way l k vs c) : Way l j (j :: vs) (c + r.carry)
/-- the roads' ends are places -/
def Ends (l : List Road) (p : Nat) : Prop := ∀ r, r ∈ l → r.a < p ∧ r.b < p
theorem Way.places {l : List Road} {p : Nat} (hp : 0 < p) (hl : Ends l p) {j c : Nat} {vs : List Nat} (w : Way l j vs c) : j < p ∧ ∀ x, x ∈ vs → x < p := by
  induction w with
  | gate => exact ⟨hp, fun x h => by simp at h; omega⟩
  | @step j k c vs r m e w ih =>
    have h := hl _ m
    have hj : j < p := by
      rcases e with ⟨e, _⟩ | ⟨e, _⟩
      · exact e ▸ h.1
      · exact e ▸ h.2
    refine ⟨hj, fun x hx => ?_⟩
    rcases List.mem_cons.mp hx with rfl | hx
    · exact hj
    · exact ih.2 x hx
theorem Way.pos {l : List Road} {j c : Nat} {vs : List Nat} (w : Way l j vs c) : 1 ≤ vs.length := by
  cases w <;> simp
/-- a way's rest from one of its places on -/
theorem Way.cut {l : List Road} {j c : Nat} {vs : List Nat} (w : Way l j vs c) (nd : vs.Nodup) : ∀ x, x ∈ vs → ∃ vs' c', Way l x vs' c' ∧ c' ≤ c ∧ vs'.Nodup := by
  induction w with
  | gate =>
    intro x h
    simp at h
    subst h
    exact ⟨_, _, .gate, Nat.le_refl _, nd⟩
  | step m e w ih =>
    intro x h
    rcases List.mem_cons.mp h with rfl | h
    · exact ⟨_, _, .step m e w, Nat.le_refl _, nd⟩
    · obtain ⟨v, c', a, b, d⟩ := ih (List.nodup_cons.mp nd).2 x h
      exact ⟨v, c', a, by omega, d⟩
/-- no dearer way passes no place twice -/
theorem Way.simple {l : List Road} {j c : Nat} {vs : List Nat} (w : Way l j vs c) : ∃ vs' c', Way l j vs' c' ∧ c' ≤ c ∧ vs'.Nodup := by
  induction w with
  | gate => exact ⟨_, _, .gate, Nat.le_refl _, by simp⟩
  | @step j k c vs r m e w ih =>
    obtain ⟨v, c', a, b, d⟩ := ih
    by_cases h : j ∈ v
    · obtain ⟨v2, c2, a2, b2, d2⟩ := a.cut d j h
      exact ⟨v2, c2, a2, by omega, d2⟩
    · exact ⟨_, _, .step m e a, by omega, List.nodup_cons.mpr ⟨h, d⟩⟩
theorem nodup_short : ∀ (p : Nat) (l : List Nat), l.Nodup → (∀ x, x ∈ l → x < p) → l.length ≤ p
  | 0, l, _, h => by
    cases l with
    | nil => simp
    | cons a l => exact absurd (h a (by simp)) (by omega)
  | p + 1, l, nd, h => by
    have h1 := nodup_short p (l.erase p) (nd.erase p) fun x hx => by
      have a := h x (List.mem_of_mem_erase hx)
      have b : x ≠ p := fun e => by
        subst e
        exact (List.Nodup.not_mem_erase nd) hx
      omega
    rw [List.length_erase] at h1
    split at h1 <;> omega
/-- no dearer way has fewer roads than there are places -/
theorem Way.short {l : List Road} {p : Nat} (hp : 0 < p) (hl : Ends l p) {j c : Nat} {vs : List Nat} (w : Way l j vs c) : ∃ vs' c', Way l j vs' c' ∧ c' ≤ c ∧ vs'.length ≤ p := by
  obtain ⟨v, c', a, b, d⟩ := w.simple
  exact ⟨v, c', a, b, nodup_short p v d (a.places hp hl).2⟩
/-- the list t tells what carrying costs, over ways that pass at most n places -/
structure Tells (l : List Road) (p n : Nat) (t : List (Option Nat)) : Prop where
  len : t.length = p
  sound : ∀ (j x : Nat), t[j]? = some (some x) → ∃ vs, Way l j vs x
  full : ∀ (j : Nat) (vs : List Nat) (c : Nat), Way l j vs c → vs.length ≤ n → ∃ x, t[j]? = some (some x) ∧ x ≤ c
theorem Tells.mono {l : List Road} {p n m : Nat} {t : List (Option Nat)} (T : Tells l p n t) (h : m ≤ n) : Tells l p m t := ⟨T.len, T.sound, fun j vs c w q => T.full j vs c w (by omega)⟩
/-- from as many places on as there are, of all ways -/
theorem Tells.all {l : List Road} {p n : Nat} {t : List (Option Nat)} (hp : 0 < p) (hl : Ends l p) (T : Tells l p n t) (hn : p ≤ n) : ∀ m, Tells l p m t := fun m => ⟨T.len, T.sound, fun j vs c w _ => by
  obtain ⟨v, c', a, b, d⟩ := w.short hp hl
  obtain ⟨x, e, f⟩ := T.full j v c' a (by omega)
  exact ⟨x, e, by omega⟩⟩
/-- just one list tells it -/
theorem Tells.one {l : List Road} {p : Nat} {t u : List (Option Nat)} (T : ∀ m, Tells l p m t) (U : ∀ m, Tells l p m u) : t = u := by
  have key : ∀ {t u : List (Option Nat)}, (∀ m, Tells l p m t) → (∀ m, Tells l p m u) → ∀ (j x : Nat), t[j]? = some (some x) → u[j]? = some (some x) := by
    intro t u T U j x e
    obtain ⟨vs, w⟩ := (T 0).sound j x e
    obtain ⟨y, ey, ly⟩ := (U vs.length).full j vs x w (Nat.le_refl _)
    obtain ⟨vs2, w2⟩ := (U 0).sound j y ey
    obtain ⟨z, ez, lz⟩ := (T vs2.length).full j vs2 y w2 (Nat.le_refl _)
    rw [e] at ez
    have : x = z := Option.some.inj (Option.some.inj ez)
    have : x = y := by omega
    rw [this]
    exact ey
  apply List.ext_getElem?
  intro j
  have lt := (T 0).len
  have lu := (U 0).len
  by_cases hj : j < p
  · have h1 : t[j]? = some t[j] := List.getElem?_eq_getElem (by omega)
    have h2 : u[j]? = some u[j] := List.getElem?_eq_getElem (by omega)
    cases e1 : t[j] with
    | some x =>
      rw [e1] at h1
      rw [h1, key T U j x h1]
    | none =>
      cases e2 : u[j] with
      | none => rw [h1, h2, e1, e2]
      | some y =>
        rw [e2] at h2
        have := key U T j y h2
        rw [h1, e1] at this
        cases this
  · rw [List.getElem?_eq_none_iff.mpr (by omega), List.getElem?_eq_none_iff.mpr (by omega)]
/-- at the beginning: the gate alone -/
def start (p : Nat) : List (Option Nat) := (List.range p).map fun i => if i = 0 then some 0 else none
theorem start_at {p j : Nat} {x : Nat} (h : (start p)[j]? = some (some x)) : j = 0 ∧ x = 0 := by
  unfold start at h
  rw [List.getElem?_map] at h
  cases e : (List.range p)[j]? with
  | none => rw [e] at h; cases h
  | some i =>
    rw [e] at h
    have hi : i = j := by
      obtain ⟨_, q⟩ := List.getElem?_eq_some_iff.mp e
      rw [List.getElem_range] at q
      exact q.symm
    subst hi
    have h : (if i = 0 then some 0 else none) = some x := Option.some.inj h
    split at h
    · exact ⟨by assumption, (Option.some.inj h).symm⟩
    · cases h
theorem start_tells {l : List Road} {p : Nat} (hp : 0 < p) : Tells l p 1 (start p) := by
  refine ⟨by unfold start; simp, fun j x h => ?_, fun j vs c w h => ?_⟩
  · obtain ⟨rfl, rfl⟩ := start_at h
    exact ⟨_, .gate⟩
  · cases w with
    | gate =>
      refine ⟨0, ?_, Nat.le_refl _⟩
      unfold start
      rw [List.getElem?_map, List.getElem?_range hp]
      rfl
    | step m e w =>
      have := w.pos
      rw [List.length_cons] at h
      omega
/-! ### the specification's rounds -/
theorem sooner_some {a b : Option Nat} {x : Nat} (h : sooner a b = some x) : a = some x ∨ b = some x := by
  unfold sooner at h
  cases a with
  | none => exact .inr h
  | some y =>
    cases b with
    | none => exact .inl h
    | some z =>
      have h : min y z = x := Option.some.inj h
      by_cases q : y ≤ z
      · exact .inl (by rw [← h, Nat.min_eq_left q])
      · exact .inr (by rw [← h, Nat.min_eq_right (by omega)])
theorem sooner_left {a b : Option Nat} {x : Nat} (h : a = some x) : ∃ y, sooner a b = some y ∧ y ≤ x := by
  subst h
  cases b with
  | none => exact ⟨x, rfl, Nat.le_refl _⟩
  | some z => exact ⟨min x z, rfl, Nat.min_le_left _ _⟩
theorem sooner_right {a b : Option Nat} {x : Nat} (h : b = some x) : ∃ y, sooner a b = some y ∧ y ≤ x := by
  subst h
  cases a with
  | none => exact ⟨x, rfl, Nat.le_refl _⟩
  | some z => exact ⟨min z x, rfl, Nat.min_le_right _ _⟩
/-- one road's word for the place j -/
def turn (t : List (Option Nat)) (j : Nat) (m : Option Nat) (x : Road) : Option Nat := if x.a = j then sooner m ((t.getD x.b none).map fun c => c + x.carry) else if x.b = j then sooner m ((t.getD x.a none).map fun c => c + x.carry) else m
theorem getD_some {t : List (Option Nat)} {k c : Nat} (h : t.getD k none = some c) : t[k]? = some (some c) := by
  rw [List.getD_eq_getElem?_getD] at h
  cases e : t[k]? with
  | none => rw [e] at h; cases h
  | some o => rw [e] at h; exact congrArg some h
theorem getD_of {t : List (Option Nat)} {k c : Nat} (h : t[k]? = some (some c)) : t.getD k none = some c := by
  rw [List.getD_eq_getElem?_getD, h]
  rfl
theorem map_some {o : Option Nat} {k x : Nat} (h : (o.map fun c => c + k) = some x) : ∃ c, o = some c ∧ c + k = x := by
  cases o with
  | none => cases h
  | some c => exact ⟨c, rfl, Option.some.inj h⟩
/-- a road with both ends at one place is no road of the specification's second case: its first one holds it -/
theorem turn_sound {l : List Road} {p n : Nat} {t : List (Option Nat)} (T : Tells l p n t) {j : Nat} {m : Option Nat} {r : Road} (hr : r ∈ l) (hm : ∀ x, m = some x → ∃ vs, Way l j vs x) : ∀ x, turn t j m r = some x → ∃ vs, Way l j vs x := by
  intro x h
  unfold turn at h
  split at h
  · rename_i e
    rcases sooner_some h with q | q
    · exact hm x q
    · obtain ⟨c, hc, rfl⟩ := map_some q
      obtain ⟨vs, w⟩ := T.sound _ _ (getD_some hc)
      exact ⟨_, .step hr (.inl ⟨e, rfl⟩) w⟩
  · split at h
    · rename_i e
      rcases sooner_some h with q | q
      · exact hm x q
      · obtain ⟨c, hc, rfl⟩ := map_some q
        obtain ⟨vs, w⟩ := T.sound _ _ (getD_some hc)
        exact ⟨_, .step hr (.inr ⟨e, rfl⟩) w⟩
    · exact hm x h
theorem fold_sound {l : List Road} {p n : Nat} {t : List (Option Nat)} (T : Tells l p n t) {j : Nat} : ∀ (q : List Road) (m : Option Nat), (∀ r, r ∈ q → r ∈ l) → (∀ x, m = some x → ∃ vs, Way l j vs x) → ∀ x, q.foldl (turn t j) m = some x → ∃ vs, Way l j vs x
  | [], m, _, hm => hm
  | r :: q, m, hq, hm => fold_sound T q (turn t j m r) (fun y hy => hq y (List.mem_cons_of_mem _ hy)) (turn_sound T (hq r List.mem_cons_self) hm)
theorem turn_keeps {t : List (Option Nat)} {j x : Nat} {m : Option Nat} {r : Road} (h : ∃ y, m = some y ∧ y ≤ x) : ∃ y, turn t j m r = some y ∧ y ≤ x := by
  obtain ⟨y, e, q⟩ := h
  unfold turn
  split
  · obtain ⟨z, e2, q2⟩ := sooner_left (b := (t.getD r.b none).map fun c => c + r.carry) e
    exact ⟨z, e2, by omega⟩
  · split
    · obtain ⟨z, e2, q2⟩ := sooner_left (b := (t.getD r.a none).map fun c => c + r.carry) e
      exact ⟨z, e2, by omega⟩
    · exact ⟨y, e, q⟩
theorem fold_keeps {t : List (Option Nat)} {j x : Nat} : ∀ (q : List Road) (m : Option Nat), (∃ y, m = some y ∧ y ≤ x) → ∃ y, q.foldl (turn t j) m = some y ∧ y ≤ x
  | [], _, h => h
  | _ :: q, _, h => fold_keeps q _ (turn_keeps h)
/-- a road whose two ends differ -/
def Apart (l : List Road) : Prop := ∀ r, r ∈ l → r.a ≠ r.b
theorem fold_takes {t : List (Option Nat)} {j k c : Nat} {r : Road} (hab : r.a ≠ r.b) (e : (r.a = j ∧ r.b = k) ∨ (r.b = j ∧ r.a = k)) (hk : ∃ y, t[k]? = some (some y) ∧ y ≤ c) : ∀ (q : List Road) (m : Option Nat), r ∈ q → ∃ y, q.foldl (turn t j) m = some y ∧ y ≤ c + r.carry
  | [], _, h => by cases h
  | a :: q, m, h => by
    rcases List.mem_cons.mp h with rfl | h
    · refine fold_keeps q _ ?_
      obtain ⟨y, ey, ly⟩ := hk
      unfold turn
      rcases e with ⟨e1, e2⟩ | ⟨e1, e2⟩
      · rw [if_pos e1, e2, getD_of ey]
        obtain ⟨z, e3, q3⟩ := sooner_right (a := m) (b := (some y).map fun c => c + r.carry) rfl
        exact ⟨z, e3, by have q3 : z ≤ y + r.carry := q3; omega⟩
      · rw [if_neg (by omega), if_pos e1, e2, getD_of ey]
        obtain ⟨z, e3, q3⟩ := sooner_right (a := m) (b := (some y).map fun c => c + r.carry) rfl
        exact ⟨z, e3, by have q3 : z ≤ y + r.carry := q3; omega⟩
    · exact fold_takes hab e hk q _ h
theorem better_at {l : List Road} {t : List (Option Nat)} {j : Nat} (hj : j < t.length) : (better l t)[j]? = some (l.foldl (turn t j) (t.getD j none)) := by
  unfold better
  rw [List.getElem?_map, List.getElem?_range hj]
  rfl
theorem better_tells {l : List Road} {p n : Nat} {t : List (Option Nat)} (hp : 0 < p) (hl : Ends l p) (ha : Apart l) (hn : 1 ≤ n) (T : Tells l p n t) : Tells l p (n + 1) (better l t) := by
  have hlen : (better l t).length = p := by
    unfold better
    rw [List.length_map, List.length_range]
    exact T.len
  refine ⟨hlen, fun j x h => ?_, fun j vs c w h => ?_⟩
  · have hj : j < t.length := by
      have := (List.getElem?_eq_some_iff.mp h).1
      have := T.len
      omega
    rw [better_at hj] at h
    exact fold_sound T l _ (fun _ h => h) (fun x e => T.sound j x (getD_some e)) x (Option.some.inj h)
  · have hj : j < t.length := by
      have := (w.places hp hl).1
      have := T.len
      omega
    rw [better_at hj]
    cases w with
    | gate =>
      obtain ⟨y, e, q⟩ := T.full 0 [0] 0 .gate (by simpa using hn)
      obtain ⟨z, e2, q2⟩ := fold_keeps (t := t) (j := 0) (x := 0) l (t.getD 0 none) ⟨y, getD_of e, q⟩
      exact ⟨z, congrArg some e2, q2⟩
    | step m e w =>
      obtain ⟨z, e2, q2⟩ := fold_takes (t := t) (ha _ m) e (T.full _ _ _ w (by rw [List.length_cons] at h; omega)) l (t.getD j none) m
      exact ⟨z, congrArg some e2, q2⟩
theorem settle_tells {l : List Road} {p : Nat} (hp : 0 < p) (hl : Ends l p) (ha : Apart l) : ∀ (k n : Nat) (t : List (Option Nat)), 1 ≤ n → Tells l p n t → Tells l p (n + k) (settle l k t)
  | 0, _, _, _, T => T
  | k + 1, n, t, hn, T => by
    have := settle_tells hp hl ha k (n + 1) (better l t) (by omega) (better_tells hp hl ha hn T)
    rw [show n + (k + 1) = n + 1 + k by omega]
    exact this
/-- the specification's list is the one -/
theorem settle_all {l : List Road} {p : Nat} (hp : 0 < p) (hl : Ends l p) (ha : Apart l) : ∀ m, Tells l p m (settle l p (start p)) := (settle_tells hp hl ha p 1 (start p) (Nat.le_refl _) (start_tells hp)).all hp hl (by omega)
/-! ### marks: 0, or 1 more than what carrying costs; bettered in place -/
def ofMark (n : Nat) : Option Nat := if n = 0 then none else some (n - 1)
def toMark (o : Option Nat) : Nat := match o with
  | some n => n + 1
  | none => 0
theorem ofMark_to (o : Option Nat) : ofMark (toMark o) = o := by
  cases o <;> simp [ofMark, toMark]
theorem toMark_of (n : Nat) : toMark (ofMark n) = n := by
  unfold ofMark
  split
  · simp [toMark, *]
  · simp only [toMark]; omega
/-- one road, from its nearer end -/
def ext (m : List Nat) (near far carry : Nat) : List Nat := if m.getD near 0 = 0 then m else if m.getD far 0 = 0 ∨ m.getD near 0 + carry < m.getD far 0 then m.set far (m.getD near 0 + carry) else m
def ext2 (m : List Nat) (r : Road) : List Nat := ext (ext m r.a r.b r.carry) r.b r.a r.carry
def pass (l : List Road) (m : List Nat) : List Nat := l.foldl ext2 m
def passes (l : List Road) : Nat → List Nat → List Nat
  | 0, m => m
  | k + 1, m => pass l (passes l k m)
theorem ext_len {m : List Nat} {a b c : Nat} : (ext m a b c).length = m.length := by
  unfold ext
  split
  · rfl
  · split
    · rw [List.length_set]
    · rfl
theorem ext2_len {m : List Nat} {r : Road} : (ext2 m r).length = m.length := by
  unfold ext2
  rw [ext_len, ext_len]
theorem pass_len : ∀ {l : List Road} {m : List Nat}, (pass l m).length = m.length
  | [], _ => rfl
  | r :: l, m => by
    show (pass l (ext2 m r)).length = _
    rw [pass_len, ext2_len]
theorem passes_len {l : List Road} {m : List Nat} : ∀ {k : Nat}, (passes l k m).length = m.length
  | 0 => rfl
  | k + 1 => by
    show (pass l (passes l k m)).length = _
    rw [pass_len, passes_len]
/-- marks that are sound -/
def Sound (l : List Road) (m : List Nat) : Prop := ∀ (j x : Nat), m.getD j 0 = x + 1 → ∃ vs, Way l j vs x
/-- a mark that's as good as c -/
def Good (m : List Nat) (j c : Nat) : Prop := ∃ x, m.getD j 0 = x + 1 ∧ x ≤ c
theorem getD_set {m : List Nat} {i j v : Nat} (hi : i < m.length) : (m.set i v).getD j 0 = if i = j then v else m.getD j 0 := by
  rw [List.getD_eq_getElem?_getD, List.getElem?_set]
  split
  · simp [*]
  · rw [List.getD_eq_getElem?_getD]
theorem ext_sound {l : List Road} {m : List Nat} {r : Road} {a b : Nat} (hr : r ∈ l) (e : (r.a = b ∧ r.b = a) ∨ (r.b = b ∧ r.a = a)) (hb : b < m.length) (S : Sound l m) : Sound l (ext m a b r.carry) := by
  intro j x h
  unfold ext at h
  split at h
  · exact S j x h
  · split at h
    · rw [getD_set hb] at h
      split at h
      · rename_i h1 _ h3
        subst h3
        obtain ⟨y, hy⟩ : ∃ y, m.getD a 0 = y + 1 := ⟨m.getD a 0 - 1, by omega⟩
        obtain ⟨vs, w⟩ := S a y hy
        have : x = y + r.carry := by omega
        subst this
        exact ⟨_, .step hr e w⟩
      · exact S j x h
    · exact S j x h
theorem ext_good {m : List Nat} {a b k j c : Nat} (hb : b < m.length) (G : Good m j c) : Good (ext m a b k) j c := by
  obtain ⟨x, e, q⟩ := G
  unfold ext
  split
  · exact ⟨x, e, q⟩
  · split
    · rename_i h1 h2
      by_cases hj : b = j
      · subst hj
        refine ⟨m.getD a 0 + k - 1, ?_, ?_⟩
        · rw [getD_set hb, if_pos rfl]
          omega
        · omega
      · exact ⟨x, by rw [getD_set hb, if_neg hj]; exact e, q⟩
    · exact ⟨x, e, q⟩
theorem ext_takes {m : List Nat} {a b k c : Nat} (hb : b < m.length) (G : Good m a c) : Good (ext m a b k) b (c + k) := by
  obtain ⟨x, e, q⟩ := G
  unfold ext
  rw [if_neg (by omega)]
  split
  · rename_i h
    exact ⟨x + k, by rw [getD_set hb, if_pos rfl]; omega, by omega⟩
  · rename_i h
    exact ⟨m.getD b 0 - 1, by omega, by omega⟩
theorem ext2_sound {l : List Road} {m : List Nat} {r : Road} (hr : r ∈ l) (ha : r.a < m.length) (hb : r.b < m.length) (S : Sound l m) : Sound l (ext2 m r) :=
  ext_sound hr (.inl ⟨rfl, rfl⟩) (by rw [ext_len]; exact ha) (ext_sound hr (.inr ⟨rfl, rfl⟩) hb S)
theorem ext2_good {m : List Nat} {r : Road} {j c : Nat} (ha : r.a < m.length) (hb : r.b < m.length) (G : Good m j c) : Good (ext2 m r) j c := ext_good (by rw [ext_len]; exact ha) (ext_good hb G)
theorem ext2_takes {m : List Nat} {r : Road} {j k c : Nat} (ha : r.a < m.length) (hb : r.b < m.length) (e : (r.a = j ∧ r.b = k) ∨ (r.b = j ∧ r.a = k)) (G : Good m k c) : Good (ext2 m r) j (c + r.carry) := by
  rcases e with ⟨rfl, rfl⟩ | ⟨rfl, rfl⟩
  · exact ext_takes (by rw [ext_len]; exact ha) (ext_good hb G)
  · exact ext_good (by rw [ext_len]; exact ha) (ext_takes hb G)
theorem pass_sound {l : List Road} {p : Nat} (hl : Ends l p) : ∀ (q : List Road) (m : List Nat), (∀ r, r ∈ q → r ∈ l) → m.length = p → Sound l m → Sound l (pass q m)
  | [], _, _, _, S => S
  | r :: q, m, hq, hm, S => by
    have hr := hq r List.mem_cons_self
    have h := hl r hr
    exact pass_sound hl q (ext2 m r) (fun x hx => hq x (List.mem_cons_of_mem _ hx)) (by rw [ext2_len]; exact hm) (ext2_sound hr (by omega) (by omega) S)
theorem pass_good {p j c : Nat} : ∀ (q : List Road) (m : List Nat), Ends q p → m.length = p → Good m j c → Good (pass q m) j c
  | [], _, _, _, G => G
  | r :: q, m, hq, hm, G => by
    have h := hq r List.mem_cons_self
    exact pass_good q (ext2 m r) (fun x hx => hq x (List.mem_cons_of_mem _ hx)) (by rw [ext2_len]; exact hm) (ext2_good (by omega) (by omega) G)
theorem pass_takes {p j k c : Nat} {r : Road} (e : (r.a = j ∧ r.b = k) ∨ (r.b = j ∧ r.a = k)) : ∀ (q : List Road) (m : List Nat), Ends q p → m.length = p → r ∈ q → Good m k c → Good (pass q m) j (c + r.carry)
  | [], _, _, _, h, _ => by cases h
  | a :: q, m, hq, hm, h, G => by
    have ha := hq a List.mem_cons_self
    have hq' : Ends q p := fun x hx => hq x (List.mem_cons_of_mem _ hx)
    rcases List.mem_cons.mp h with rfl | h
    · exact pass_good q (ext2 m r) hq' (by rw [ext2_len]; exact hm) (ext2_takes (by omega) (by omega) e G)
    · exact pass_takes e q (ext2 m a) hq' (by rw [ext2_len]; exact hm) h (ext2_good (by omega) (by omega) G)
/-- marks as the specification's list -/
theorem marks_tell {l : List Road} {p n : Nat} {m : List Nat} (hp : 0 < p) (hl : Ends l p) (hm : m.length = p) (S : Sound l m) (F : ∀ j vs c, Way l j vs c → vs.length ≤ n → Good m j c) : Tells l p n (m.map ofMark) := by
  refine ⟨by rw [List.length_map]; exact hm, fun j x h => ?_, fun j vs c w h => ?_⟩
  · rw [List.getElem?_map] at h
    cases e : m[j]? with
    | none => rw [e] at h; cases h
    | some y =>
      rw [e] at h
      have h : ofMark y = some x := Option.some.inj h
      refine S j x ?_
      rw [List.getD_eq_getElem?_getD, e]
      have := toMark_of y
      rw [h] at this
      exact this.symm
  · obtain ⟨x, e, q⟩ := F j vs c w h
    have hj := (w.places hp hl).1
    refine ⟨x, ?_, q⟩
    rw [List.getElem?_map, List.getElem?_eq_getElem (by omega)]
    rw [List.getD_eq_getElem?_getD, List.getElem?_eq_getElem (by omega)] at e
    have e : m[j] = x + 1 := e
    rw [e]
    rfl
def start0 (p : Nat) : List Nat := (List.replicate p 0).set 0 1
theorem passes_full {l : List Road} {p : Nat} (hp : 0 < p) (hl : Ends l p) : ∀ k, Sound l (passes l k (start0 p)) ∧ ∀ j vs c, Way l j vs c → vs.length ≤ k + 1 → Good (passes l k (start0 p)) j c
  | 0 => by
    have hlen : 0 < (List.replicate p 0).length := by simpa using hp
    have h0 : ∀ j, (start0 p).getD j 0 = if 0 = j then 1 else 0 := fun j => by
      unfold start0
      rw [getD_set hlen]
      split
      · rfl
      · rw [List.getD_eq_getElem?_getD, List.getElem?_replicate]
        split <;> rfl
    refine ⟨fun j x h => ?_, fun j vs c w h => ?_⟩
    · have h : (start0 p).getD j 0 = x + 1 := h
      rw [h0] at h
      split at h
      · rename_i e
        subst e
        have : x = 0 := by omega
        subst this
        exact ⟨_, .gate⟩
      · omega
    · cases w with
      | gate => exact ⟨0, by show (start0 p).getD 0 0 = _; rw [h0]; rfl, Nat.le_refl _⟩
      | step m e w =>
        have := w.pos
        rw [List.length_cons] at h
        omega
  | k + 1 => by
    obtain ⟨S, F⟩ := passes_full hp hl k
    have hm : (passes l k (start0 p)).length = p := by
      rw [passes_len]
      unfold start0
      rw [List.length_set, List.length_replicate]
    refine ⟨pass_sound hl l _ (fun _ h => h) hm S, fun j vs c w h => ?_⟩
    cases w with
    | gate => exact pass_good l _ hl hm (F 0 [0] 0 .gate (by simp))
    | step m e w => exact pass_takes e l _ hl hm m (F _ _ _ w (by rw [List.length_cons] at h; omega))
/-- **the marks are the specification's ways** -/
theorem marks_are {l : List Road} {p : Nat} (hp : 0 < p) (hl : Ends l p) (ha : Apart l) : passes l (p - 1) (start0 p) = (settle l p (start p)).map toMark := by
  obtain ⟨S, F⟩ := passes_full hp hl (p - 1)
  have hm : (passes l (p - 1) (start0 p)).length = p := by
    rw [passes_len]
    unfold start0
    rw [List.length_set, List.length_replicate]
  have T := (marks_tell (n := p) hp hl hm S fun j vs c w h => F j vs c w (by omega)).all hp hl (Nat.le_refl _)
  have e := Tells.one T (settle_all hp hl ha)
  rw [← e, List.map_map]
  have : (toMark ∘ ofMark) = id := funext fun n => toMark_of n
  rw [this, List.map_id]
end Fr
/-! Sets of roads, lowest first; what a set costs; the cheapest. Plain Lean. -/
namespace Fr
open Sw98
/-! ### the sets, lowest first -/
def sets : Nat → List (List Nat)
  | 0 => [[]]
  | n + 1 => sets n ++ (sets n).map fun s => s ++ [n]
theorem range_double (k : Nat) : List.range (k + k) = List.range k ++ (List.range k).map fun i => k + i := List.range_add
theorem members_low {n s : Nat} (h : s < 2 ^ n) : members (n + 1) s = members n s := by
  unfold members
  rw [List.range_succ, List.filter_append, List.filter_cons, if_neg (by rw [Nat.testBit_lt_two_pow h]; decide), List.filter_nil, List.append_nil]
theorem members_high {n s : Nat} (h : s < 2 ^ n) : members (n + 1) (2 ^ n + s) = members n s ++ [n] := by
  unfold members
  have e : (2 ^ n + s).testBit n = true := by
    rw [Nat.testBit_two_pow_add_eq, Nat.testBit_lt_two_pow h]
    rfl
  rw [List.range_succ, List.filter_append, List.filter_cons, if_pos e, List.filter_nil]
  congr 1
  apply List.filter_congr
  intro i hi
  rw [Nat.testBit_two_pow_add_gt (List.mem_range.mp hi)]
/-- **the sets are the specification's bits, in their order** -/
theorem sets_are : ∀ n, sets n = (List.range (2 ^ n)).map (members n)
  | 0 => rfl
  | n + 1 => by
    show sets n ++ (sets n).map _ = _
    rw [Nat.pow_succ, Nat.mul_two, range_double, List.map_append, sets_are n, List.map_map, List.map_map]
    congr 1
    · exact List.map_congr_left fun s hs => (members_low (List.mem_range.mp hs)).symm
    · exact List.map_congr_left fun s hs => (members_high (List.mem_range.mp hs)).symm
theorem sets_length (n : Nat) : (sets n).length = 2 ^ n := by
  rw [sets_are, List.length_map, List.length_range]
theorem members_lt {n s i : Nat} (h : i ∈ members n s) : i < n := by
  unfold members at h
  exact List.mem_range.mp (List.mem_filter.mp h).1
theorem sets_lt {n i : Nat} {s : List Nat} (h : s ∈ sets n) (hi : i ∈ s) : i < n := by
  rw [sets_are] at h
  obtain ⟨b, _, rfl⟩ := List.mem_map.mp h
  exact members_lt hi
theorem members_len (n s : Nat) : (members n s).length ≤ n := by
  unfold members
  exact Nat.le_trans (List.length_filter_le _ _) (by rw [List.length_range]; exact Nat.le_refl _)
/-! ### the roads of a set -/
def noRoad : Road := ⟨0, 0, 0, 0⟩
def pick (roads : List Road) (s : List Nat) : List Road := s.map fun i => roads.getD i noRoad
theorem pick_are (roads : List Road) : ∀ (s : List Nat), (∀ i, i ∈ s → i < roads.length) → s.filterMap (fun i => roads[i]?) = pick roads s
  | [], _ => rfl
  | i :: s, h => by
    have hi := h i List.mem_cons_self
    rw [List.filterMap_cons, List.getElem?_eq_getElem hi]
    show roads[i] :: _ = roads.getD i noRoad :: pick roads s
    rw [pick_are roads s fun j hj => h j (List.mem_cons_of_mem _ hj), List.getD_eq_getElem?_getD, List.getElem?_eq_getElem hi]
    rfl
theorem built_are (f : Forest) (s : Bits) : f.built s = pick f.roads (members f.roads.length s) := pick_are _ _ fun _ h => members_lt h
theorem mem_pick {roads : List Road} {s : List Nat} (h : ∀ i, i ∈ s → i < roads.length) {r : Road} (hr : r ∈ pick roads s) : r ∈ roads := by
  obtain ⟨i, hi, rfl⟩ := List.mem_map.mp hr
  rw [List.getD_eq_getElem?_getD, List.getElem?_eq_getElem (h i hi)]
  exact List.getElem_mem _
/-! ### a forest as the program keeps it -/
structure Ok (f : Forest) : Prop where
  pos : 0 < f.places
  small : f.places ≤ 7
  len : f.loads.length = f.places
  few : f.roads.length ≤ 9
  ends : Ends f.roads f.places
  apart : Apart f.roads
  costs : ∀ r, r ∈ f.roads → r.build ≤ 100000 ∧ r.carry ≤ 100000
  loads : ∀ n, n ∈ f.loads → n ≤ 1000
def marks (l : List Road) (p : Nat) : List Nat := passes l (p - 1) (start0 p)
theorem marks_len (l : List Road) (p : Nat) : (marks l p).length = p := by
  unfold marks start0
  rw [passes_len, List.length_set, List.length_replicate]
theorem Ends.sub {l k : List Road} {p : Nat} (h : Ends l p) (q : ∀ r, r ∈ k → r ∈ l) : Ends k p := fun r hr => h r (q r hr)
theorem Apart.sub {l k : List Road} (h : Apart l) (q : ∀ r, r ∈ k → r ∈ l) : Apart k := fun r hr => h r (q r hr)
theorem built_mem {f : Forest} {s : Bits} {r : Road} (h : r ∈ f.built s) : r ∈ f.roads := by
  rw [built_are] at h
  exact mem_pick (fun _ h => members_lt h) h
theorem ways_are {f : Forest} (F : Ok f) (s : Bits) : f.ways s = (marks (f.built s) f.places).map ofMark := by
  have e := marks_are F.pos (F.ends.sub fun r hr => built_mem (s := s) hr) (F.apart.sub fun r hr => built_mem (s := s) hr)
  show settle (f.built s) f.places (start f.places) = _
  unfold marks
  rw [e, List.map_map]
  have : (ofMark ∘ toMark) = id := funext fun n => ofMark_to n
  rw [this, List.map_id]
theorem waysOut_are {f : Forest} (F : Ok f) (s : Bits) : f.waysOut s = marks (f.built s) f.places := by
  show (f.ways s).map toMark = _
  rw [ways_are F, List.map_map]
  have : (toMark ∘ ofMark) = id := funext fun n => toMark_of n
  rw [this, List.map_id]
/-! ### what a set costs -/
def bsum : List Road → Nat
  | [] => 0
  | r :: l => r.build + bsum l
theorem total_from : ∀ (l : List Nat) (a : Nat), l.foldl (fun a b => a + b) a = a + total l
  | [], a => rfl
  | x :: l, a => by
    show l.foldl _ (a + x) = a + l.foldl _ (0 + x)
    rw [total_from l (a + x), total_from l (0 + x)]
    omega
theorem total_cons (x : Nat) (l : List Nat) : total (x :: l) = x + total l := by
  show l.foldl _ (0 + x) = _
  rw [total_from l (0 + x)]
  omega
theorem bsum_are : ∀ l : List Road, total (l.map fun x => x.build) = bsum l
  | [] => rfl
  | r :: l => by
    rw [List.map_cons, total_cons, bsum_are l]
    rfl
/-- the walk over loads and marks: an early end where a landing isn't joined -/
def costs : List (Nat × Nat) → Nat → Option Nat
  | [], c => some c
  | (n, m) :: r, c => if 0 < n then (if m = 0 then none else costs r (c + n * (m - 1))) else costs r c
def setCost (l : List Road) (loads : List Nat) : Option Nat := costs (loads.zip (marks l loads.length)) (bsum l)
theorem zip_range (p : Nat) (a b : List Nat) (ha : a.length = p) (hb : b.length = p) : a.zip b = (List.range p).map fun i => (a.getD i 0, b.getD i 0) := by
  apply List.ext_getElem
  · simp [ha, hb]
  · intro i h1 h2
    have : i < p := by simpa using h2
    simp [ha, hb, this]
def costStep (loads : List Nat) (w : List (Option Nat)) (m : Option Nat) (i : Nat) : Option Nat := m.bind fun c => (w.getD i none).map fun x => c + x * loads.getD i 0
theorem costStep_none (loads : List Nat) (w : List (Option Nat)) : ∀ l : List Nat, l.foldl (costStep loads w) none = none
  | [] => rfl
  | _ :: l => costStep_none loads w l
theorem costs_are (loads ms : List Nat) : ∀ (l : List Nat) (c : Nat), (l.filter fun i => decide (0 < loads.getD i 0)).foldl (costStep loads (ms.map ofMark)) (some c) = costs (l.map fun i => (loads.getD i 0, ms.getD i 0)) c
  | [], c => rfl
  | i :: l, c => by
    rw [List.map_cons]
    have eg : (ms.map ofMark).getD i none = ofMark (ms.getD i 0) := by
      rw [List.getD_eq_getElem?_getD, List.getElem?_map, List.getD_eq_getElem?_getD]
      cases ms[i]? <;> rfl
    by_cases h : 0 < loads.getD i 0
    · rw [List.filter_cons, if_pos (by simpa using h), List.foldl_cons]
      show _ = if 0 < loads.getD i 0 then _ else _
      rw [if_pos h]
      have es : costStep loads (ms.map ofMark) (some c) i = (ofMark (ms.getD i 0)).map fun x => c + x * loads.getD i 0 := by
        show (((ms.map ofMark).getD i none).map fun x => c + x * loads.getD i 0) = _
        rw [eg]
      rw [es]
      unfold ofMark
      split
      · exact costStep_none _ _ _
      · have := costs_are loads ms l (c + loads.getD i 0 * (ms.getD i 0 - 1))
        rw [Nat.mul_comm] at this
        rw [Nat.mul_comm (loads.getD i 0)]
        exact this
    · rw [List.filter_cons, if_neg (by simpa using h)]
      show _ = if 0 < loads.getD i 0 then _ else _
      rw [if_neg h]
      exact costs_are loads ms l c
/-- **what a set costs** -/
theorem cost_are {f : Forest} (F : Ok f) (s : Bits) : f.cost s = setCost (f.built s) f.loads := by
  show (f.landings.foldl (costStep f.loads (f.ways s)) (some (f.build s))) = _
  unfold setCost
  rw [ways_are F, zip_range f.places _ _ F.len (by rw [marks_len]; exact F.len)]
  show (((List.range f.places).filter fun i => decide (0 < f.loads.getD i 0)).foldl _ _) = _
  rw [costs_are, F.len]
  have : f.build s = bsum (f.built s) := bsum_are _
  rw [this]
/-! ### the cheapest -/
structure Ch where
  cost : Option Nat
  many : Nat
  low : List Nat
def offer (h : Ch) (c : Nat) (s : List Nat) : Ch := match h.cost with
  | none => ⟨some c, 1, s⟩
  | some x => if c < x then ⟨some c, 1, s⟩ else if c = x then ⟨some x, h.many + 1, h.low⟩ else h
def chStep (roads : List Road) (loads : List Nat) (h : Ch) (s : List Nat) : Ch := match setCost (pick roads s) loads with
  | none => h
  | some c => offer h c s
def cheapest (roads : List Road) (loads : List Nat) : Ch := (sets roads.length).foldl (chStep roads loads) ⟨none, 0, []⟩
def chOf (n : Nat) : Option Best → Ch
  | none => ⟨none, 0, []⟩
  | some b => ⟨some b.cost, b.many, members n b.roads⟩
def bestStep (f : Forest) (m : Option Best) (s : Bits) : Option Best := match f.cost s, m with
  | none, m => m
  | some c, none => some ⟨c, 1, s⟩
  | some c, some x => if c < x.cost then some ⟨c, 1, s⟩ else if c = x.cost then some { x with many := x.many + 1 } else some x
theorem step_are {f : Forest} (F : Ok f) (m : Option Best) (s : Bits) : chStep f.roads f.loads (chOf f.roads.length m) (members f.roads.length s) = chOf f.roads.length (bestStep f m s) := by
  unfold chStep bestStep
  rw [cost_are F, built_are]
  cases setCost (pick f.roads (members f.roads.length s)) f.loads with
  | none => rfl
  | some c =>
    cases m with
    | none => rfl
    | some x =>
      show (if c < x.cost then _ else if c = x.cost then _ else _) = chOf _ (if c < x.cost then _ else if c = x.cost then _ else _)
      split
      · rfl
      · split
        · rfl
        · rfl
theorem fold_are {f : Forest} (F : Ok f) : ∀ (l : List Bits) (m : Option Best), (l.map (members f.roads.length)).foldl (chStep f.roads f.loads) (chOf f.roads.length m) = chOf f.roads.length (l.foldl (bestStep f) m)
  | [], _ => rfl
  | s :: l, m => by
    rw [List.map_cons, List.foldl_cons, step_are F, fold_are F l]
    rfl
/-- **the cheapest sets** -/
theorem best_are {f : Forest} (F : Ok f) : cheapest f.roads f.loads = chOf f.roads.length f.best := by
  unfold cheapest
  rw [sets_are]
  exact fold_are F _ none
end Fr
/-! What is handed in, read as calls; what is due, call by call; a forest stays in form. Plain Lean. -/
namespace Fr
open Sw98
def toZ (l : List Nat) : List Int := l.map fun (n : Nat) => (n : Int)
/-- a call's numbers in the list -/
def enc : Call → List Int
  | .begins n => [0, (n : Int)]
  | .road r => [1, (r.a : Int), (r.b : Int), (r.build : Int), (r.carry : Int)]
  | .load i n => [2, (i : Int), (n : Int)]
  | .best => [3]
  | .check l => 4 :: (l.length : Int) :: toZ l
  | .alone l => 5 :: (l.length : Int) :: toZ l
  | .shares l => 6 :: (l.length : Int) :: toZ l
/-- lists of at most twenty numbers -/
def Small : Call → Prop
  | .check l => l.length ≤ 20 ∧ ∀ x, x ∈ l → x < 2 ^ 32
  | .alone l => l.length ≤ 20 ∧ ∀ x, x ∈ l → x < 2 ^ 32
  | .shares l => l.length ≤ 20 ∧ ∀ x, x ∈ l → x < 2 ^ 32
  | .begins n => n < 2 ^ 32
  | .road r => r.a < 2 ^ 32 ∧ r.b < 2 ^ 32 ∧ r.build < 2 ^ 32 ∧ r.carry < 2 ^ 32
  | .load i n => i < 2 ^ 32 ∧ n < 2 ^ 32
  | .best => True
theorem nats {l : List Int} (h : l.all Sw98Neutral.nat = true) : (∀ x, x ∈ l → 0 ≤ x ∧ x < 2 ^ 32) := fun x hx => by
  have := List.all_eq_true.mp h x hx
  unfold Sw98Neutral.nat at this
  rw [Bool.and_eq_true] at this
  exact ⟨of_decide_eq_true this.1, of_decide_eq_true this.2⟩
theorem toZ_back {l : List Int} (h : ∀ x, x ∈ l → 0 ≤ x ∧ x < 2 ^ 32) : toZ (l.map Int.toNat) = l := by
  unfold toZ
  rw [List.map_map]
  conv => rhs; rw [← List.map_id l]
  exact List.map_congr_left fun x hx => Int.toNat_of_nonneg (h x hx).1
theorem lt32 {x : Int} (h : 0 ≤ x ∧ x < 2 ^ 32) : x.toNat < 2 ^ 32 := by
  have := h.2
  have e : ((2 : Int) ^ 32) = 4294967296 := by decide
  have e' : ((2 : Nat) ^ 32) = 4294967296 := by decide
  rw [e] at this
  rw [e']
  omega
theorem row_in {r : List Int} {k : List Nat → Call} (h : ∀ x, x ∈ r → 0 ≤ x ∧ x < 2 ^ 32) (hs : (Option.map k (Sw98Neutral.listIn ((r.length : Int).toNat :: r.map Int.toNat))).isSome = true) :
    Option.map k (Sw98Neutral.listIn ((r.length : Int).toNat :: r.map Int.toNat)) = some (k (r.map Int.toNat)) ∧ (r.map Int.toNat).length ≤ 20 ∧ ∀ x, x ∈ r.map Int.toNat → x < 2 ^ 32 := by
  have e0 : Sw98Neutral.listIn ((r.length : Int).toNat :: r.map Int.toNat) = if (r.length : Int).toNat ≤ 20 ∧ (r.map Int.toNat).length = (r.length : Int).toNat then some (r.map Int.toNat) else none := rfl
  rw [e0] at hs ⊢
  by_cases q : (r.length : Int).toNat ≤ 20 ∧ (r.map Int.toNat).length = (r.length : Int).toNat
  · rw [if_pos q]
    refine ⟨rfl, by rw [q.2]; exact q.1, fun x hx => ?_⟩
    obtain ⟨y, hy, rfl⟩ := List.mem_map.mp hx
    exact lt32 (h y hy)
  · rw [if_neg q] at hs
    cases hs
theorem callOf_nat {l : List Int} (h : (Sw98Neutral.callOf l).isSome = true) : l.all Sw98Neutral.nat = true ∧ Sw98Neutral.callOf l = Sw98Neutral.callIn (l.map Int.toNat) := by
  unfold Sw98Neutral.callOf at h ⊢
  by_cases q : l.all Sw98Neutral.nat = false
  · rw [if_pos q] at h
    cases h
  · rw [if_neg q]
    exact ⟨by simpa using q, rfl⟩
theorem row_call_check {r : List Int} (h1 : ((PySw98.whole [[4], r]).headD []).all Sw98Neutral.nat = true) (ha : (Sw98Neutral.callIn (((PySw98.whole [[4], r]).headD []).map Int.toNat)).isSome = true) :
    ∃ k, Sw98Neutral.callIn (((PySw98.whole [[4], r]).headD []).map Int.toNat) = some k ∧ PyFlat.put1 [[4], r] = enc k ∧ Small k := by
  have e0 : (PySw98.whole [[4], r]).headD [] = 4 :: (r.length : Int) :: r := rfl
  rw [e0] at h1 ha ⊢
  have hn := nats h1
  have hr : ∀ x, x ∈ r → 0 ≤ x ∧ x < 2 ^ 32 := fun x hx => hn x (List.mem_cons_of_mem _ (List.mem_cons_of_mem _ hx))
  have e3 : Sw98Neutral.callIn ((4 :: (r.length : Int) :: r).map Int.toNat) = Option.map .check (Sw98Neutral.listIn ((r.length : Int).toNat :: r.map Int.toNat)) := by
    rw [List.map_cons, List.map_cons]
    rfl
  rw [e3] at ha ⊢
  obtain ⟨e1, e2⟩ := row_in (k := .check) hr ha
  refine ⟨_, e1, ?_, e2⟩
  show [4] ++ ((r.length : Int) :: r ++ []) = 4 :: (((r.map Int.toNat).length : Nat) : Int) :: toZ (r.map Int.toNat)
  rw [toZ_back hr, List.length_map, List.append_nil]
  rfl
theorem row_call_alone {r : List Int} (h1 : ((PySw98.whole [[5], r]).headD []).all Sw98Neutral.nat = true) (ha : (Sw98Neutral.callIn (((PySw98.whole [[5], r]).headD []).map Int.toNat)).isSome = true) :
    ∃ k, Sw98Neutral.callIn (((PySw98.whole [[5], r]).headD []).map Int.toNat) = some k ∧ PyFlat.put1 [[5], r] = enc k ∧ Small k := by
  have e0 : (PySw98.whole [[5], r]).headD [] = 5 :: (r.length : Int) :: r := rfl
  rw [e0] at h1 ha ⊢
  have hn := nats h1
  have hr : ∀ x, x ∈ r → 0 ≤ x ∧ x < 2 ^ 32 := fun x hx => hn x (List.mem_cons_of_mem _ (List.mem_cons_of_mem _ hx))
  have e3 : Sw98Neutral.callIn ((5 :: (r.length : Int) :: r).map Int.toNat) = Option.map .alone (Sw98Neutral.listIn ((r.length : Int).toNat :: r.map Int.toNat)) := by
    rw [List.map_cons, List.map_cons]
    rfl
  rw [e3] at ha ⊢
  obtain ⟨e1, e2⟩ := row_in (k := .alone) hr ha
  refine ⟨_, e1, ?_, e2⟩
  show [5] ++ ((r.length : Int) :: r ++ []) = 5 :: (((r.map Int.toNat).length : Nat) : Int) :: toZ (r.map Int.toNat)
  rw [toZ_back hr, List.length_map, List.append_nil]
  rfl
theorem row_call_shares {r : List Int} (h1 : ((PySw98.whole [[6], r]).headD []).all Sw98Neutral.nat = true) (ha : (Sw98Neutral.callIn (((PySw98.whole [[6], r]).headD []).map Int.toNat)).isSome = true) :
    ∃ k, Sw98Neutral.callIn (((PySw98.whole [[6], r]).headD []).map Int.toNat) = some k ∧ PyFlat.put1 [[6], r] = enc k ∧ Small k := by
  have e0 : (PySw98.whole [[6], r]).headD [] = 6 :: (r.length : Int) :: r := rfl
  rw [e0] at h1 ha ⊢
  have hn := nats h1
  have hr : ∀ x, x ∈ r → 0 ≤ x ∧ x < 2 ^ 32 := fun x hx => hn x (List.mem_cons_of_mem _ (List.mem_cons_of_mem _ hx))
  have e3 : Sw98Neutral.callIn ((6 :: (r.length : Int) :: r).map Int.toNat) = Option.map .shares (Sw98Neutral.listIn ((r.length : Int).toNat :: r.map Int.toNat)) := by
    rw [List.map_cons, List.map_cons]
    rfl
  rw [e3] at ha ⊢
  obtain ⟨e1, e2⟩ := row_in (k := .shares) hr ha
  refine ⟨_, e1, ?_, e2⟩
  show [6] ++ ((r.length : Int) :: r ++ []) = 6 :: (((r.map Int.toNat).length : Nat) : Int) :: toZ (r.map Int.toNat)
  rw [toZ_back hr, List.length_map, List.append_nil]
  rfl
/-- one call, as it was read -/
theorem one_call {c : List (List Int)} (hc : PyFlat.okCall PySw98.shape c) (ha : Sw98Neutral.asked1 ((PySw98.whole c).headD []) = true) :
    ∃ k, Sw98Neutral.callOf ((PySw98.whole c).headD []) = some k ∧ PyFlat.put1 c = enc k ∧ Small k := by
  obtain ⟨p, a, xs, rfl, hs⟩ := hc
  have ha : (Sw98Neutral.callOf ((PySw98.whole ((p :: a) :: xs)).headD [])).isSome = true := ha
  obtain ⟨h1, h2⟩ := callOf_nat ha
  rw [h2] at ha ⊢
  unfold PySw98.shape at hs
  split at hs
  · rename_i e
    subst e
    have hs := Option.some.inj hs
    match a, xs, hs with
    | [x], [], _ =>
      have hn := nats h1
      have q := hn x (by simp [PySw98.whole])
      refine ⟨.begins x.toNat, rfl, ?_, lt32 q⟩
      show [0, x] ++ [] = [0, ((x.toNat : Nat) : Int)]
      rw [Int.toNat_of_nonneg q.1]
      rfl
    | [], _, h => simp at h
    | _ :: _ :: _, _, h => simp at h
    | [_], _ :: _, h => simp at h
  · split at hs
    · rename_i e
      subst e
      have hs := Option.some.inj hs
      match a, xs, hs with
      | [x, y, z, u], [], _ =>
        have hn := nats h1
        have q1 := hn x (by simp [PySw98.whole])
        have q2 := hn y (by simp [PySw98.whole])
        have q3 := hn z (by simp [PySw98.whole])
        have q4 := hn u (by simp [PySw98.whole])
        refine ⟨.road ⟨x.toNat, y.toNat, z.toNat, u.toNat⟩, rfl, ?_, lt32 q1, lt32 q2, lt32 q3, lt32 q4⟩
        show [1, x, y, z, u] ++ [] = [1, ((x.toNat : Nat) : Int), ((y.toNat : Nat) : Int), ((z.toNat : Nat) : Int), ((u.toNat : Nat) : Int)]
        rw [Int.toNat_of_nonneg q1.1, Int.toNat_of_nonneg q2.1, Int.toNat_of_nonneg q3.1, Int.toNat_of_nonneg q4.1]
        rfl
      | [], _, h => simp at h
      | [_], _, h => simp at h
      | [_, _], _, h => simp at h
      | [_, _, _], _, h => simp at h
      | _ :: _ :: _ :: _ :: _ :: _, _, h => simp at h
      | [_, _, _, _], _ :: _, h => simp at h
    · split at hs
      · rename_i e
        subst e
        have hs := Option.some.inj hs
        match a, xs, hs with
        | [x, y], [], _ =>
          have hn := nats h1
          have q1 := hn x (by simp [PySw98.whole])
          have q2 := hn y (by simp [PySw98.whole])
          refine ⟨.load x.toNat y.toNat, rfl, ?_, lt32 q1, lt32 q2⟩
          show [2, x, y] ++ [] = [2, ((x.toNat : Nat) : Int), ((y.toNat : Nat) : Int)]
          rw [Int.toNat_of_nonneg q1.1, Int.toNat_of_nonneg q2.1]
          rfl
        | [], _, h => simp at h
        | [_], _, h => simp at h
        | _ :: _ :: _ :: _, _, h => simp at h
        | [_, _], _ :: _, h => simp at h
      · split at hs
        · rename_i e
          subst e
          have hs := Option.some.inj hs
          match a, xs, hs with
          | [], [], _ => exact ⟨.best, rfl, rfl, trivial⟩
          | _ :: _, _, h => simp at h
          | [], _ :: _, h => simp at h
        · split at hs
          · rename_i e
            subst e
            have hs := Option.some.inj hs
            have ea : a = [] := List.length_eq_zero_iff.mp (Prod.mk.inj hs).1.symm
            obtain ⟨r, er⟩ := List.length_eq_one_iff.mp (Prod.mk.inj hs).2.symm
            subst ea er
            exact row_call_check h1 ha
          · split at hs
            · rename_i e
              subst e
              have hs := Option.some.inj hs
              have ea : a = [] := List.length_eq_zero_iff.mp (Prod.mk.inj hs).1.symm
              obtain ⟨r, er⟩ := List.length_eq_one_iff.mp (Prod.mk.inj hs).2.symm
              subst ea er
              exact row_call_alone h1 ha
            · split at hs
              · rename_i e
                subst e
                have hs := Option.some.inj hs
                have ea : a = [] := List.length_eq_zero_iff.mp (Prod.mk.inj hs).1.symm
                obtain ⟨r, er⟩ := List.length_eq_one_iff.mp (Prod.mk.inj hs).2.symm
                subst ea er
                exact row_call_shares h1 ha
              · cases hs
/-- what is due, from a state -/
def play : Forest → List Call → List Int
  | _, [] => []
  | f, c :: cs => ((Sw98Neutral.out (step f c).2).length : Int) :: (Sw98Neutral.out (step f c).2 ++ play (step f c).1 cs)
theorem read_calls : ∀ (cs : List (List (List Int))) (f : Forest), (∀ c, c ∈ cs → PyFlat.okCall PySw98.shape c) → (∀ c, c ∈ cs → Sw98Neutral.asked1 ((PySw98.whole c).headD []) = true) →
    ∃ ks : List Call, ks.length = cs.length ∧ PyFlat.put cs = ks.flatMap enc ∧ (∀ k, k ∈ ks → Small k) ∧ PyFlat.told (PyFlat.played (fun s c => Sw98Neutral.step s (c.headD [])) f (cs.map PySw98.whole)) = play f ks
  | [], f, _, _ => ⟨[], rfl, rfl, (fun k h => by cases h), rfl⟩
  | c :: cs, f, h1, h2 => by
    obtain ⟨k, e1, e2, e3⟩ := one_call (h1 c List.mem_cons_self) (h2 c List.mem_cons_self)
    obtain ⟨ks, l, p, sm, t⟩ := read_calls cs (step f k).1 (fun d hd => h1 d (List.mem_cons_of_mem _ hd)) (fun d hd => h2 d (List.mem_cons_of_mem _ hd))
    refine ⟨k :: ks, by rw [List.length_cons, List.length_cons, l], ?_, ?_, ?_⟩
    · show PyFlat.put1 c ++ PyFlat.put cs = _
      rw [e2, p, List.flatMap_cons]
    · intro j hj
      rcases List.mem_cons.mp hj with rfl | hj
      · exact e3
      · exact sm j hj
    · have es : Sw98Neutral.step f ((PySw98.whole c).headD []) = ((step f k).1, Sw98Neutral.out (step f k).2) := by
        unfold Sw98Neutral.step
        rw [e1]
      rw [List.map_cons]
      show PyFlat.told ((Sw98Neutral.step f ((PySw98.whole c).headD [])).2 :: PyFlat.played _ (Sw98Neutral.step f ((PySw98.whole c).headD [])).1 _) = _
      rw [es]
      show ((_ : Int) :: _) ++ PyFlat.told _ = _
      rw [t]
      rfl
/-- **what is handed in is calls, and what is due is told by them** -/
theorem asked_calls {l : List Int} (h : PySw98.answers_asked l = true) : ∃ ks : List Call, l = ks.flatMap enc ∧ (∀ k, k ∈ ks → Small k) ∧ ks.length ≤ 40 ∧ PySw98.answers l = play init ks := by
  unfold PySw98.answers_asked at h
  unfold PySw98.answers
  unfold PySw98.calls at h ⊢
  cases e : PyFlat.calls PySw98.shape l.length l with
  | none => rw [e] at h; cases h
  | some cs =>
    rw [e] at h
    have h : (PyFlat.atMost 40 (cs.map PySw98.whole) && Sw98Neutral.asked ((cs.map PySw98.whole).map fun c => c.headD [])) = true := h
    rw [Bool.and_eq_true] at h
    obtain ⟨hp, hok⟩ := PyFlat.put_calls _ _ _ e
    have h40 := of_decide_eq_true h.1
    rw [List.length_map] at h40
    have h2 := h.2
    unfold Sw98Neutral.asked at h2
    rw [Bool.and_eq_true] at h2
    have hall : ∀ c, c ∈ cs → Sw98Neutral.asked1 ((PySw98.whole c).headD []) = true := fun c hc => by
      have := List.all_eq_true.mp h2.1 ((PySw98.whole c).headD []) (List.mem_map.mpr ⟨PySw98.whole c, List.mem_map.mpr ⟨c, hc, rfl⟩, rfl⟩)
      exact this
    obtain ⟨ks, l1, p, sm, t⟩ := read_calls cs init hok hall
    refine ⟨ks, hp.trans p, sm, by rw [l1]; exact h40, ?_⟩
    exact t
/-! ### a forest stays in form -/
theorem ok_init0 : Ok init := ⟨by decide, by decide, rfl, by decide, (fun r h => by cases h), (fun r h => by cases h), (fun r h => by cases h), (fun n h => by
  rcases List.mem_cons.mp h with rfl | h
  · omega
  · cases h)⟩
theorem ok_step {f : Forest} (F : Ok f) (c : Call) : Ok (step f c).1 := by
  cases c with
  | begins n =>
    show Ok (if n < 1 ∨ PLACES < n then (f, ok (-1)) else (⟨n, [], List.replicate n 0⟩, ok 0)).1
    split
    · exact F
    · rename_i h
      refine ⟨by show 0 < n; omega, by show n ≤ 7; unfold PLACES at h; omega, List.length_replicate, Nat.zero_le _, (fun r h => by cases h), (fun r h => by cases h), (fun r h => by cases h), fun x hx => ?_⟩
      have := List.eq_of_mem_replicate hx
      omega
  | road r =>
    show Ok (if f.places ≤ r.a ∨ f.places ≤ r.b then (f, ok (-2)) else if r.a = r.b ∨ COST < r.build ∨ COST < r.carry then (f, ok (-1)) else if ROADS ≤ f.roads.length then (f, ok (-5)) else ({ f with roads := f.roads ++ [r] }, ok (f.roads.length : Nat))).1
    split
    · exact F
    · split
      · exact F
      · split
        · exact F
        · rename_i h1 h2 h3
          unfold COST at h2
          unfold ROADS at h3
          have mem : ∀ {x : Road}, x ∈ f.roads ++ [r] → x ∈ f.roads ∨ x = r := fun {x} hx => by
            rcases List.mem_append.mp hx with h | h
            · exact .inl h
            · exact .inr (List.mem_singleton.mp h)
          refine ⟨F.pos, F.small, F.len, ?_, fun x hx => ?_, fun x hx => ?_, fun x hx => ?_, F.loads⟩
          · show (f.roads ++ [r]).length ≤ 9
            rw [List.length_append, List.length_singleton]
            omega
          · rcases mem hx with h | rfl
            · exact F.ends x h
            · show x.a < f.places ∧ x.b < f.places
              omega
          · rcases mem hx with h | rfl
            · exact F.apart x h
            · omega
          · rcases mem hx with h | rfl
            · exact F.costs x h
            · omega
  | load i n =>
    show Ok (if f.places ≤ i then (f, ok (-2)) else if LOADS < n ∨ i = 0 then (f, ok (-1)) else if f.loads.getD i 0 = 0 ∧ 0 < n ∧ LANDINGS ≤ f.landings.length then (f, ok (-5)) else ({ f with loads := f.loads.set i n }, ok (f.loads.getD i 0 : Nat))).1
    split
    · exact F
    · split
      · exact F
      · split
        · exact F
        · rename_i h1 h2 h3
          unfold LOADS at h2
          refine ⟨F.pos, F.small, by show (f.loads.set i n).length = f.places; rw [List.length_set]; exact F.len, F.few, F.ends, F.apart, F.costs, fun x hx => ?_⟩
          rcases List.mem_or_eq_of_mem_set hx with h | rfl
          · exact F.loads x h
          · omega
  | best => exact F
  | check l =>
    show Ok (if (rising l && l.all fun i => decide (i < f.roads.length)) = false then (f, ok (-2)) else (f, _)).1
    split <;> exact F
  | alone l =>
    show Ok (if (rising l && l.all fun i => f.landings.contains i) = false then (f, ok (-2)) else (f, _)).1
    split <;> exact F
  | shares l =>
    show Ok (if l.length ≠ f.places then (f, ok (-1)) else match f.best with
      | none => (f, ok (-6))
      | some b => if total (f.landings.map fun i => l.getD i 0) ≠ b.cost then (f, ok (-3)) else (f, match f.leaves l with
        | none => ⟨1, []⟩
        | some x => ⟨0, [x]⟩)).1
    split
    · exact F
    · split
      · exact F
      · split <;> exact F
end Fr
namespace Fr
open Sw98
/-! ### landings -/
def posB (n : Nat) : Bool := decide (0 < n)
theorem filter_range_count : ∀ (l : List Nat), ((List.range l.length).filter fun i => decide (0 < l.getD i 0)).length = l.countP posB
  | [] => rfl
  | a :: l => by
    rw [List.length_cons, List.range_succ_eq_map, List.filter_cons, List.filter_map, List.countP_cons]
    have ih := filter_range_count l
    have e : ((List.range l.length).filter ((fun i => decide (0 < (a :: l).getD i 0)) ∘ Nat.succ)).length = l.countP posB := ih
    have e0 : decide (0 < (a :: l).getD 0 0) = posB a := rfl
    rw [e0]
    split
    · rw [List.length_cons, List.length_map, e]
    · rw [List.length_map, e]
      rfl
theorem landings_count {f : Forest} (h : f.loads.length = f.places) : f.landings.length = f.loads.countP posB := by
  unfold Forest.landings
  rw [← h]
  exact filter_range_count f.loads
structure Ok4 (f : Forest) : Prop extends Ok f where
  four : f.landings.length ≤ 4
theorem ok4_init : Ok4 init := ⟨ok_init0, by decide⟩
theorem ok4_step {f : Forest} (F : Ok4 f) (c : Call) : Ok4 (step f c).1 := by
  refine ⟨ok_step F.toOk c, ?_⟩
  have same : ∀ g : Forest, g.loads = f.loads → g.places = f.places → g.landings.length ≤ 4 := fun g h1 h2 => by
    have : g.landings = f.landings := by
      unfold Forest.landings
      rw [h1, h2]
    rw [this]
    exact F.four
  cases c with
  | begins n =>
    show (if n < 1 ∨ PLACES < n then (f, ok (-1)) else (⟨n, [], List.replicate n 0⟩, ok 0)).1.landings.length ≤ 4
    split
    · exact F.four
    · rw [landings_count (by exact List.length_replicate)]
      show (List.replicate n 0).countP posB ≤ 4
      rw [List.countP_eq_zero.mpr (fun a ha => by rw [List.eq_of_mem_replicate ha]; decide)]
      omega
  | road r =>
    show (if f.places ≤ r.a ∨ f.places ≤ r.b then (f, ok (-2)) else if r.a = r.b ∨ COST < r.build ∨ COST < r.carry then (f, ok (-1)) else if ROADS ≤ f.roads.length then (f, ok (-5)) else ({ f with roads := f.roads ++ [r] }, ok (f.roads.length : Nat))).1.landings.length ≤ 4
    split
    · exact F.four
    · split
      · exact F.four
      · split
        · exact F.four
        · exact same _ rfl rfl
  | load i n =>
    show (if f.places ≤ i then (f, ok (-2)) else if LOADS < n ∨ i = 0 then (f, ok (-1)) else if f.loads.getD i 0 = 0 ∧ 0 < n ∧ LANDINGS ≤ f.landings.length then (f, ok (-5)) else ({ f with loads := f.loads.set i n }, ok (f.loads.getD i 0 : Nat))).1.landings.length ≤ 4
    split
    · exact F.four
    · split
      · exact F.four
      · split
        · exact F.four
        · rename_i h1 h2 h3
          unfold LANDINGS at h3
          have hi : i < f.loads.length := by
            have := F.len
            omega
          have h4 := F.four
          rw [landings_count (by show (f.loads.set i n).length = f.places; rw [List.length_set]; exact F.len)]
          show (f.loads.set i n).countP posB ≤ 4
          rw [landings_count F.len] at h3 h4
          have eg : f.loads.getD i 0 = f.loads[i] := by
            rw [List.getD_eq_getElem?_getD, List.getElem?_eq_getElem hi]
            rfl
          rw [eg] at h3
          rw [List.countP_set hi]
          unfold posB at h3 h4 ⊢
          by_cases q : 0 < f.loads[i]
          · have hc : 0 < f.loads.countP fun n => decide (0 < n) := List.countP_pos_iff.mpr ⟨f.loads[i], List.getElem_mem _, by simpa using q⟩
            simp only [q, decide_true, if_true]
            by_cases q2 : 0 < n
            · simp only [q2, decide_true, if_true]
              omega
            · simp only [q2, decide_false, Bool.false_eq_true, if_false]
              omega
          · have q0 : f.loads[i] = 0 := by omega
            simp only [q, decide_false, Bool.false_eq_true, if_false]
            by_cases q2 : 0 < n
            · simp only [q2, decide_true, if_true]
              omega
            · simp only [q2, decide_false, Bool.false_eq_true, if_false]
              omega
  | best => exact F.four
  | check l =>
    show (if (rising l && l.all fun i => decide (i < f.roads.length)) = false then (f, ok (-2)) else (f, _)).1.landings.length ≤ 4
    split <;> exact F.four
  | alone l =>
    show (if (rising l && l.all fun i => f.landings.contains i) = false then (f, ok (-2)) else (f, _)).1.landings.length ≤ 4
    split <;> exact F.four
  | shares l =>
    show (if l.length ≠ f.places then (f, ok (-1)) else match f.best with
      | none => (f, ok (-6))
      | some b => if total (f.landings.map fun i => l.getD i 0) ≠ b.cost then (f, ok (-3)) else (f, match f.leaves l with
        | none => ⟨1, []⟩
        | some x => ⟨0, [x]⟩)).1.landings.length ≤ 4
    split
    · exact F.four
    · split
      · exact F.four
      · split <;> exact F.four
end Fr
/-! What stage 2 asks: a set that is handed in, some landings alone, shares. Plain Lean. -/
namespace Fr
open Sw98
/-! ### a set that is handed in: its bits -/
theorem bits_from : ∀ (l : List Nat) (a i : Nat), (l.foldl (fun a i => a ||| 2 ^ i) a).testBit i = (a.testBit i || l.contains i)
  | [], a, i => by simp
  | x :: l, a, i => by
    rw [List.foldl_cons, bits_from l, Nat.testBit_or, Nat.testBit_two_pow, List.contains_cons]
    by_cases h : x = i
    · subst h
      simp
    · have h' : (i == x) = false := beq_eq_false_iff_ne.mpr fun e => h e.symm
      rw [h', decide_eq_false h, Bool.or_false, Bool.false_or]
theorem bitsOf_at (l : List Nat) (i : Nat) : (bitsOf l).testBit i = l.contains i := by
  unfold bitsOf
  rw [bits_from]
  simp
theorem rising_head : ∀ (l : List Nat) (a : Nat), rising (a :: l) = true → (∀ x, x ∈ l → a < x) ∧ rising l = true
  | [], a, _ => ⟨(fun x h => by cases h), rfl⟩
  | b :: l, a, h => by
    have h : (decide (a < b) && rising (b :: l)) = true := h
    rw [Bool.and_eq_true] at h
    have hab := of_decide_eq_true h.1
    have ih := rising_head l b h.2
    refine ⟨fun x hx => ?_, h.2⟩
    rcases List.mem_cons.mp hx with rfl | hx
    · exact hab
    · exact Nat.lt_trans hab (ih.1 x hx)
theorem rising_pairs : ∀ (l : List Nat), rising l = true → l.Pairwise (· < ·)
  | [], _ => .nil
  | a :: l, h => by
    have q := rising_head l a h
    exact .cons (fun x hx => q.1 x hx) (rising_pairs l q.2)
theorem sorted_one : ∀ (l k : List Nat), l.Pairwise (· < ·) → k.Pairwise (· < ·) → (∀ x, x ∈ l ↔ x ∈ k) → l = k
  | [], [], _, _, _ => rfl
  | [], b :: k, _, _, h => absurd ((h b).mpr List.mem_cons_self) (by simp)
  | a :: l, [], _, _, h => absurd ((h a).mp List.mem_cons_self) (by simp)
  | a :: l, b :: k, h1, h2, h => by
    obtain ⟨p1, q1⟩ := List.pairwise_cons.mp h1
    obtain ⟨p2, q2⟩ := List.pairwise_cons.mp h2
    have e : a = b := by
      rcases List.mem_cons.mp ((h a).mp List.mem_cons_self) with e | e
      · exact e
      · rcases List.mem_cons.mp ((h b).mpr List.mem_cons_self) with e' | e'
        · exact e'.symm
        · have x1 := p2 a e
          have x2 := p1 b e'
          omega
    subst e
    congr 1
    refine sorted_one l k q1 q2 fun x => ⟨fun hx => ?_, fun hx => ?_⟩
    · rcases List.mem_cons.mp ((h x).mp (List.mem_cons_of_mem _ hx)) with e | e
      · have := p1 x hx
        omega
      · exact e
    · rcases List.mem_cons.mp ((h x).mpr (List.mem_cons_of_mem _ hx)) with e | e
      · have := p2 x hx
        omega
      · exact e
theorem members_bits {l : List Nat} {n : Nat} (hr : rising l = true) (hl : ∀ i, i ∈ l → i < n) : members n (bitsOf l) = l := by
  refine sorted_one _ _ ?_ (rising_pairs l hr) fun x => ?_
  · unfold members
    exact List.Pairwise.filter _ List.pairwise_lt_range
  · unfold members
    rw [List.mem_filter, List.mem_range, bitsOf_at, List.contains_iff_mem]
    exact ⟨fun h => h.2, fun h => ⟨hl x h, h⟩⟩
theorem built_bits {f : Forest} {l : List Nat} (hr : rising l = true) (hl : ∀ i, i ∈ l → i < f.roads.length) : f.built (bitsOf l) = pick f.roads l := by
  rw [built_are, members_bits hr hl]
/-- neighbours compared -/
def nextLt (l : List Nat) : List Bool := (l.zip (l.drop 1)).map fun p => decide (p.1 < p.2)
theorem nextLt_all : ∀ (l : List Nat), (nextLt l).all id = rising l
  | [] => rfl
  | [_] => rfl
  | a :: b :: l => by
    show (decide (a < b) && (nextLt (b :: l)).all id) = (decide (a < b) && rising (b :: l))
    rw [nextLt_all (b :: l)]
theorem rising_len : ∀ (l : List Nat) (n : Nat), rising l = true → (∀ i, i ∈ l → i < n) → l.length ≤ n := fun l n hr hl => nodup_short n l ((rising_pairs l hr).imp fun h => Nat.ne_of_lt h) hl
/-! ### some landings alone -/
def onlyL (loads g : List Nat) : List Nat := (List.range loads.length).map fun i => if g.contains i = true then loads.getD i 0 else 0
theorem onlyL_len (loads g : List Nat) : (onlyL loads g).length = loads.length := by
  unfold onlyL
  rw [List.length_map, List.length_range]
theorem onlyL_at {loads g : List Nat} {i : Nat} (h : i < loads.length) : (onlyL loads g)[i]? = some (if g.contains i = true then loads.getD i 0 else 0) := by
  unfold onlyL
  rw [List.getElem?_map, List.getElem?_range h]
  rfl
theorem only_loads {f : Forest} (F : Ok f) (g : List Nat) : (f.only g).loads = onlyL f.loads g := by
  show ((List.range f.places).map fun i => if g.contains i = true then f.loads.getD i 0 else 0) = _
  unfold onlyL
  rw [F.len]
theorem getD_le {l : List Nat} {m : Nat} (h : ∀ n, n ∈ l → n ≤ m) (i : Nat) : l.getD i 0 ≤ m := by
  rw [List.getD_eq_getElem?_getD]
  cases e : l[i]? with
  | none => exact Nat.zero_le _
  | some n => exact h n (List.mem_of_getElem? e)
theorem onlyL_small {loads g : List Nat} {m : Nat} (h : ∀ n, n ∈ loads → n ≤ m) : ∀ n, n ∈ onlyL loads g → n ≤ m := fun n hn => by
  obtain ⟨i, _, rfl⟩ := List.mem_map.mp hn
  split
  · exact getD_le h i
  · exact Nat.zero_le _
theorem ok_only {f : Forest} (F : Ok f) (g : List Nat) : Ok (f.only g) := by
  refine ⟨F.pos, F.small, ?_, F.few, F.ends, F.apart, F.costs, ?_⟩
  · rw [only_loads F, onlyL_len]
    exact F.len
  · rw [only_loads F]
    exact onlyL_small F.loads
theorem best_only {f : Forest} (F : Ok f) (g : List Nat) : cheapest f.roads (onlyL f.loads g) = chOf f.roads.length (f.only g).best := by
  have := best_are (ok_only F g)
  rw [only_loads F] at this
  exact this
/-! ### a set that joins all landings joins some of them -/
theorem costs_sub : ∀ (ls ks ms : List Nat) (c d : Nat), ls.length = ks.length → (∀ i, ks.getD i 0 = 0 ∨ ks.getD i 0 = ls.getD i 0) → (costs (ls.zip ms) c).isSome = true → (costs (ks.zip ms) d).isSome = true
  | [], [], ms, c, d, _, _, _ => by
    rw [List.zip_nil_left]
    rfl
  | [], _ :: _, _, _, _, h, _, _ => by simp at h
  | _ :: _, [], _, _, _, h, _, _ => by simp at h
  | a :: ls, b :: ks, [], c, d, _, _, _ => rfl
  | a :: ls, b :: ks, m :: ms, c, d, hl, h, hs => by
    have h0 : b = 0 ∨ b = a := h 0
    have ht : ∀ i, ks.getD i 0 = 0 ∨ ks.getD i 0 = ls.getD i 0 := fun i => h (i + 1)
    have hl' : ls.length = ks.length := by simpa using hl
    rw [List.zip_cons_cons] at hs ⊢
    have hs : (if 0 < a then (if m = 0 then none else costs (ls.zip ms) (c + a * (m - 1))) else costs (ls.zip ms) c).isSome = true := hs
    show (if 0 < b then (if m = 0 then none else costs (ks.zip ms) (d + b * (m - 1))) else costs (ks.zip ms) d).isSome = true
    by_cases hb : 0 < b
    · have e : b = a := by omega
      subst e
      rw [if_pos hb] at hs ⊢
      by_cases hm : m = 0
      · rw [if_pos hm] at hs
        cases hs
      · rw [if_neg hm] at hs ⊢
        exact costs_sub ls ks ms _ _ hl' ht hs
    · rw [if_neg hb]
      by_cases ha : 0 < a
      · rw [if_pos ha] at hs
        by_cases hm : m = 0
        · rw [if_pos hm] at hs
          cases hs
        · rw [if_neg hm] at hs
          exact costs_sub ls ks ms _ _ hl' ht hs
      · rw [if_neg ha] at hs
        exact costs_sub ls ks ms _ _ hl' ht hs
theorem offer_some (h : Ch) (c : Nat) (s : List Nat) : (offer h c s).cost.isSome = true := by
  unfold offer
  cases e : h.cost with
  | none => rfl
  | some x =>
    show (if c < x then (⟨some c, 1, s⟩ : Ch) else if c = x then ⟨some x, h.many + 1, h.low⟩ else h).cost.isSome = true
    split
    · rfl
    · split
      · rfl
      · rw [e]
        rfl
theorem chStep_keeps {roads : List Road} {loads : List Nat} {h : Ch} {s : List Nat} (q : h.cost.isSome = true) : (chStep roads loads h s).cost.isSome = true := by
  unfold chStep
  split
  · exact q
  · exact offer_some _ _ _
theorem fold_keeps_some {roads : List Road} {loads : List Nat} : ∀ (l : List (List Nat)) (h : Ch), h.cost.isSome = true → (l.foldl (chStep roads loads) h).cost.isSome = true
  | [], _, q => q
  | _ :: l, _, q => fold_keeps_some l _ (chStep_keeps q)
theorem fold_some {roads : List Road} {loads : List Nat} : ∀ (l : List (List Nat)) (h : Ch) (s : List Nat), s ∈ l → (setCost (pick roads s) loads).isSome = true → (l.foldl (chStep roads loads) h).cost.isSome = true
  | [], _, _, hs, _ => by cases hs
  | t :: l, h, s, hs, q => by
    rw [List.foldl_cons]
    rcases List.mem_cons.mp hs with rfl | hs
    · refine fold_keeps_some l _ ?_
      unfold chStep
      cases e : setCost (pick roads s) loads with
      | none => rw [e] at q; cases q
      | some c => exact offer_some _ _ _
    · exact fold_some l _ s hs q
theorem some_fold {roads : List Road} {loads : List Nat} : ∀ (l : List (List Nat)) (h : Ch), h.cost = none → (l.foldl (chStep roads loads) h).cost.isSome = true → ∃ s, s ∈ l ∧ (setCost (pick roads s) loads).isSome = true
  | [], h, e, q => by
    rw [List.foldl_nil, e] at q
    cases q
  | t :: l, h, e, q => by
    rw [List.foldl_cons] at q
    cases ec : setCost (pick roads t) loads with
    | some c => exact ⟨t, List.mem_cons_self, by rw [ec]; rfl⟩
    | none =>
      have e2 : chStep roads loads h t = h := by
        unfold chStep
        rw [ec]
      rw [e2] at q
      obtain ⟨s, hs, z⟩ := some_fold l h e q
      exact ⟨s, List.mem_cons_of_mem _ hs, z⟩
theorem only_some {f : Forest} (F : Ok f) (g : List Nat) {b : Best} (h : f.best = some b) : ∃ b', (f.only g).best = some b' := by
  have h1 : (cheapest f.roads f.loads).cost.isSome = true := by
    rw [best_are F, h]
    rfl
  obtain ⟨s, hs, q⟩ := some_fold _ _ rfl h1
  have q2 : (setCost (pick f.roads s) (onlyL f.loads g)).isSome = true := by
    unfold setCost at q ⊢
    rw [onlyL_len]
    refine costs_sub f.loads _ _ _ _ (onlyL_len _ _).symm (fun i => ?_) q
    by_cases hi : i < f.loads.length
    · have := onlyL_at (g := g) hi
      rw [List.getD_eq_getElem?_getD, this]
      show (if g.contains i = true then f.loads.getD i 0 else 0) = 0 ∨ (if g.contains i = true then f.loads.getD i 0 else 0) = _
      split
      · exact .inr rfl
      · exact .inl rfl
    · refine .inl ?_
      rw [List.getD_eq_getElem?_getD, List.getElem?_eq_none_iff.mpr (by rw [onlyL_len]; omega)]
      rfl
  have h2 := fold_some (roads := f.roads) (loads := onlyL f.loads g) (sets f.roads.length) ⟨none, 0, []⟩ s hs q2
  have h3 : (cheapest f.roads (onlyL f.loads g)).cost.isSome = true := h2
  rw [best_only F] at h3
  cases e : (f.only g).best with
  | none => rw [e] at h3; cases h3
  | some b' => exact ⟨b', rfl⟩
/-! ### groups, earliest first -/
theorem subsets_cons (x : Nat) (l : List Nat) : subsets (x :: l) = subsets l ++ (subsets l).map fun s => x :: s := rfl
theorem subsets_len : ∀ l : List Nat, (subsets l).length = 2 ^ l.length
  | [] => rfl
  | x :: l => by
    rw [subsets_cons, List.length_append, List.length_map, subsets_len l, List.length_cons, Nat.pow_succ]
    omega
theorem subsets_mem : ∀ (l g : List Nat), g ∈ subsets l → g.length ≤ l.length ∧ ∀ x, x ∈ g → x ∈ l
  | [], g, h => by
    have : g = [] := List.mem_singleton.mp h
    subst this
    exact ⟨Nat.le_refl _, fun x h => h⟩
  | y :: l, g, h => by
    rw [subsets_cons] at h
    rcases List.mem_append.mp h with h | h
    · obtain ⟨a, b⟩ := subsets_mem l g h
      exact ⟨by rw [List.length_cons]; omega, fun x hx => List.mem_cons_of_mem _ (b x hx)⟩
    · obtain ⟨s, hs, rfl⟩ := List.mem_map.mp h
      obtain ⟨a, b⟩ := subsets_mem l s hs
      refine ⟨by rw [List.length_cons, List.length_cons]; omega, fun x hx => ?_⟩
      rcases List.mem_cons.mp hx with rfl | hx
      · exact List.mem_cons_self
      · exact List.mem_cons_of_mem _ (b x hx)
/-! ### shares -/
def paidSum (paid g : List Nat) : Nat := total (g.map fun i => paid.getD i 0)
theorem paid_sum (paid : List Nat) : ∀ g : List Nat, (g.map fun i => ((paid.getD i 0 : Nat) : Int)).sum = ((paidSum paid g : Nat) : Int)
  | [] => rfl
  | i :: g => by
    unfold paidSum
    rw [List.map_cons, List.sum_cons, List.map_cons, total_cons, paid_sum paid g, Int.natCast_add]
    rfl
def wants (f : Forest) (paid g : List Nat) : Bool := match (f.only g).best with
  | some b => decide (b.cost < paidSum paid g)
  | none => false
theorem leaves_are (f : Forest) (paid : List Nat) : f.leaves paid = (subsets f.landings).find? (wants f paid) := rfl
theorem landings_lt {f : Forest} {i : Nat} (h : i ∈ f.landings) : i < f.places := by
  unfold Forest.landings at h
  exact List.mem_range.mp (List.mem_filter.mp h).1
theorem leaves_mem {f : Forest} {paid g : List Nat} (h : f.leaves paid = some g) : g.length ≤ f.landings.length := by
  rw [leaves_are] at h
  exact (subsets_mem _ _ (List.mem_of_find?_eq_some h)).1
/-! ### a call in the list -/
def kindN : Call → Nat
  | .begins _ => 0
  | .road _ => 1
  | .load _ _ => 2
  | .best => 3
  | .check _ => 4
  | .alone _ => 5
  | .shares _ => 6
def given : Call → List Nat
  | .begins n => [n]
  | .road r => [r.a, r.b, r.build, r.carry]
  | .load i n => [i, n]
  | .best => []
  | .check l => l
  | .alone l => l
  | .shares l => l
def behind (k : Nat) : Nat := [1, 4, 2, 0].getD k 0
theorem enc_low {c : Call} (h : kindN c < 4) : enc c = (kindN c : Int) :: toZ (given c) ∧ (given c).length = behind (kindN c) := by
  cases c with
  | check l => exact absurd h (by show ¬ 4 < 4; decide)
  | alone l => exact absurd h (by show ¬ 5 < 4; decide)
  | shares l => exact absurd h (by show ¬ 6 < 4; decide)
  | _ => exact ⟨rfl, rfl⟩
theorem enc_high {c : Call} (h : ¬ kindN c < 4) : enc c = (kindN c : Int) :: ((given c).length : Int) :: toZ (given c) := by
  cases c with
  | check l => rfl
  | alone l => rfl
  | shares l => rfl
  | begins n => exact absurd (by show 0 < 4; decide) h
  | road r => exact absurd (by show 1 < 4; decide) h
  | load i n => exact absurd (by show 2 < 4; decide) h
  | best => exact absurd (by show 3 < 4; decide) h
theorem small_given {c : Call} (h : Small c) : (given c).length ≤ 20 := by
  cases c with
  | check l => exact h.1
  | alone l => exact h.1
  | shares l => exact h.1
  | begins n => show 1 ≤ 20; decide
  | road r => show 4 ≤ 20; decide
  | load i n => show 2 ≤ 20; decide
  | best => show 0 ≤ 20; decide
end Fr
set_option Elab.async false
set_option linter.all false
set_option maxRecDepth 100000
set_option maxHeartbeats 2000000
namespace Fr
open PySem PySem.Spec PyProof.Rows L2
open PySem.W (Codec)
/-! ### the text by places -/
def top (i : Nat) : Stmt := PySem.Challenge.pw_forestroads_s01_answers.main.body.getD i (.Pass ⟨0, 0, 0, 0⟩)
abbrev sExt : Stmt := top 24
abbrev sMks : Stmt := top 23
abbrev sSts : Stmt := top 21
/-- a list of whole numbers, as values -/
def nv (l : List Nat) : List V := l.map fun (n : Nat) => V.int (n : Int)
theorem nv_len (l : List Nat) : (nv l).length = l.length := by unfold nv; rw [List.length_map]
theorem nv_at {l : List Nat} {i : Nat} (h : i < l.length) : (nv l)[i]? = some (.int (l.getD i 0 : Nat)) := by
  unfold nv
  rw [List.getElem?_map, List.getElem?_eq_getElem h, List.getD_eq_getElem?_getD, List.getElem?_eq_getElem h]
  rfl
theorem nv_set (l : List Nat) (i n : Nat) : nv (l.set i n) = (nv l).set i (.int (n : Nat)) := by
  unfold nv
  rw [List.map_set]
theorem eq0 {n : Nat} (e : decide (V.int (n : Int) = V.int 0) = true) : n = 0 := by
  have := V.int.inj (of_decide_eq_true e)
  omega
theorem ne0 {n : Nat} (e : ¬ decide (V.int (n : Int) = V.int 0) = true) : ¬ n = 0 := fun q => e (by subst q; exact decide_eq_true rfl)
theorem ltN {a b c : Nat} (e : decide ((a : Int) + (b : Int) < (c : Int)) = true) : a + b < c := by
  have := of_decide_eq_true e
  omega
theorem nltN {a b c : Nat} (e : ¬ decide ((a : Int) + (b : Int) < (c : Int)) = true) : ¬ a + b < c := fun q => e (decide_eq_true (by omega))
theorem ixN_nat {n j : Nat} (h : j < n) : ixN n (j : Int) = some j := by
  unfold ixN
  rw [if_pos (by omega), if_pos (by omega)]
  rfl
/-- all but what stands at m is as it was -/
def But (m : Addr) (H H' : Hp) : Prop := ∀ b o, H b = some o → b ≠ m → H' b = some o
section
variable {P : Program} {w : World} {K : PySem.W.Frag} {mg : Str → Option Value} {base : Heap}
def spExt : Sp := fun vs H Q _ => ∃ (m : Addr) (ms : List Nat) (a b c : Nat), vs = [.ref m, .int a, .int b, .int c] ∧ H m = some (.lst (nv ms)) ∧ a < ms.length ∧ b < ms.length ∧
  ∀ H' : Hp, H' m = some (.lst (nv (ext ms a b c))) → But m H H' → Q .non H'
theorem scExt : FnScope ["marks", "nearer", "farther", "carry", "mark"] ["marks", "nearer", "farther", "carry"] (defScope sExt) := ⟨rfl, rfl, rfl, by decide +kernel, rfl, by decide +kernel, by decide +kernel⟩
theorem ok_ext {f : Addr} {fd : FuncData} (F : Fun K "extend_ways" "extend_ways" sExt f fd) : FnOk P w K mg base CX0 1 f fd ["marks", "nearer", "farther", "carry"] spExt := by
  refine F.ok scExt (fun vs H Q E h => ?_) (fun cdv A outer s H vs Q E hr h => ?_)
  · obtain ⟨m, ms, a, b, c, rfl, _⟩ := h
    rfl
  · obtain ⟨m, ms, a, b, c, rfl, hm, ha, hb, k⟩ := h
    refine ⟨_, pss_cons (ps_if (pt_cmpR op_eq (pe_ix ix_list (pv 0) (pv 1) (fun _ _ => rfl)) pe_int (nobehind _ (by decide) (by decide))) (pss_one ps_retN) pss_nil)
      (pss_cons (ps_set (i := 4) scExt.nd rfl (Or.inl rfl) (pe_op op_add (pe_ix ix_list (pv 0) (pv 1) (fun _ _ => rfl)) (pv 3)))
      (pss_one (ps_if (pw_or (pt_cmpR op_eq (pe_ix ix_list (pv 0) (pv 2) (fun _ _ => rfl)) pe_int (nobehind _ (by decide) (by decide))) (pw_or1 (pt_cmpR op_lt (pv 4) (pe_ix ix_list (pv 0) (pv 2) (fun _ _ => rfl)) (nobehind _ (by decide) (by decide))))).pt
        (pss_one (ps_asg (pv 4) (pg_sub (pv 0) (pv 2) set_list))) pss_nil))), ?_⟩
    refine ⟨_, rfl, _, rfl, m, _, _, _, rfl, rfl, SqL.of hm, atI_nat (nv_at ha), rfl, _, rfl, ite2 (fun e => ?_) (fun e => ?_)⟩
    · have e := eq0 e
      exact k H (by unfold ext; rw [if_pos e]; exact hm) fun _ _ h _ => h
    · have e := ne0 e
      refine ⟨_, rfl, _, rfl, m, _, _, _, rfl, rfl, SqL.of hm, atI_nat (nv_at ha), _, rfl, _, _, rfl, rfl, ?_⟩
      refine ⟨_, rfl, _, rfl, m, _, _, _, rfl, rfl, SqL.of hm, atI_nat (nv_at hb), rfl, _, rfl, ite2 (fun e2 => ?_) (fun e2 => ?_)⟩
      · have e2 := eq0 e2
        refine iteT ⟨_, rfl, _, rfl, _, rfl, m, _, _, b, rfl, rfl, hm, (by rw [nv_len]; exact ixN_nat hb), ?_⟩
        refine k _ ?_ fun x o h n => by rw [upd_ne n]; exact h
        unfold ext
        rw [if_neg e, if_pos (.inl e2), nv_set, upd_same]
        rfl
      · have e2 := ne0 e2
        refine ⟨_, rfl, _, rfl, _, rfl, m, _, _, _, rfl, rfl, SqL.of hm, atI_nat (nv_at hb), _, _, rfl, rfl, _, rfl, ite2 (fun e3 => ?_) (fun e3 => ?_)⟩
        · have e3 := ltN e3
          refine ⟨_, rfl, _, rfl, _, rfl, m, _, _, b, rfl, rfl, hm, (by rw [nv_len]; exact ixN_nat hb), ?_⟩
          refine k _ ?_ fun x o h n => by rw [upd_ne n]; exact h
          unfold ext
          rw [if_neg e, if_pos (.inr e3), nv_set, upd_same]
          rfl
        · have e3 := nltN e3
          exact k H (by unfold ext; rw [if_neg e, if_neg (by omega)]; exact hm) fun _ _ h _ => h
/-! ### roads -/
/-- a Road stands at x -/
structure RoadAt (C : Addr) (H : Hp) (x : Addr) (r : Sw98.Road) : Prop where
  ex : ∃ dx fs, H x = some (.ins C dx fs) ∧ fs.lookup ("a" : Str) = some (.int (r.a : Nat)) ∧ fs.lookup ("b" : Str) = some (.int (r.b : Nat)) ∧ fs.lookup ("build" : Str) = some (.int (r.build : Nat)) ∧ fs.lookup ("carry" : Str) = some (.int (r.carry : Nat))
theorem RoadAt.same {C : Addr} {H H' : Hp} {x : Addr} {r : Sw98.Road} (h : RoadAt C H x r) (q : Same H H') : RoadAt C H' x r := by
  obtain ⟨dx, fs, e, z⟩ := h.ex
  exact ⟨dx, fs, q _ _ e, z⟩
/-- roads stand at the addresses -/
def RoadsAt (C : Addr) (H : Hp) (as : List Addr) (rs : List Sw98.Road) : Prop := as.length = rs.length ∧ ∀ (i : Nat) (x : Addr) (r : Sw98.Road), as[i]? = some x → rs[i]? = some r → RoadAt C H x r
theorem RoadsAt.same {C : Addr} {H H' : Hp} {as : List Addr} {rs : List Sw98.Road} (h : RoadsAt C H as rs) (q : Same H H') : RoadsAt C H' as rs := ⟨h.1, fun i x r a b => (h.2 i x r a b).same q⟩
theorem RoadsAt.get {C : Addr} {H : Hp} {as : List Addr} {rs : List Sw98.Road} (h : RoadsAt C H as rs) {i : Nat} {x : Addr} (e : as[i]? = some x) : ∃ r, rs[i]? = some r ∧ RoadAt C H x r := by
  have hi := (List.getElem?_eq_some_iff.mp e).1
  have := h.1
  exact ⟨rs[i], List.getElem?_eq_getElem (by omega), h.2 i x _ e (List.getElem?_eq_getElem (by omega))⟩
/-- what the walk knows of the text -/
structure Txt (K : PySem.W.Frag) (mg : Str → Option Value) (CR : Addr) : Prop where
  cR : Cls K CR
  nA : NoAttr K CR "a"
  nB : NoAttr K CR "b"
  nBu : NoAttr K CR "build"
  nCa : NoAttr K CR "carry"
  gate : ∃ t, mg "GATE" = some (.int 0 t)
  range : mg "range" = none
  sum : mg "sum" = none
  zip : mg "zip" = none
  len : mg "len" = none
  all : mg "all" = none
  enum : mg "enumerate" = none
  rev : mg "reversed" = none
theorem map_at {α : Type} {f : α → V} {l : List α} {i : Nat} {y : V} (h : (l.map f)[i]? = some y) : ∃ z, l[i]? = some z ∧ y = f z := by
  rw [List.getElem?_map] at h
  cases e : l[i]? with
  | none => rw [e] at h; cases h
  | some z => rw [e] at h; exact ⟨z, rfl, (Option.some.inj h).symm⟩
theorem take_snoc {α : Type} : ∀ {l : List α} {i : Nat} {x : α}, l[i]? = some x → l.take (i + 1) = l.take i ++ [x]
  | [], i, x, h => by simp at h
  | a :: l, 0, x, h => by
    have e : a = x := Option.some.inj h
    subst e
    rfl
  | a :: l, i + 1, x, h => by
    show a :: l.take (i + 1) = a :: l.take i ++ [x]
    rw [take_snoc (l := l) (i := i) (x := x) h]
    rfl
theorem same_new {H : Hp} {D : Addr} {o : HO} (hD : H D = Option.none) : Same H (upd H D o) := fun c q e => by
  rw [upd_ne (ne_of_none e hD)]
  exact e
theorem Same_upd {H H' : Hp} {D : Addr} {o : HO} (h : Same H H') (hD : H D = Option.none) : Same H (L2.upd H' D o) := fun c q e => by
  rw [upd_ne (ne_of_none e hD)]
  exact h c q e
/-! ### what building costs -/
theorem isum_are : ∀ l : List Sw98.Road, (l.map fun r => (r.build : Int)).sum = ((bsum l : Nat) : Int)
  | [] => rfl
  | r :: l => by
    rw [List.map_cons, List.sum_cons, isum_are l]
    show (r.build : Int) + _ = ((r.build + bsum l : Nat) : Int)
    omega
/-! ### place_marks -/
theorem rep_nv (p : Nat) : (List.replicate (p : Int).toNat [V.int 0]).flatten = nv (List.replicate p 0) := by
  show (List.replicate p [V.int 0]).flatten = _
  unfold nv
  rw [List.map_replicate]
  induction p with
  | zero => rfl
  | succ p ih => rw [List.replicate_succ, List.flatten_cons, ih, List.replicate_succ]; rfl
theorem pass_snoc (l : List Sw98.Road) (r : Sw98.Road) (m : List Nat) : pass (l ++ [r]) m = ext2 (pass l m) r := by
  unfold pass
  rw [List.foldl_append]
  rfl
def spMks (CR : Addr) : Sp := fun vs H Q _ => ∃ (b : Addr) (as : List Addr) (rs : List Sw98.Road) (p : Nat), vs = [.ref b, .int p] ∧ H b = some (.lst (as.map V.ref)) ∧ RoadsAt CR H as rs ∧ Ends rs p ∧ 0 < p ∧ p ≤ 7 ∧
  ∀ (H' : Hp) (m : Addr), H m = none → H' m = some (.lst (nv (marks rs p))) → Same H H' → Q (.ref m) H'
theorem scMks : FnScope ["built", "places", "marks", "step", "road"] ["built", "places"] (defScope sMks) := ⟨rfl, rfl, rfl, by decide +kernel, rfl, by decide +kernel, by decide +kernel⟩
theorem ok_mks {f CR fE : Addr} {fd fdE : FuncData} (F : Fun K "place_marks" "place_marks" sMks f fd) (T : Txt K mg CR) (FE : Fun K "extend_ways" "extend_ways" sExt fE fdE) (bE : Binds K fdE ["marks", "nearer", "farther", "carry"] []) (mE : mg "extend_ways" = some (.ref fE)) :
    FnOk P w K mg base CX0 2 f fd ["built", "places"] (spMks CR) := by
  have GE : FnOk P w K mg base CX0 1 fE fdE ["marks", "nearer", "farther", "carry"] spExt := ok_ext FE
  refine F.ok scMks (fun vs H Q E h => ?_) (fun cdv A outer s H vs Q E hr h => ?_)
  · obtain ⟨b, as, rs, p, rfl, _⟩ := h
    rfl
  · obtain ⟨b, as, rs, p, rfl, hb, hR, he, hp, hp7, k⟩ := h
    obtain ⟨tg, hgate⟩ := T.gate
    refine ⟨_, pss_cons (ps_set (i := 2) scMks.nd rfl (Or.inl rfl) (pe_op op_rep (pe_lst (pa_cons pe_int pa_nil)) (pv 1)))
      (pss_cons (ps_asg pe_int (pg_sub (pv 2) (pe_glob (v := .int 0) rfl hgate ⟨_, rfl⟩) set_list))
      (pss_cons (ps_for PassesOwn.never rfl (pi_range1 rfl T.range (pa_cons (pe_op op_sub (pv 1) pe_int) pa_nil)) (pg_name (i := 3) scMks.nd rfl (Or.inl rfl))
        (pss_one (ps_for PassesOwn.never rfl (pi_list (pv 0)) (pg_name (i := 4) scMks.nd rfl (Or.inl rfl))
          (pss_cons (ps_expr (pe_call GE hr rfl mE FE.kp bE .nil pass0 (pa_cons (pv 2) (pa_cons (pe_fld (pv 4) rfl) (pa_cons (pe_fld (pv 4) rfl) (pa_cons (pe_fld (pv 4) rfl) pa_nil))))))
          (pss_one (ps_expr (pe_call GE hr rfl mE FE.kp bE .nil pass0 (pa_cons (pv 2) (pa_cons (pe_fld (pv 4) rfl) (pa_cons (pe_fld (pv 4) rfl) (pa_cons (pe_fld (pv 4) rfl) pa_nil)))))))))))
      (pss_one (ps_ret (pv 2))))), ?_⟩
    refine ⟨(by show 1 ≤ sizeLine; decide), fun l hl => ⟨_, rfl, l, (p : Int), _, rfl, rfl, upd_same, by omega, by omega, (by show 1 * (p : Int).toNat ≤ sizeLine; exact Nat.le_trans (by omega : 1 * (p : Int).toNat ≤ 7) (by decide)), fun m hm => ?_⟩⟩
    have hml : m ≠ l := fun e => by subst e; rw [upd_same] at hm; cases hm
    have hmH : H m = none := by rw [upd_ne hml] at hm; exact hm
    refine ⟨_, rfl, m, _, 0, 0, rfl, rfl, upd_same, (by rw [len_rep]; exact ixN_nat (by show 0 < (p : Int).toNat * 1; omega)), ?_⟩
    have eM : ((List.replicate (p : Int).toNat [V.int 0]).flatten).set 0 (.int 1) = nv (start0 p) := by
      unfold start0
      rw [nv_set, rep_nv]
      rfl
    rw [eM]
    refine ⟨_, rfl, _, _, rfl, rfl, (p : Int) - 1, rfl, by omega, by omega, for_range (n := ((p : Int) - 1).toNat) (fun i σ H' => ∃ v3 v4, σ = [some (.ref b), some (.int p), some (.ref m), v3, v4] ∧ H' m = some (.lst (nv (passes rs i (start0 p)))) ∧ Same H H')
      ⟨none, none, rfl, upd_same, Same_upd (Same_upd (same_new hl) hmH) hmH⟩ ?_ ?_⟩
    · rintro i σ H' hi ⟨v3, v4, rfl, h1, h2⟩
      have hlenM : (passes rs i (start0 p)).length = p := by
        rw [passes_len]
        unfold start0
        rw [List.length_set, List.length_replicate]
      refine ⟨_, rfl, b, rfl, ⟨_, SqL.of (h2 _ _ hb)⟩, for_list (K := K) (a := b) (xs := as.map V.ref) (fun j σ H' => ∃ v4, σ = [some (.ref b), some (.int p), some (.ref m), some (.int (0 + (i : Int))), v4] ∧ H' m = some (.lst (nv (pass (rs.take j) (passes rs i (start0 p))))) ∧ Same H H')
        ⟨v4, rfl, h1, h2⟩ (fun j σ H' _ ⟨_, _, _, q⟩ => SqL.of (q _ _ hb)) ?_ ?_⟩
      · rintro j y σ H1 hj ⟨v4, rfl, g1, g2⟩
        obtain ⟨x, hx, rfl⟩ := map_at hj
        obtain ⟨r, hr2, R⟩ := hR.get hx
        have hen := he r (List.mem_of_getElem? hr2)
        obtain ⟨dx, fs, hfs, l1, l2, l3, l4⟩ := (R.same g2).ex
        have xm : x ≠ m := fun e => by
          obtain ⟨_, _, q, _⟩ := R.ex
          rw [e, hmH] at q
          cases q
        have hlj : (pass (rs.take j) (passes rs i (start0 p))).length = p := by rw [pass_len, hlenM]
        refine ⟨_, rfl, _, rfl, x, CR, dx, fs, _, rfl, hfs, T.cR, T.nA, l1, _, rfl, x, CR, dx, fs, _, rfl, hfs, T.cR, T.nB, l2, _, rfl, x, CR, dx, fs, _, rfl, hfs, T.cR, T.nCa, l4,
          m, _, r.a, r.b, r.carry, rfl, g1, (by rw [hlj]; exact hen.1), (by rw [hlj]; exact hen.2), fun H2 e2 bt => ?_⟩
        have g3 : Same H H2 := fun c o e => bt c o (g2 c o e) fun q => by rw [q, hmH] at e; cases e
        have hf2 := bt _ _ hfs xm
        refine ⟨_, rfl, _, rfl, x, CR, dx, fs, _, rfl, hf2, T.cR, T.nB, l2, _, rfl, x, CR, dx, fs, _, rfl, hf2, T.cR, T.nA, l1, _, rfl, x, CR, dx, fs, _, rfl, hf2, T.cR, T.nCa, l4,
          m, _, r.b, r.a, r.carry, rfl, e2, (by rw [ext_len, hlj]; exact hen.2), (by rw [ext_len, hlj]; exact hen.1), fun H3 e3 bt3 => ?_⟩
        have g4 : Same H H3 := fun c o e => bt3 c o (g3 c o e) fun q => by rw [q, hmH] at e; cases e
        refine ⟨_, rfl, ?_, g4⟩
        rw [e3, take_snoc hr2, pass_snoc]
        rfl
      · rintro σ H1 ⟨v4, rfl, g1, g2⟩
        rw [List.length_map, hR.1, List.take_length] at g1
        exact ⟨_, _, rfl, g1, g2⟩
    · rintro σ H' ⟨v3, v4, rfl, h1, h2⟩
      refine ⟨_, rfl, k H' m hmH ?_ h2⟩
      rw [h1]
      unfold marks
      rw [show ((p : Int) - 1).toNat = p - 1 by omega]
end
end Fr
set_option Elab.async false
set_option linter.all false
set_option maxRecDepth 100000
set_option maxHeartbeats 2000000
namespace Fr
open PySem PySem.Spec PyProof.Rows L2
open PySem.W (Codec)
/-- over two lists of one length, that the body leaves as they are -/
theorem for_zip {K : PySem.W.Frag} {a b : Addr} {xs ys : List V} {g : TG} {tb : TS} {D : L2.Ends} {σ : L2.St} {H : Hp} (hlen : xs.length = ys.length) (Pv : Nat → L2.St → Hp → Prop) (h0 : Pv 0 σ H) (hl : ∀ i σ H, Pv i σ H → SqL K H a xs ∧ SqL K H b ys)
    (hs : ∀ i x y T σ H, xs[i]? = some x → ys[i]? = some y → H T = none → Pv i σ H → g (.ref T) σ (upd H T (.tup [x, y])) fun σ2 H2 => tb { D with nx := Pv (i + 1), ct := Pv (i + 1), bk := D.nx } σ2 H2) (hd : ∀ σ H, Pv xs.length σ H → D.nx σ H) :
    ∃ W : Nat → Nat → L2.St → Hp → Prop, (∃ m, W 0 m σ H) ∧ ∀ i m σ H, W i m σ H →
      ((Itz K a b).stop i H ∧ D.nx σ H) ∨ ((Itz K a b).go i H ∧ ∃ N : L2.St → Hp → Prop, (∀ σ' H', N σ' H' → ∃ m', m' < m ∧ W (i + 1) m' σ' H') ∧ ∀ x H', (Itz K a b).yld i H x H' → g x σ H' fun σ2 H2 => tb { D with nx := N, ct := N, bk := D.nx } σ2 H2) := by
  refine ⟨fun i m σ H => m = xs.length - i ∧ i ≤ xs.length ∧ Pv i σ H, ⟨xs.length, by simp, Nat.zero_le _, h0⟩, ?_⟩
  rintro i m σ H ⟨rfl, hi, p⟩
  have q := hl i σ H p
  by_cases hlt : i < xs.length
  · refine .inr ⟨⟨xs, ys, xs[i], ys[i], q.1, q.2, by simp [hlt], by simp [show i < ys.length by omega]⟩, Pv (i + 1), fun σ' H' p' => ⟨xs.length - (i + 1), by omega, rfl, hlt, p'⟩, fun v H' y => ?_⟩
    obtain ⟨T, x, y, rfl, hT, rfl, e1, e2⟩ := y
    exact hs i x y T σ H (e1 xs q.1) (e2 ys q.2) hT p
  · have e : i = xs.length := by omega
    subst e
    exact .inl ⟨⟨xs, ys, q.1, q.2, .inl (Nat.le_refl _)⟩, hd σ H p⟩
/-- a number, or None -/
def oV : Option Nat → V
  | none => .non
  | some c => .int (c : Nat)
theorem zip_at {a b : List Nat} {i n m : Nat} (h1 : a[i]? = some n) (h2 : b[i]? = some m) : (a.zip b)[i]? = some (n, m) := by
  rw [List.getElem?_zip_eq_some]
  exact ⟨h1, h2⟩
theorem drop_at {α : Type} {l : List α} {i : Nat} {x : α} (h : l[i]? = some x) : l.drop i = x :: l.drop (i + 1) := by
  obtain ⟨hi, e⟩ := List.getElem?_eq_some_iff.mp h
  rw [List.drop_eq_getElem_cons hi, e]
theorem posN {n : Nat} (e : decide ((0 : Int) < (n : Int)) = true) : 0 < n := by
  have := of_decide_eq_true e
  omega
theorem nposN {n : Nat} (e : ¬ decide ((0 : Int) < (n : Int)) = true) : ¬ 0 < n := fun q => e (decide_eq_true (by omega))
/-- a comprehension over two lists -/
theorem lc_zip {K : PySem.W.Frag} {a b : Addr} {xs ys : List V} {g : TG} {tt : TT} {te : TE} {vs : List Nat} {σ : L2.St} {H1 : Hp} {D : Addr} {Qd : Hp → Prop} (n : Nat) (h1 : n ≤ xs.length) (h2 : n ≤ ys.length) (h3 : xs.length ≤ n ∨ ys.length ≤ n) (Pv : Nat → Hp → Prop) (h0 : Pv 0 (upd H1 D (.lst [])))
    (hl : ∀ i H, Pv i H → SqL K H a xs ∧ SqL K H b ys)
    (hs : ∀ i x y T H, i < n → xs[i]? = some x → ys[i]? = some y → H T = none → Pv i H → g (.ref T) (wipe σ vs) (upd H T (.tup [x, y])) fun σ2 H2 => wipe σ2 vs = wipe σ vs ∧ tt σ2 H2 fun b H3 =>
      if b = true then te σ2 H3 fun y H4 => ∃ acc, H4 D = some (.lst acc) ∧ acc.length < sizeLine ∧ Pv (i + 1) (upd H4 D (.lst (acc ++ [y]))) else Pv (i + 1) H3) (hd : ∀ H, Pv n H → Qd H) :
    ∃ W : Nat → Nat → Hp → Prop, (∃ m, W 0 m (upd H1 D (.lst []))) ∧ ∀ i m H, W i m H →
      ((Itz K a b).stop i H ∧ Qd H) ∨ ((Itz K a b).go i H ∧ ∃ Nx : Hp → Prop, (∀ H', Nx H' → ∃ m', m' < m ∧ W (i + 1) m' H') ∧ ∀ x H', (Itz K a b).yld i H x H' → g x (wipe σ vs) H' fun σ2 H2 => wipe σ2 vs = wipe σ vs ∧ tt σ2 H2 fun b H3 =>
        if b = true then te σ2 H3 fun y H4 => ∃ acc, H4 D = some (.lst acc) ∧ acc.length < sizeLine ∧ Nx (upd H4 D (.lst (acc ++ [y]))) else Nx H3) := by
  refine ⟨fun i m H => m = n - i ∧ i ≤ n ∧ Pv i H, ⟨n, by simp, Nat.zero_le _, h0⟩, ?_⟩
  rintro i m H ⟨rfl, hi, p⟩
  have q := hl i H p
  by_cases hlt : i < n
  · refine .inr ⟨⟨xs, ys, xs[i], ys[i], q.1, q.2, by simp [show i < xs.length by omega], by simp [show i < ys.length by omega]⟩, Pv (i + 1), fun H' p' => ⟨n - (i + 1), by omega, rfl, hlt, p'⟩, fun v H' y => ?_⟩
    obtain ⟨T, x, y, rfl, hT, rfl, e1, e2⟩ := y
    exact hs i x y T H hlt (e1 xs q.1) (e2 ys q.2) hT p
  · have e : i = n := by omega
    subst e
    exact .inl ⟨⟨xs, ys, q.1, q.2, h3⟩, hd H p⟩
/-- a comprehension over enumerate of a list -/
theorem lc_enum {K : PySem.W.Frag} {a : Addr} {xs : List V} {g : TG} {tt : TT} {te : TE} {vs : List Nat} {σ : L2.St} {H1 : Hp} {D : Addr} {Qd : Hp → Prop} (Pv : Nat → Hp → Prop) (h0 : Pv 0 (upd H1 D (.lst [])))
    (hl : ∀ i H, Pv i H → SqL K H a xs)
    (hs : ∀ i x T H, xs[i]? = some x → H T = none → Pv i H → g (.ref T) (wipe σ vs) (upd H T (.tup [.int (i : Nat), x])) fun σ2 H2 => wipe σ2 vs = wipe σ vs ∧ tt σ2 H2 fun b H3 =>
      if b = true then te σ2 H3 fun y H4 => ∃ acc, H4 D = some (.lst acc) ∧ acc.length < sizeLine ∧ Pv (i + 1) (upd H4 D (.lst (acc ++ [y]))) else Pv (i + 1) H3) (hd : ∀ H, Pv xs.length H → Qd H) :
    ∃ W : Nat → Nat → Hp → Prop, (∃ m, W 0 m (upd H1 D (.lst []))) ∧ ∀ i m H, W i m H →
      ((Ite K a).stop i H ∧ Qd H) ∨ ((Ite K a).go i H ∧ ∃ Nx : Hp → Prop, (∀ H', Nx H' → ∃ m', m' < m ∧ W (i + 1) m' H') ∧ ∀ x H', (Ite K a).yld i H x H' → g x (wipe σ vs) H' fun σ2 H2 => wipe σ2 vs = wipe σ vs ∧ tt σ2 H2 fun b H3 =>
        if b = true then te σ2 H3 fun y H4 => ∃ acc, H4 D = some (.lst acc) ∧ acc.length < sizeLine ∧ Nx (upd H4 D (.lst (acc ++ [y]))) else Nx H3) := by
  refine ⟨fun i m H => m = xs.length - i ∧ i ≤ xs.length ∧ Pv i H, ⟨xs.length, by simp, Nat.zero_le _, h0⟩, ?_⟩
  rintro i m H ⟨rfl, hi, p⟩
  have q := hl i H p
  by_cases hlt : i < xs.length
  · refine .inr ⟨⟨xs, xs[i], q, by simp [hlt]⟩, Pv (i + 1), fun H' p' => ⟨xs.length - (i + 1), by omega, rfl, hlt, p'⟩, fun v H' y => ?_⟩
    obtain ⟨T, x, rfl, hT, rfl, e1⟩ := y
    exact hs i x T H (e1 xs q) hT p
  · have e : i = xs.length := by omega
    subst e
    exact .inl ⟨⟨xs, q, Nat.le_refl _⟩, hd H p⟩
/-- from a list's end -/
theorem for_rev {K : PySem.W.Frag} {a : Addr} {xs : List V} {g : TG} {tb : TS} {D : L2.Ends} {σ : L2.St} {H : Hp} (Pv : Nat → L2.St → Hp → Prop) (h0 : Pv 0 σ H) (hl : ∀ i σ H, Pv i σ H → SqL K H a xs)
    (hs : ∀ i x σ H, i < xs.length → xs[xs.length - 1 - i]? = some x → Pv i σ H → g x σ H fun σ2 H2 => tb { D with nx := Pv (i + 1), ct := Pv (i + 1), bk := D.nx } σ2 H2) (hd : ∀ σ H, Pv xs.length σ H → D.nx σ H) :
    ∃ W : Nat → Nat → L2.St → Hp → Prop, (∃ m, W 0 m σ H) ∧ ∀ i m σ H, W i m σ H →
      ((Itv K a xs.length).stop i H ∧ D.nx σ H) ∨ ((Itv K a xs.length).go i H ∧ ∃ N : L2.St → Hp → Prop, (∀ σ' H', N σ' H' → ∃ m', m' < m ∧ W (i + 1) m' σ' H') ∧ ∀ x H', (Itv K a xs.length).yld i H x H' → g x σ H' fun σ2 H2 => tb { D with nx := N, ct := N, bk := D.nx } σ2 H2) := by
  refine ⟨fun i m σ H => m = xs.length - i ∧ i ≤ xs.length ∧ Pv i σ H, ⟨xs.length, by simp, Nat.zero_le _, h0⟩, ?_⟩
  rintro i m σ H ⟨rfl, hi, p⟩
  have q := hl i σ H p
  by_cases hlt : i < xs.length
  · refine .inr ⟨⟨hlt, xs, xs[xs.length - 1 - i], q, by simp [show xs.length - 1 - i < xs.length by omega]⟩, Pv (i + 1), fun σ' H' p' => ⟨xs.length - (i + 1), by omega, rfl, hlt, p'⟩, fun v H' y => ?_⟩
    obtain ⟨rfl, e1⟩ := y
    exact hs i v σ _ hlt (e1 xs q) p
  · have e : i = xs.length := by omega
    subst e
    exact .inl ⟨Nat.le_refl _, hd σ H p⟩
abbrev sBuI : Stmt := inClass (top 14) 0
abbrev sCw : Stmt := inClass (top 14) 1
/-! ### a set of roads, as if built -/
structure Bs where
  nums : List Nat
  build : Nat
  marks : List Nat
def bsOf (roads : List Sw98.Road) (p : Nat) (s : List Nat) : Bs := ⟨s, bsum (pick roads s), marks (pick roads s) p⟩
/-- a BuiltSet stands at x -/
structure BsAt (C : Addr) (H : Hp) (x : Addr) (b : Bs) : Prop where
  ex : ∃ dx fs nA mA, H x = some (.ins C dx fs) ∧ fs.lookup ("numbers" : Str) = some (.ref nA) ∧ fs.lookup ("build" : Str) = some (.int (b.build : Nat)) ∧ fs.lookup ("marks" : Str) = some (.ref mA) ∧ H nA = some (.lst (nv b.nums)) ∧ H mA = some (.lst (nv b.marks)) ∧ fs.lookup ("cost_with" : Str) = none
theorem BsAt.same {C : Addr} {H H' : Hp} {x : Addr} {b : Bs} (h : BsAt C H x b) (q : Same H H') : BsAt C H' x b := by
  obtain ⟨dx, fs, nA, mA, a1, a2, a3, a4, a5, a6, a7⟩ := h.ex
  exact ⟨dx, fs, nA, mA, q _ _ a1, a2, a3, a4, q _ _ a5, q _ _ a6, a7⟩
/-- another object than it is written -/
theorem BsAt.but {C : Addr} {H H' : Hp} {x y C' d : Addr} {fs : List (Str × V)} {b : Bs} (h : BsAt C H x b) (hy : H y = some (.ins C' d fs)) (hn : fs.lookup ("numbers" : Str) = none) (q : But y H H') : BsAt C H' x b := by
  obtain ⟨dx, gs, nA, mA, a1, a2, a3, a4, a5, a6, a7⟩ := h.ex
  have xy : x ≠ y := fun e => by
    subst e
    rw [hy] at a1
    injection a1 with a1
    injection a1 with _ _ e3
    rw [← e3, hn] at a2
    cases a2
  exact ⟨dx, gs, nA, mA, q _ _ a1 xy, a2, a3, a4, q _ _ a5 (ne_of a5 hy (by intro z; cases z)), q _ _ a6 (ne_of a6 hy (by intro z; cases z)), a7⟩
/-- the same, and neither of its lists is at D -/
def BsNe (C D : Addr) (H : Hp) (x : Addr) (b : Bs) : Prop := ∃ dx fs nA mA, H x = some (.ins C dx fs) ∧ fs.lookup ("numbers" : Str) = some (.ref nA) ∧ fs.lookup ("build" : Str) = some (.int (b.build : Nat)) ∧ fs.lookup ("marks" : Str) = some (.ref mA) ∧ H nA = some (.lst (nv b.nums)) ∧ H mA = some (.lst (nv b.marks)) ∧ fs.lookup ("cost_with" : Str) = none ∧ nA ≠ D ∧ mA ≠ D
theorem BsNe.at_ {C D : Addr} {H : Hp} {x : Addr} {b : Bs} (h : BsNe C D H x b) : BsAt C H x b := by
  obtain ⟨dx, fs, nA, mA, a1, a2, a3, a4, a5, a6, a7, _⟩ := h
  exact ⟨dx, fs, nA, mA, a1, a2, a3, a4, a5, a6, a7⟩
theorem BsNe.same {C D : Addr} {H H' : Hp} {x : Addr} {b : Bs} (h : BsNe C D H x b) (q : Same H H') : BsNe C D H' x b := by
  obtain ⟨dx, fs, nA, mA, a1, a2, a3, a4, a5, a6, a7, a8⟩ := h
  exact ⟨dx, fs, nA, mA, q _ _ a1, a2, a3, a4, q _ _ a5, q _ _ a6, a7, a8⟩
theorem BsNe.upd {C D : Addr} {H : Hp} {x : Addr} {b : Bs} {xs ys : List V} (h : BsNe C D H x b) (hD : H D = some (.lst xs)) : BsNe C D (L2.upd H D (.lst ys)) x b := by
  obtain ⟨dx, fs, nA, mA, a1, a2, a3, a4, a5, a6, a7, q1, q2⟩ := h
  exact ⟨dx, fs, nA, mA, by rw [upd_ne (ne_of a1 hD (by intro z; cases z))]; exact a1, a2, a3, a4, by rw [upd_ne q1]; exact a5, by rw [upd_ne q2]; exact a6, a7, q1, q2⟩
structure TxtB (K : PySem.W.Frag) (mg : Str → Option Value) (CB : Addr) : Prop where
  cl : Cls K CB
  nNu : NoAttr K CB "numbers"
  nBu : NoAttr K CB "build"
  nMa : NoAttr K CB "marks"
  mgB : mg "BuiltSet" = some (.ref CB)
theorem lookup_put {f g : Str} {v : V} {fs : List (Str × V)} : (putF f v fs).lookup g = if g = f then some v else fs.lookup g := lookup_putF f g v fs
theorem RoadsAt.snoc {C : Addr} {H : Hp} {as : List Addr} {rs : List Sw98.Road} (h : RoadsAt C H as rs) {a : Addr} {r : Sw98.Road} (g : RoadAt C H a r) : RoadsAt C H (as ++ [a]) (rs ++ [r]) := by
  refine ⟨by rw [List.length_append, List.length_append, h.1]; rfl, fun i x s u v => ?_⟩
  by_cases hi : i < as.length
  · rw [List.getElem?_append_left hi] at u
    rw [List.getElem?_append_left (by rw [← h.1]; exact hi)] at v
    exact h.2 i x s u v
  · rw [List.getElem?_append_right (by omega)] at u
    rw [List.getElem?_append_right (by rw [← h.1]; omega), ← h.1] at v
    cases e : i - as.length with
    | zero =>
      rw [e] at u v
      have u : a = x := Option.some.inj u
      have v : r = s := Option.some.inj v
      subst u v
      exact g
    | succ j => rw [e] at u; simp at u
theorem pick_at {rs : List Sw98.Road} {as : List Addr} {CR : Addr} {H : Hp} (hR : RoadsAt CR H as rs) {i : Nat} (hi : i < rs.length) : ∃ x, as[i]? = some x ∧ RoadAt CR H x (rs.getD i noRoad) := by
  have hl := hR.1
  have ha : as[i]? = some as[i] := List.getElem?_eq_getElem (by omega)
  refine ⟨as[i], ha, hR.2 i _ _ ha ?_⟩
  rw [List.getD_eq_getElem?_getD, List.getElem?_eq_getElem hi]
  rfl
/-- an instance without fields is no road -/
theorem RoadAt.nope {C C' : Addr} {H : Hp} {x y d : Addr} {r : Sw98.Road} (h : RoadAt C H x r) (hy : H y = some (.ins C' d [])) : x ≠ y := fun e => by
  subst e
  obtain ⟨dx, fs, a, b, _⟩ := h.ex
  rw [hy] at a
  injection a with a
  injection a with _ _ e3
  rw [← e3] at b
  cases b
theorem RoadsAt.but {C C' : Addr} {H H' : Hp} {y d : Addr} {as : List Addr} {rs : List Sw98.Road} (h : RoadsAt C H as rs) (hy : H y = some (.ins C' d [])) (q : But y H H') : RoadsAt C H' as rs := ⟨h.1, fun i x r a b => by
  have R := h.2 i x r a b
  obtain ⟨dx, fs, e, z⟩ := R.ex
  exact ⟨dx, fs, q _ _ e (R.nope hy), z⟩⟩
section
variable {P : Program} {w : World} {K : PySem.W.Frag} {mg : Str → Option Value} {base : Heap}
def spBuI (CR CB : Addr) : Sp := fun vs H Q _ => ∃ (x dx n r : Addr) (as : List Addr) (rs : List Sw98.Road) (s : List Nat) (p : Nat), vs = [.ref x, .ref n, .ref r, .int p] ∧ H x = some (.ins CB dx []) ∧ H n = some (.lst (nv s)) ∧ H r = some (.lst (as.map V.ref)) ∧ RoadsAt CR H as rs ∧
  s.length ≤ 20 ∧ (∀ i, i ∈ s → i < rs.length) ∧ Ends rs p ∧ 0 < p ∧ p ≤ 7 ∧ ∀ H' : Hp, (∀ D o, H D = some o → n ≠ D → BsNe CB D H' x (bsOf rs p s)) → But x H H' → Q .non H'
theorem scBuI : FnScope ["self", "numbers", "roads", "places", "built", "number", "road"] ["self", "numbers", "roads", "places"] (defScope sBuI) := ⟨rfl, rfl, rfl, by decide +kernel, rfl, by decide +kernel, by decide +kernel⟩
theorem ok_buI {f CR CB fM : Addr} {fd fdM : FuncData} (F : Fun K "__init__" "BuiltSet.__init__" sBuI f fd) (T : Txt K mg CR) (TB : TxtB K mg CB)
    (GM : FnOk P w K mg base CX0 2 fM fdM ["built", "places"] (spMks CR)) (kM : PySem.W.keepIn K (.ref fM) = true) (bM : Binds K fdM ["built", "places"] []) (mM : mg "place_marks" = some (.ref fM)) :
    FnOk P w K mg base CX0 3 f fd ["self", "numbers", "roads", "places"] (spBuI CR CB) := by
  refine F.ok scBuI (fun vs H Q E h => ?_) (fun cdv A outer s H vs Q E hr h => ?_)
  · obtain ⟨x, dx, n, r, as, rs, t, p, rfl, _⟩ := h
    rfl
  · obtain ⟨x, dx, n, r, as, rs, t, p, rfl, hx, hn, hra, hR, ht20, htl, he, hp, hp7, k⟩ := h
    refine ⟨_, pss_cons (ps_setLc (i := 4) (own := [("number", 5)]) (te := tOp (rIxL K) (tVar 2) (tVar 5)) rfl scBuI.nd rfl rfl (sw_true rfl rfl rfl rfl) (pi_list (pv 1)) (blkOk_by (by show blkC ["self", "numbers", "roads", "places", "built", "number", "road"] (defScope sBuI) _ _ = true; decide +kernel)) (fun s H C cl fp => pg_name (i := 5) scBuI.nd rfl (Or.inl rfl)) (fun s H C cl fp => pts_nil) (fun s H C cl fp => pe_ix ix_list (pv 2) (pv 5) (fun _ _ => rfl)))
      (pss_cons (ps_fld (pv 0) (pv 1) rfl)
      (pss_cons (ps_fld (pv 0) (pe_callB (cr_sum rfl) (by rfl) T.sum boot_sum (pa_cons (pe_lc (own := [("road", 6)]) (te := tFld K (tVar 6) "build") rfl scBuI.nd (pi_list (pv 4)) (blkOk_by (by show blkC ["self", "numbers", "roads", "places", "built", "number", "road"] (defScope sBuI) _ _ = true; decide +kernel)) (fun s H C cl fp => pg_name (i := 6) scBuI.nd rfl (Or.inl rfl)) (fun s H C cl fp => pts_nil) (fun s H C cl fp => pe_fld (pv 6) rfl)) pa_nil)) rfl)
      (pss_one (ps_fld (pv 0) (pe_call GM hr rfl mM kM bM .nil pass0 (pa_cons (pv 4) (pa_cons (pv 3) pa_nil))) rfl)))), ?_⟩
    refine ⟨_, rfl, n, rfl, ⟨_, SqL.of hn⟩, fun D hD => lc_list (K := K) (a := n) (xs := nv t) (fun j H3 => ∃ bs : List Addr, H3 D = some (.lst (bs.map V.ref)) ∧ RoadsAt CR H bs (pick rs (t.take j)) ∧ Same H H3)
      ⟨[], upd_same, ⟨rfl, fun j x s a b => by simp at a⟩, same_new hD⟩ (fun j H3 _ ⟨_, _, _, q⟩ => SqL.of (q _ _ hn)) ?_ ?_⟩
    · rintro j y H3 hj ⟨bs, g1, g2, g3⟩
      obtain ⟨i, hi, rfl⟩ := map_at hj
      have hir : i < rs.length := htl i (List.mem_of_getElem? hi)
      obtain ⟨a, ha, Ra⟩ := pick_at hR hir
      refine ⟨rfl, _, rfl, _, rfl, r, _, _, _, rfl, rfl, SqL.of (g3 _ _ hra), atI_nat (v := .ref a) (by rw [List.getElem?_map, ha]; rfl), _, g1, ?_, bs ++ [a], ?_, ?_, Same_upd g3 hD⟩
      · rw [List.length_map, g2.1]
        unfold pick
        rw [List.length_map, List.length_take]
        exact Nat.lt_of_le_of_lt (Nat.min_le_right _ _) (Nat.lt_of_le_of_lt ht20 (by decide))
      · rw [upd_same, List.map_append]
        rfl
      · rw [take_snoc hi]
        unfold pick
        rw [List.map_append]
        exact RoadsAt.snoc g2 Ra
    · rintro H1 ⟨bs, g1, g2, g3⟩
      rw [nv_len, List.take_length] at g2
      have hx1 := g3 _ _ hx
      have Dx : D ≠ x := ne_of g1 hx1 (by intro z; cases z)
      have hlen : (pick rs t).length ≤ 20 := by
        unfold pick
        rw [List.length_map]
        exact ht20
      refine ⟨_, rfl, _, rfl, x, CB, dx, [], rfl, hx1, TB.cl, TB.nNu, (by show 0 < 1000; decide), ?_⟩
      have b2 : But x H1 (upd H1 x (.ins CB dx (putF "numbers" (.ref n) []))) := fun b o e q => by
        rw [upd_ne q]
        exact e
      have x2 : (upd H1 x (.ins CB dx (putF "numbers" (.ref n) []))) x = some (.ins CB dx (putF "numbers" (.ref n) [])) := upd_same
      revert b2 x2
      generalize upd H1 x (.ins CB dx (putF "numbers" (.ref n) [])) = H2
      intro b2 x2
      have D2 := b2 _ _ g1 Dx
      have R2 : RoadsAt CR H2 bs (pick rs t) := (g2.same g3).but hx1 b2
      refine ⟨_, rfl, D, rfl, ⟨_, SqL.of D2⟩, fun E hE => lc_list (K := K) (a := D) (xs := bs.map V.ref) (fun i H' => H' E = some (.lst (((pick rs t).take i).map fun r => V.int (r.build : Int))) ∧ Same H2 H')
        ⟨upd_same, same_new hE⟩ (fun i H' _ q => SqL.of (q.2 _ _ D2)) ?_ ?_⟩
      · rintro i y H' hi ⟨h1, h2⟩
        obtain ⟨z, hz, rfl⟩ := map_at hi
        obtain ⟨q, hq2, R⟩ := R2.get hz
        obtain ⟨dz, fs, hfs, l1, l2, l3, l4⟩ := (R.same h2).ex
        have hil := (List.getElem?_eq_some_iff.mp hq2).1
        refine ⟨rfl, _, rfl, z, CR, dz, fs, _, rfl, hfs, T.cR, T.nBu, l3, _, h1, ?_, ?_, ?_⟩
        · rw [List.length_map, List.length_take]
          exact Nat.lt_of_le_of_lt (Nat.min_le_left _ _) (Nat.lt_of_lt_of_le hil (Nat.le_trans hlen (by decide)))
        · rw [upd_same, take_snoc hq2, List.map_append]
          rfl
        · exact Same_upd h2 hE
      · rintro H3 ⟨h1, s3⟩
        rw [List.length_map, R2.1, List.take_length] at h1
        refine ⟨E, (pick rs t).map fun r => (r.build : Int), rfl, SqL.of (by rw [h1, List.map_map]; rfl), ?_⟩
        rw [isum_are]
        have x3 := s3 _ _ x2
        have Ex : E ≠ x := ne_of h1 x3 (by intro z; cases z)
        refine ⟨_, rfl, x, CB, dx, _, rfl, x3, TB.cl, TB.nBu, (by show 1 < 1000; decide), ?_⟩
        have b4 : But x H3 (upd H3 x (.ins CB dx (putF "build" (.int (bsum (pick rs t) : Nat)) (putF "numbers" (.ref n) [])))) := fun b o e q => by
          rw [upd_ne q]
          exact e
        have x4 : (upd H3 x (.ins CB dx (putF "build" (.int (bsum (pick rs t) : Nat)) (putF "numbers" (.ref n) [])))) x = some (.ins CB dx (putF "build" (.int (bsum (pick rs t) : Nat)) (putF "numbers" (.ref n) []))) := upd_same
        revert b4 x4
        generalize upd H3 x (.ins CB dx (putF "build" (.int (bsum (pick rs t) : Nat)) (putF "numbers" (.ref n) []))) = H4
        intro b4 x4
        have D4 := b4 _ _ (s3 _ _ D2) Dx
        have b14 : But x H H4 := fun b o e q => b4 _ _ (s3 _ _ (b2 _ _ (g3 _ _ e) q)) q
        have R4 : RoadsAt CR H4 bs (pick rs t) := g2.but hx b14
        refine ⟨_, rfl, _, rfl, D, bs, pick rs t, p, rfl, D4, R4, fun q hq => he q (mem_pick htl hq), hp, hp7, fun H5 m hm em s5 => ?_⟩
        have x5 := s5 _ _ x4
        have mx : m ≠ x := ne_of em x5 (by intro z; cases z)
        have nx : n ≠ x := ne_of hn hx (by intro z; cases z)
        refine ⟨_, rfl, x, CB, dx, _, rfl, x5, TB.cl, TB.nMa, (by show 2 < 1000; decide), ?_⟩
        refine k _ (fun D' o' hD' nD => ⟨dx, _, n, m, upd_same, ?_, ?_, ?_, ?_, ?_, ?_, nD, ?_⟩) ?_
        · rw [lookup_put, if_neg (by decide +kernel), lookup_put, if_neg (by decide +kernel), lookup_put, if_pos rfl]
        · rw [lookup_put, if_neg (by decide +kernel), lookup_put, if_pos rfl]
          rfl
        · rw [lookup_put, if_pos rfl]
        · rw [upd_ne nx]
          exact s5 _ _ (b14 _ _ hn nx)
        · rw [upd_ne mx]
          exact em
        · rw [lookup_put, if_neg (by decide +kernel), lookup_put, if_neg (by decide +kernel), lookup_put, if_neg (by decide +kernel)]
          rfl
        · intro e
          subst e
          exact ne_of_none (b14 _ _ hD' mx) hm rfl
        · intro b o e q
          rw [upd_ne q]
          exact s5 _ _ (b14 _ _ e q)
/-! ### cost_with -/
def spCw (CB : Addr) : Sp := fun vs H Q _ => ∃ (x l : Addr) (b : Bs) (ls : List Nat), vs = [.ref x, .ref l] ∧ BsAt CB H x b ∧ H l = some (.lst (nv ls)) ∧ ls.length = b.marks.length ∧ (∀ n, n ∈ ls → n ≤ 1000) ∧ ∀ H' : Hp, Same H H' → Q (oV (costs (ls.zip b.marks) b.build)) H'
theorem scCw : FnScope ["self", "loads", "cost", "n", "mark"] ["self", "loads"] (defScope sCw) := ⟨rfl, rfl, rfl, by decide +kernel, rfl, by decide +kernel, by decide +kernel⟩
theorem ok_cw {f CR CB : Addr} {fd : FuncData} (F : Fun K "cost_with" "BuiltSet.cost_with" sCw f fd) (T : Txt K mg CR) (TB : TxtB K mg CB) : FnOk P w K mg base CX0 1 f fd ["self", "loads"] (spCw CB) := by
  refine F.ok scCw (fun vs H Q E h => ?_) (fun cdv A outer s H vs Q E hr h => ?_)
  · obtain ⟨x, l, b, ls, rfl, _⟩ := h
    rfl
  · obtain ⟨x, l, b, ls, rfl, ⟨dx, fs, nA, mA, hx, f1, f2, f3, h1, h2, f4⟩, hl, hlen, hls, k⟩ := h
    refine ⟨_, pss_cons (ps_set (i := 2) scCw.nd rfl (Or.inl rfl) (pe_fld (pv 0) rfl))
      (pss_cons (ps_for PassesOwn.never rfl (pi_zip rfl T.zip (pa_cons (pv 1) (pa_cons (pe_fld (pv 0) rfl) pa_nil)))
          (pg_tup rfl (pgs_cons (pg_name (i := 3) scCw.nd rfl (Or.inl rfl)) (pgs_cons (pg_name (i := 4) scCw.nd rfl (Or.inl rfl)) pgs_nil)))
        (pss_one (ps_if (pt_cmpR op_gt (pv 3) pe_int (nobehind _ (by decide) (by decide)))
          (pss_cons (ps_if (pt_cmpR op_eq (pv 4) pe_int (nobehind _ (by decide) (by decide))) (pss_one (ps_ret pe_non)) pss_nil)
          (pss_one (ps_aug (i := 2) scCw.nd rfl (Or.inl rfl) (pe_op op_mul (pv 3) (pe_op op_sub (pv 4) pe_int)) ip_add))) pss_nil)))
      (pss_one (ps_ret (pv 2)))), ?_⟩
    refine ⟨_, rfl, x, CB, dx, fs, _, rfl, hx, TB.cl, TB.nBu, f2, ?_⟩
    refine ⟨_, rfl, _, rfl, x, CB, dx, fs, _, rfl, hx, TB.cl, TB.nMa, f3, ?_⟩
    refine ⟨l, mA, _, _, rfl, SqL.of hl, SqL.of h2, for_zip (K := K) (a := l) (b := mA) (xs := nv ls) (ys := nv b.marks) (by rw [nv_len, nv_len, hlen])
      (fun i σ H' => ∃ (c : Nat) (v3 v4 : Option V), σ = [some (.ref x), some (.ref l), some (.int (c : Nat)), v3, v4] ∧ costs (ls.zip b.marks) b.build = costs ((ls.zip b.marks).drop i) c ∧ Same H H')
      ⟨_, none, none, rfl, rfl, fun _ _ h => h⟩ (fun i σ H' ⟨_, _, _, _, _, q⟩ => ⟨SqL.of (q _ _ hl), SqL.of (q _ _ h2)⟩) ?_ ?_⟩
    · rintro i a y t σ H3 hx3 hy ht ⟨c, v3, v4, rfl, ec, s3⟩
      obtain ⟨n, hn, rfl⟩ := map_at hx3
      obtain ⟨d, hd, rfl⟩ := map_at hy
      have hz := drop_at (zip_at hn hd)
      rw [hz] at ec
      have s4 : Same H (upd H3 t (.tup [.int (n : Nat), .int (d : Nat)])) := fun q o e => by rw [upd_ne (ne_of_none (s3 _ _ e) ht)]; exact s3 _ _ e
      have hn1000 := hls n (List.mem_of_getElem? hn)
      refine ⟨t, _, rfl, SqT.of upd_same, rfl, _, _, rfl, _, _, rfl, rfl, _, rfl, _, _, rfl, rfl, _, rfl, ite2 (fun e => ?_) (fun e => ?_)⟩
      · have e := posN e
        refine ⟨_, rfl, rfl, _, rfl, ite2 (fun e3 => ?_) (fun e3 => ?_)⟩
        · have e3 := eq0 e3
          have : costs (ls.zip b.marks) b.build = none := by
            rw [ec]
            show (if 0 < n then (if d = 0 then none else _) else _) = none
            rw [if_pos e, if_pos e3]
          have k2 := k _ s4
          rw [this] at k2
          exact k2
        · have e3 := ne0 e3
          refine ⟨_, rfl, _, rfl, _, rfl, _, _, rfl, rfl, _, _, rfl, rfl, .inl ⟨by omega, by omega⟩, _, _, rfl, rfl, c + n * (d - 1), some (.int (n : Nat)), some (.int (d : Nat)), ?_, ?_, s4⟩
          · have : (c : Int) + (n : Int) * ((d : Int) - 1) = ((c + n * (d - 1) : Nat) : Int) := by
              rw [Int.natCast_add, Int.natCast_mul, Int.natCast_sub (by omega)]
              rfl
            rw [← this]
            rfl
          · rw [ec]
            show (if 0 < n then (if d = 0 then none else _) else _) = _
            rw [if_pos e, if_neg e3]
      · have e := nposN e
        refine ⟨c, _, _, rfl, ?_, s4⟩
        rw [ec]
        show (if 0 < n then (if d = 0 then none else _) else _) = _
        rw [if_neg e]
    · rintro σ H3 ⟨c, v3, v4, rfl, ec, s3⟩
      rw [nv_len, List.drop_of_length_le (by rw [List.length_zip, hlen]; omega)] at ec
      have k2 := k _ s3
      rw [ec] at k2
      exact ⟨_, rfl, k2⟩
/-! ### sets_lowest_first -/
/-- sets stand at the addresses, each as a list of road numbers -/
def SetsAt (H : Hp) (as : List Addr) (ss : List (List Nat)) : Prop := as.length = ss.length ∧ ∀ (i : Nat) (x : Addr) (s : List Nat), as[i]? = some x → ss[i]? = some s → H x = some (.lst (nv s))
theorem SetsAt.get {H : Hp} {as : List Addr} {ss : List (List Nat)} (h : SetsAt H as ss) {i : Nat} {x : Addr} (e : as[i]? = some x) : ∃ s, ss[i]? = some s ∧ H x = some (.lst (nv s)) := by
  have hi := (List.getElem?_eq_some_iff.mp e).1
  have := h.1
  exact ⟨ss[i], List.getElem?_eq_getElem (by omega), h.2 i x _ e (List.getElem?_eq_getElem (by omega))⟩
theorem SetsAt.same {H H' : Hp} {as : List Addr} {ss : List (List Nat)} (h : SetsAt H as ss) (q : Same H H') : SetsAt H' as ss := ⟨h.1, fun i x s a b => q _ _ (h.2 i x s a b)⟩
theorem SetsAt.app {H : Hp} {as bs : List Addr} {ss ts : List (List Nat)} (h : SetsAt H as ss) (g : SetsAt H bs ts) : SetsAt H (as ++ bs) (ss ++ ts) := by
  refine ⟨by rw [List.length_append, List.length_append, h.1, g.1], fun i x s a b => ?_⟩
  by_cases hi : i < as.length
  · rw [List.getElem?_append_left hi] at a
    rw [List.getElem?_append_left (by rw [← h.1]; exact hi)] at b
    exact h.2 i x s a b
  · rw [List.getElem?_append_right (by omega)] at a
    rw [List.getElem?_append_right (by rw [← h.1]; omega), ← h.1] at b
    exact g.2 _ x s a b
theorem SetsAt.one {H : Hp} {x : Addr} {s : List Nat} (h : H x = some (.lst (nv s))) : SetsAt H [x] [s] := by
  refine ⟨rfl, fun i y t a b => ?_⟩
  cases i with
  | zero =>
    have a : x = y := Option.some.inj a
    have b : s = t := Option.some.inj b
    subst a b
    exact h
  | succ i => simp at a
/-- another list than those is written -/
theorem SetsAt.upd {H : Hp} {as : List Addr} {ss : List (List Nat)} (h : SetsAt H as ss) {D : Addr} (o : HO) (n : ∀ x, x ∈ as → x ≠ D) : SetsAt (L2.upd H D o) as ss := ⟨h.1, fun i x s a b => by
  rw [upd_ne (n x (List.mem_of_getElem? a))]
  exact h.2 i x s a b⟩
theorem sets_small {n : Nat} (h : n ≤ 9) : (sets n).length ≤ 512 := by
  rw [sets_length]
  exact Nat.pow_le_pow_right (by decide) h
theorem set_small {n : Nat} {s : List Nat} (h : s ∈ sets n) : s.length ≤ n := by
  rw [sets_are] at h
  obtain ⟨b, _, rfl⟩ := List.mem_map.mp h
  exact members_len n b
theorem nv_app (a b : List Nat) : nv (a ++ b) = nv a ++ nv b := by
  unfold nv
  rw [List.map_append]
def spSts : Sp := fun vs H Q _ => ∃ n : Nat, vs = [.int n] ∧ n ≤ 9 ∧ ∀ (H' : Hp) (p : Addr) (as : List Addr), H' p = some (.lst (as.map V.ref)) → SetsAt H' as (sets n) → Same H H' → Q (.ref p) H'
theorem scSts : FnScope ["how_many", "sets", "number", "without"] ["how_many"] (defScope sSts) := ⟨rfl, rfl, rfl, by decide +kernel, rfl, by decide +kernel, by decide +kernel⟩
theorem ok_sts {f CR : Addr} {fd : FuncData} (F : Fun K "sets_lowest_first" "sets_lowest_first" sSts f fd) (T : Txt K mg CR) : FnOk P w K mg base CX0 1 f fd ["how_many"] spSts := by
  refine F.ok scSts (fun vs H Q E h => ?_) (fun cdv A outer s H vs Q E hr h => ?_)
  · obtain ⟨n, rfl, _⟩ := h
    rfl
  · obtain ⟨n, rfl, hn9, k⟩ := h
    refine ⟨_, pss_cons (ps_set (i := 1) scSts.nd rfl (Or.inl rfl) (pe_lst (pa_cons (pe_lst pa_nil) pa_nil)))
      (pss_cons (ps_for PassesOwn.never rfl (pi_range1 rfl T.range (pa_cons (pv 0) pa_nil)) (pg_name (i := 2) scSts.nd rfl (by first | exact Or.inl rfl | exact Or.inr rfl))
        (pss_one (ps_set (i := 1) scSts.nd rfl (Or.inl rfl) (pe_op op_cat (pv 1)
          (pe_lc (own := [("without", 3)]) (te := tOp rCat (tVar 3) (tLst (tCons (tVar 2) tNil))) rfl scSts.nd (pi_list (pv 1)) (blkOk_by (by show blkC ["how_many", "sets", "number", "without"] (defScope sSts) _ _ = true; decide +kernel)) (fun s H C cl fp => pg_name (i := 3) scSts.nd rfl (Or.inl rfl)) (fun s H C cl fp => pts_nil) (fun s H C cl fp => pe_op op_cat (pv 3) (pe_lst (pa_cons (pv 2) pa_nil))))))))
      (pss_one (ps_ret (pv 1)))), ?_⟩
    refine ⟨Nat.zero_le _, fun l0 h0 => ⟨(by show 1 ≤ sizeLine; decide), fun p0 hp0 => ?_⟩⟩
    have n0 : l0 ≠ p0 := fun e => by subst e; rw [upd_same] at hp0; cases hp0
    have hp0' : H p0 = none := by rw [upd_ne (Ne.symm n0)] at hp0; exact hp0
    refine ⟨_, rfl, (n : Int), rfl, by omega, by omega, for_range (n := (n : Int).toNat) (fun i σ H' => ∃ (p : Addr) (as : List Addr) (v2 v3 : Option V), σ = [some (.int n), some (.ref p), v2, v3] ∧ H' p = some (.lst (as.map V.ref)) ∧ SetsAt H' as (sets i) ∧ Same H H')
      ⟨p0, [l0], none, none, rfl, upd_same, SetsAt.one (by rw [upd_ne n0, upd_same]; rfl), Same_upd (same_new h0) hp0'⟩ ?_ ?_⟩
    · rintro i σ H' hi ⟨p, as, v2, v3, rfl, h1, h2, h3⟩
      have hi9 : i ≤ 9 := by omega
      have hlen := sets_small hi9
      refine ⟨_, rfl, _, rfl, p, rfl, ⟨_, SqL.of h1⟩, fun D hD => lc_list (K := K) (a := p) (xs := as.map V.ref) (fun j H2 => ∃ bs : List Addr, H2 D = some (.lst (bs.map V.ref)) ∧ (∀ x, x ∈ bs → x ≠ D) ∧ SetsAt H2 bs (((sets i).take j).map fun s => s ++ [i]) ∧ Same H' H2)
        ⟨[], upd_same, (fun x h => by cases h), ⟨rfl, fun j x s a b => by simp at a⟩, same_new hD⟩ (fun j H2 _ ⟨_, _, _, _, q⟩ => SqL.of (q _ _ h1)) ?_ ?_⟩
      · rintro j y H2 hj ⟨bs, g1, g2, g3, g4⟩
        obtain ⟨x, hx, rfl⟩ := map_at hj
        obtain ⟨t, ht, hxt⟩ := h2.get hx
        have hxt2 := g4 _ _ hxt
        have htl := set_small (List.mem_of_getElem? ht)
        refine ⟨rfl, _, rfl, _, rfl, (by show 1 ≤ sizeLine; decide), fun l hl => ⟨x, l, nv t, _, rfl, rfl, (by rw [upd_ne (ne_of_none hxt2 hl)]; exact hxt2), upd_same, (by rw [nv_len]; exact Nat.le_trans (Nat.add_le_add_right (Nat.le_trans htl hi9) _) (by show 9 + 1 ≤ sizeLine; decide)), fun q hq => ?_⟩⟩
        have hql : q ≠ l := fun e => by subst e; rw [upd_same] at hq; cases hq
        have hq2 : H2 q = none := by rw [upd_ne hql] at hq; exact hq
        have s5 : Same H2 (upd (upd H2 l (.lst [V.int (0 + (i : Int))])) q (.lst (nv t ++ [V.int (0 + (i : Int))]))) := fun c o e => by
          rw [upd_ne (ne_of_none e hq2), upd_ne (ne_of_none e hl)]
          exact e
        have hqD : q ≠ D := fun e => by subst e; rw [g1] at hq2; cases hq2
        refine ⟨_, s5 _ _ g1, ?_, bs ++ [q], ?_, ?_, ?_, ?_⟩
        · rw [List.length_map, g3.1, List.length_map, List.length_take]
          exact Nat.lt_of_le_of_lt (Nat.min_le_right _ _) (Nat.lt_of_le_of_lt hlen (by decide))
        · rw [upd_same, List.map_append]
          rfl
        · intro z hz
          rcases List.mem_append.mp hz with hz | hz
          · exact g2 z hz
          · rw [List.mem_singleton.mp hz]
            exact hqD
        · rw [take_snoc ht, List.map_append]
          refine SetsAt.app ((g3.same s5).upd _ g2) ?_
          refine SetsAt.one ?_
          rw [upd_ne hqD, upd_same, nv_app]
          have : nv [i] = [V.int (0 + (i : Int))] := by
            show [V.int (i : Int)] = _
            rw [Int.zero_add]
          rw [this]
        · exact Same_upd (g4.trans s5) hD
      · rintro H2 ⟨bs, g1, g2, g3, g4⟩
        rw [List.length_map, h2.1, List.take_length] at g3
        refine ⟨p, D, _, _, rfl, rfl, g4 _ _ h1, g1, ?_, fun q hq => ?_⟩
        · rw [List.length_map, List.length_map, h2.1, g3.1, List.length_map]
          exact Nat.le_trans (Nat.add_le_add hlen hlen) (by decide)
        · have s6 : Same H2 (upd H2 q (.lst (as.map V.ref ++ bs.map V.ref))) := same_new hq
          refine ⟨q, as ++ bs, _, _, rfl, ?_, SetsAt.app (h2.same (g4.trans s6)) (g3.same s6), h3.trans (g4.trans s6)⟩
          rw [upd_same, List.map_append]
    · rintro σ H' ⟨p, as, v2, v3, rfl, h1, h2, h3⟩
      exact ⟨_, rfl, k H' p as h1 h2 h3⟩
end
end Fr
set_option Elab.async false
set_option linter.all false
set_option maxRecDepth 100000
set_option maxHeartbeats 2000000
namespace Fr
open PySem PySem.Spec PyProof.Rows L2
open PySem.W (Codec)
abbrev sChI : Stmt := inClass (top 15) 0
abbrev sOff : Stmt := inClass (top 15) 1
abbrev sChf : Stmt := top 20
/-- a stored field that was there: no more fields than before -/
theorem putF_len {f : Str} {v : V} : ∀ {fs : List (Str × V)} {o : V}, fs.lookup f = some o → (putF f v fs).length = fs.length
  | [], _, h => by cases h
  | (g, x) :: r, o, h => by
    show (if g = f then (g, v) :: r else (g, x) :: putF f v r).length = _
    by_cases e : g = f
    · rw [if_pos e]
      rfl
    · rw [if_neg e]
      have : (f == g) = false := beq_eq_false_iff_ne.mpr (Ne.symm e)
      rw [List.lookup_cons, this] at h
      show (putF f v r).length + 1 = r.length + 1
      rw [putF_len h]
/-- a Cheapest stands at x; g tells what stands where a set is kept -/
structure ChAt (CC CB : Addr) (g : List Nat → Bs) (H : Hp) (x : Addr) (h : Ch) : Prop where
  ex : ∃ dx fs v, H x = some (.ins CC dx fs) ∧ fs.length ≤ 3 ∧ fs.lookup ("cost" : Str) = some (oV h.cost) ∧ fs.lookup ("how_many" : Str) = some (.int (h.many : Nat)) ∧ fs.lookup ("lowest" : Str) = some v ∧ fs.lookup ("offer" : Str) = none ∧ fs.lookup ("numbers" : Str) = none ∧
    ∀ c, h.cost = some c → ∃ y, v = .ref y ∧ BsAt CB H y (g h.low)
theorem ChAt.same {CC CB : Addr} {g : List Nat → Bs} {H H' : Hp} {x : Addr} {h : Ch} (c : ChAt CC CB g H x h) (q : Same H H') : ChAt CC CB g H' x h := by
  obtain ⟨dx, fs, v, a, b, d, e, f, z1, z2, z⟩ := c.ex
  exact ⟨dx, fs, v, q _ _ a, b, d, e, f, z1, z2, fun c hc => by
    obtain ⟨y, e, B⟩ := z c hc
    exact ⟨y, e, B.same q⟩⟩
structure TxtC (K : PySem.W.Frag) (mg : Str → Option Value) (CC : Addr) : Prop where
  cl : Cls K CC
  nCo : NoAttr K CC "cost"
  nHm : NoAttr K CC "how_many"
  nLo : NoAttr K CC "lowest"
  mgC : mg "Cheapest" = some (.ref CC)
section
variable {P : Program} {w : World} {K : PySem.W.Frag} {mg : Str → Option Value} {base : Heap}
def spChI (CC CB : Addr) : Sp := fun vs H Q _ => ∃ (p dx : Addr), vs = [.ref p] ∧ H p = some (.ins CC dx []) ∧ ∀ H' : Hp, (∀ g, ChAt CC CB g H' p ⟨none, 0, []⟩) → But p H H' → Q .non H'
theorem scChI : FnScope ["self"] ["self"] (defScope sChI) := ⟨rfl, rfl, rfl, by decide +kernel, rfl, by decide +kernel, by decide +kernel⟩
theorem ok_chI {f CC CB : Addr} {fd : FuncData} (F : Fun K "__init__" "Cheapest.__init__" sChI f fd) (T : TxtC K mg CC) : FnOk P w K mg base CX0 1 f fd ["self"] (spChI CC CB) := by
  refine F.ok scChI (fun vs H Q E h => ?_) (fun cdv A outer s H vs Q E hr h => ?_)
  · obtain ⟨p, dx, rfl, _⟩ := h
    rfl
  · obtain ⟨p, dx, rfl, hp, k⟩ := h
    refine ⟨_, pss_cons (ps_fld (pv 0) pe_non rfl) (pss_cons (ps_fld (pv 0) pe_int rfl) (pss_one (ps_fld (pv 0) pe_non rfl))), ?_⟩
    refine ⟨_, rfl, p, CC, dx, [], rfl, hp, T.cl, T.nCo, (by show 0 < 1000; decide), ?_⟩
    refine ⟨_, rfl, p, CC, dx, _, rfl, upd_same, T.cl, T.nHm, (by show 1 < 1000; decide), ?_⟩
    refine ⟨_, rfl, p, CC, dx, _, rfl, upd_same, T.cl, T.nLo, (by show 2 < 1000; decide), ?_⟩
    refine k _ (fun g => ⟨dx, _, .non, upd_same, ?_, ?_, ?_, ?_, ?_, ?_, ?_⟩) ?_
    · show 3 ≤ 3
      exact Nat.le_refl _
    · rw [lookup_put, if_neg (by decide +kernel), lookup_put, if_neg (by decide +kernel), lookup_put, if_pos rfl]
      rfl
    · rw [lookup_put, if_neg (by decide +kernel), lookup_put, if_pos rfl]
      rfl
    · rw [lookup_put, if_pos rfl]
    · rw [lookup_put, if_neg (by decide +kernel), lookup_put, if_neg (by decide +kernel), lookup_put, if_neg (by decide +kernel)]
      rfl
    · rw [lookup_put, if_neg (by decide +kernel), lookup_put, if_neg (by decide +kernel), lookup_put, if_neg (by decide +kernel)]
      rfl
    · intro c hc
      cases hc
    · intro b o e hb
      rw [upd_ne hb, upd_ne hb, upd_ne hb]
      exact e
def spOff (CC CB : Addr) : Sp := fun vs H Q _ => ∃ (p y : Addr) (g : List Nat → Bs) (h : Ch) (c : Nat) (s : List Nat), vs = [.ref p, .int c, .ref y] ∧ ChAt CC CB g H p h ∧ BsAt CB H y (g s) ∧ ∀ H' : Hp, ChAt CC CB g H' p (offer h c s) → But p H H' → Q .non H'
theorem scOff : FnScope ["self", "cost", "chosen"] ["self", "cost", "chosen"] (defScope sOff) := ⟨rfl, rfl, rfl, by decide +kernel, rfl, by decide +kernel, by decide +kernel⟩
theorem ok_off {f CC CB : Addr} {fd : FuncData} (F : Fun K "offer" "Cheapest.offer" sOff f fd) (T : TxtC K mg CC) : FnOk P w K mg base CX0 1 f fd ["self", "cost", "chosen"] (spOff CC CB) := by
  refine F.ok scOff (fun vs H Q E h => ?_) (fun cdv A outer s H vs Q E hr h => ?_)
  · obtain ⟨p, y, g, h, c, s, rfl, _⟩ := h
    rfl
  · obtain ⟨p, y, g, h, c, t, rfl, ⟨dx, fs, v, hp, hfs, lc, lm, ll, lo, ln, hv⟩, hy, k⟩ := h
    refine ⟨_, pss_one (ps_if (pw_or (pt_cmp (pc_isN (pe_fld (pv 0) rfl))) (pw_or1 (pt_cmpR op_lt (pv 1) (pe_fld (pv 0) rfl) (nobehind _ (by decide) (by decide))))).pt
      (pss_cons (ps_fld (pv 0) (pv 1) rfl) (pss_cons (ps_fld (pv 0) pe_int rfl) (pss_one (ps_fld (pv 0) (pv 2) rfl))))
      (pss_one (ps_if (pt_cmpR op_eq (pv 1) (pe_fld (pv 0) rfl) (nobehind _ (by decide) (by decide))) (pss_one (ps_fldaug (pv 0) pe_int in_add)) pss_nil))), ?_⟩
    have but : But p H (upd (upd (upd H p (.ins CC dx (putF "cost" (.int (c : Nat)) fs))) p (.ins CC dx (putF "how_many" (.int 1) (putF "cost" (.int (c : Nat)) fs)))) p (.ins CC dx (putF "lowest" (.ref y) (putF "how_many" (.int 1) (putF "cost" (.int (c : Nat)) fs))))) := fun b o e hb => by
      rw [upd_ne hb, upd_ne hb, upd_ne hb]
      exact e
    have store : ChAt CC CB g (upd (upd (upd H p (.ins CC dx (putF "cost" (.int (c : Nat)) fs))) p (.ins CC dx (putF "how_many" (.int 1) (putF "cost" (.int (c : Nat)) fs)))) p (.ins CC dx (putF "lowest" (.ref y) (putF "how_many" (.int 1) (putF "cost" (.int (c : Nat)) fs))))) p ⟨some c, 1, t⟩ := by
      refine ⟨dx, _, .ref y, upd_same, ?_, ?_, ?_, ?_, ?_, ?_, ?_⟩
      · rw [putF_len (o := v) (by rw [lookup_put, if_neg (by decide +kernel), lookup_put, if_neg (by decide +kernel)]; exact ll), putF_len (o := .int (h.many : Nat)) (by rw [lookup_put, if_neg (by decide +kernel)]; exact lm), putF_len lc]
        exact hfs
      · rw [lookup_put, if_neg (by decide +kernel), lookup_put, if_neg (by decide +kernel), lookup_put, if_pos rfl]
        rfl
      · rw [lookup_put, if_neg (by decide +kernel), lookup_put, if_pos rfl]
        rfl
      · rw [lookup_put, if_pos rfl]
      · rw [lookup_put, if_neg (by decide +kernel), lookup_put, if_neg (by decide +kernel), lookup_put, if_neg (by decide +kernel)]
        exact lo
      · rw [lookup_put, if_neg (by decide +kernel), lookup_put, if_neg (by decide +kernel), lookup_put, if_neg (by decide +kernel)]
        exact ln
      · intro c' _
        exact ⟨y, rfl, hy.but hp ln but⟩
    have len1 : (putF "cost" (.int (c : Nat)) fs).length < 1000 := by rw [putF_len lc]; omega
    have len2 : (putF "how_many" (.int 1) (putF "cost" (.int (c : Nat)) fs)).length < 1000 := by rw [putF_len (o := .int (h.many : Nat)) (by rw [lookup_put, if_neg (by decide +kernel)]; exact lm), putF_len lc]; omega
    refine ⟨_, rfl, p, CC, dx, fs, _, rfl, hp, T.cl, T.nCo, lc, _, rfl, ?_⟩
    cases ec : h.cost with
    | none =>
      refine iteT ⟨_, rfl, _, rfl, p, CC, dx, fs, rfl, hp, T.cl, T.nCo, by omega, _, rfl, p, CC, dx, _, rfl, upd_same, T.cl, T.nHm, len1, _, rfl, _, rfl, p, CC, dx, _, rfl, upd_same, T.cl, T.nLo, len2, ?_⟩
      refine k _ ?_ but
      have : offer h c t = ⟨some c, 1, t⟩ := by unfold offer; rw [ec]
      rw [this]
      exact store
    | some x =>
      rw [ec] at lc
      refine iteF ⟨_, rfl, _, rfl, p, CC, dx, fs, _, rfl, hp, T.cl, T.nCo, lc, _, _, rfl, rfl, _, rfl, ite2 (fun e => ?_) (fun e => ?_)⟩
      · have e : c < x := by
          have := of_decide_eq_true e
          omega
        refine ⟨_, rfl, _, rfl, p, CC, dx, fs, rfl, hp, T.cl, T.nCo, by omega, _, rfl, p, CC, dx, _, rfl, upd_same, T.cl, T.nHm, len1, _, rfl, _, rfl, p, CC, dx, _, rfl, upd_same, T.cl, T.nLo, len2, ?_⟩
        refine k _ ?_ but
        have : offer h c t = ⟨some c, 1, t⟩ := by unfold offer; rw [ec]; exact if_pos e
        rw [this]
        exact store
      · have e : ¬ c < x := fun q => e (decide_eq_true (by omega))
        refine ⟨_, rfl, _, rfl, p, CC, dx, fs, _, rfl, hp, T.cl, T.nCo, lc, rfl, _, rfl, ite2 (fun e2 => ?_) (fun e2 => ?_)⟩
        · have e2 : c = x := by
            have := V.int.inj (of_decide_eq_true e2)
            omega
          refine ⟨_, rfl, p, CC, dx, fs, _, rfl, hp, T.cl, T.nHm, lm, _, _, rfl, rfl, dx, fs, hp, by omega, ?_⟩
          have but3 : But p H (upd H p (.ins CC dx (putF "how_many" (.int ((h.many : Int) + 1)) fs))) := fun b o e hb => by rw [upd_ne hb]; exact e
          refine k _ ?_ but3
          have : offer h c t = ⟨some x, h.many + 1, h.low⟩ := by
            unfold offer
            rw [ec]
            show (if c < x then _ else if c = x then _ else _) = _
            rw [if_neg e, if_pos e2]
          rw [this]
          refine ⟨dx, _, v, upd_same, ?_, ?_, ?_, ?_, ?_, ?_, ?_⟩
          · rw [putF_len lm]
            exact hfs
          · rw [lookup_put, if_neg (by decide +kernel)]
            exact lc
          · rw [lookup_put, if_pos rfl]
            rfl
          · rw [lookup_put, if_neg (by decide +kernel)]
            exact ll
          · rw [lookup_put, if_neg (by decide +kernel)]
            exact lo
          · rw [lookup_put, if_neg (by decide +kernel)]
            exact ln
          · intro c' _
            obtain ⟨z, ez, Bz⟩ := hv x ec
            exact ⟨z, ez, Bz.but hp ln but3⟩
        · have e2 : ¬ c = x := fun q => e2 (by subst q; exact decide_eq_true rfl)
          refine k _ ?_ fun b o e _ => e
          have : offer h c t = h := by
            unfold offer
            rw [ec]
            show (if c < x then _ else if c = x then _ else _) = _
            rw [if_neg e, if_neg e2]
          rw [this]
          exact ⟨dx, fs, v, hp, hfs, by rw [ec]; exact lc, lm, ll, lo, ln, hv⟩
/-! ### cheapest_for -/
def BSetsAt (C : Addr) (H : Hp) (as : List Addr) (g : List Nat → Bs) (ss : List (List Nat)) : Prop := as.length = ss.length ∧ ∀ (i : Nat) (x : Addr) (s : List Nat), as[i]? = some x → ss[i]? = some s → BsAt C H x (g s)
theorem BSetsAt.get {C : Addr} {H : Hp} {as : List Addr} {g : List Nat → Bs} {ss : List (List Nat)} (h : BSetsAt C H as g ss) {i : Nat} {x : Addr} (e : as[i]? = some x) : ∃ s, ss[i]? = some s ∧ BsAt C H x (g s) := by
  have hi := (List.getElem?_eq_some_iff.mp e).1
  have := h.1
  exact ⟨ss[i], List.getElem?_eq_getElem (by omega), h.2 i x _ e (List.getElem?_eq_getElem (by omega))⟩
theorem BSetsAt.same {C : Addr} {H H' : Hp} {as : List Addr} {g : List Nat → Bs} {ss : List (List Nat)} (h : BSetsAt C H as g ss) (q : Same H H') : BSetsAt C H' as g ss := ⟨h.1, fun i x s a b => (h.2 i x s a b).same q⟩
def gStep (g : List Nat → Bs) (ls : List Nat) (h : Ch) (s : List Nat) : Ch := match costs (ls.zip (g s).marks) (g s).build with
  | none => h
  | some c => offer h c s
def spChf (CC CB : Addr) : Sp := fun vs H Q _ => ∃ (l p : Addr) (as : List Addr) (g : List Nat → Bs) (ss : List (List Nat)) (ls : List Nat), vs = [.ref l, .ref p] ∧ H l = some (.lst (nv ls)) ∧ H p = some (.lst (as.map V.ref)) ∧ BSetsAt CB H as g ss ∧
  (∀ s, s ∈ ss → ls.length = (g s).marks.length) ∧ (∀ n, n ∈ ls → n ≤ 1000) ∧ ∀ (H' : Hp) (x : Addr), ChAt CC CB g H' x (ss.foldl (gStep g ls) ⟨none, 0, []⟩) → Same H H' → Q (.ref x) H'
theorem scChf : FnScope ["loads", "sets", "cheapest", "built", "cost"] ["loads", "sets"] (defScope sChf) := ⟨rfl, rfl, rfl, by decide +kernel, rfl, by decide +kernel, by decide +kernel⟩
theorem ok_chf {f CC CB fI fO fW : Addr} {fd fdI fdO fdW : FuncData} (F : Fun K "cheapest_for" "cheapest_for" sChf f fd) (TC : TxtC K mg CC) (TB : TxtB K mg CB)
    (M : Mk K CC fI) (GI : FnOk P w K mg base CX0 1 fI fdI ["self"] (spChI CC CB)) (bI : Binds K fdI ["self"] [])
    (GO : FnOk P w K mg base CX0 1 fO fdO ["self", "cost", "chosen"] (spOff CC CB)) (bO : Binds K fdO ["self", "cost", "chosen"] []) (mO : Meth K CC "offer" fO)
    (GW : FnOk P w K mg base CX0 1 fW fdW ["self", "loads"] (spCw CB)) (bW : Binds K fdW ["self", "loads"] []) (mW : Meth K CB "cost_with" fW) :
    FnOk P w K mg base CX0 3 f fd ["loads", "sets"] (spChf CC CB) := by
  refine F.ok scChf (fun vs H Q E h => ?_) (fun cdv A outer s H vs Q E hr h => ?_)
  · obtain ⟨l, p, as, g, ss, ls, rfl, _⟩ := h
    rfl
  · obtain ⟨l, p, as, g, ss, ls, rfl, hl, hp, hB, hm, hls, k⟩ := h
    have hr1 : Room 1 _ := hr.mono (by decide)
    refine ⟨_, pss_cons (ps_set (i := 2) scChf.nd rfl (Or.inl rfl) (pe_make0 M GI hr rfl TC.mgC bI .nil pass0))
      (pss_cons (ps_for PassesOwn.never rfl (pi_list (pv 1)) (pg_name (i := 3) scChf.nd rfl (Or.inl rfl))
        (pss_cons (ps_set (i := 4) scChf.nd rfl (Or.inl rfl) (pe_meth (pv 3) TB.cl mW GW hr1 bW .nil pass0 (pa_cons (pv 0) pa_nil)))
        (pss_one (ps_if (pt_cmp (pc_notN (pv 4))) (pss_one (ps_expr (pe_meth (pv 2) TC.cl mO GO hr1 bO .nil pass0 (pa_cons (pv 4) (pa_cons (pv 3) pa_nil))))) pss_nil))))
      (pss_one (ps_ret (pv 2)))), ?_⟩
    intro x dx hx hdx hne
    refine ⟨x, dx, rfl, upd_same, fun H1 c1 b1 => ⟨rfl, ?_⟩⟩
    have s1 : Same H H1 := Same.made hx hdx b1
    refine ⟨_, rfl, p, rfl, ⟨_, SqL.of (s1 _ _ hp)⟩, for_list (K := K) (a := p) (xs := as.map V.ref) (fun i σ H' => ∃ (v3 v4 : Option V), σ = [some (.ref l), some (.ref p), some (.ref x), v3, v4] ∧ ChAt CC CB g H' x ((ss.take i).foldl (gStep g ls) ⟨none, 0, []⟩) ∧ Same H H')
      ⟨none, none, rfl, c1 g, s1⟩ (fun i σ H' _ ⟨_, _, _, _, q⟩ => SqL.of (q _ _ hp)) ?_ ?_⟩
    · rintro i y σ H' hi ⟨v3, v4, rfl, hc, s3⟩
      obtain ⟨z, hz, rfl⟩ := map_at hi
      obtain ⟨t, ht, Bz⟩ := hB.get hz
      have htm := List.mem_of_getElem? ht
      have Bz' := Bz.same s3
      obtain ⟨dz, fz, nA, mA, z1, z2, z3, z4, z5, z6, z7⟩ := Bz'.ex
      refine ⟨_, rfl, z, dz, fz, rfl, z1, z7, _, rfl, z, l, g t, ls, rfl, Bz', s3 _ _ hl, hm t htm, hls, fun H4 s4 => ?_⟩
      have hc4 := hc.same s4
      have e1 : (ss.take (i + 1)).foldl (gStep g ls) ⟨none, 0, []⟩ = gStep g ls ((ss.take i).foldl (gStep g ls) ⟨none, 0, []⟩) t := by
        rw [take_snoc ht, List.foldl_append]
        rfl
      cases ec : costs (ls.zip (g t).marks) (g t).build with
      | none =>
        refine ⟨_, rfl, _, rfl, iteF ⟨_, _, rfl, ?_, s3.trans s4⟩⟩
        rw [e1]
        unfold gStep
        rw [ec]
        exact hc4
      | some c =>
        obtain ⟨dx4, fs4, v4', hx4, l4, lc4, lm4, ll4, lo4, ln4, hv4⟩ := hc4.ex
        refine ⟨_, rfl, _, rfl, iteT ⟨_, rfl, x, dx4, fs4, rfl, hx4, lo4, _, rfl, _, rfl, x, z, g, _, c, t, rfl, hc4, Bz'.same s4, fun H5 c5 b5 => ?_⟩⟩
        refine ⟨_, _, rfl, ?_, fun a o e => b5 a o (s4 _ _ (s3 _ _ e)) (ne_of_none e hx)⟩
        rw [e1]
        unfold gStep
        rw [ec]
        exact c5
    · rintro σ H' ⟨v3, v4, rfl, hc, s3⟩
      rw [List.length_map, hB.1, List.take_length] at hc
      exact ⟨_, rfl, k H' x hc s3⟩
end
end Fr
set_option Elab.async false
set_option linter.all false
set_option maxRecDepth 100000
set_option maxHeartbeats 2000000
namespace Fr
open PySem PySem.Spec PyProof.Rows L2
open PySem.W (Codec)
abbrev sRoI : Stmt := inClass (top 13) 0
abbrev sFoI : Stmt := inClass (top 16) 0
abbrev sBeg : Stmt := inClass (top 16) 1
abbrev sRoa : Stmt := inClass (top 16) 2
abbrev sLoa : Stmt := inClass (top 16) 3
abbrev sHas : Stmt := inClass (top 16) 8
abbrev sLan : Stmt := inClass (top 16) 9
abbrev sLfr : Stmt := inClass (top 16) 10
abbrev sEvs : Stmt := inClass (top 16) 11
/-- a Forest stands at x, its loads at lA, its roads at rA -/
structure FA (CR CF : Addr) (H : Hp) (x lA rA : Addr) (f : Sw98.Forest) : Prop where
  ex : ∃ dx fs as, H x = some (.ins CF dx fs) ∧ fs.length ≤ 2 ∧ fs.lookup ("loads" : Str) = some (.ref lA) ∧ fs.lookup ("roads" : Str) = some (.ref rA) ∧ (∀ g : Str, g ≠ "loads" → g ≠ "roads" → fs.lookup g = none) ∧
    H lA = some (.lst (nv f.loads)) ∧ H rA = some (.lst (as.map V.ref)) ∧ RoadsAt CR H as f.roads
  ne : lA ≠ rA
  ok : Ok4 f
/-- what a call of a method may have changed -/
structure Moves (H H' : Hp) (x lA rA lA' rA' : Addr) : Prop where
  l : lA' = lA ∨ H lA' = none
  r : rA' = rA ∨ H rA' = none
  rest : ∀ b o, H b = some o → b ≠ x → b ≠ lA → b ≠ rA → H' b = some o
theorem FA.same {CR CF : Addr} {H H' : Hp} {x lA rA : Addr} {f : Sw98.Forest} (h : FA CR CF H x lA rA f) (q : Same H H') : FA CR CF H' x lA rA f := by
  obtain ⟨dx, fs, as, a, b, c, d, e, g, i, j⟩ := h.ex
  exact ⟨⟨dx, fs, as, q _ _ a, b, c, d, e, q _ _ g, q _ _ i, j.same q⟩, h.ne, h.ok⟩
theorem Moves.same {H H' : Hp} {x lA rA : Addr} (q : Same H H') : Moves H H' x lA rA lA rA := ⟨.inl rfl, .inl rfl, fun b o e _ _ _ => q b o e⟩
structure TxtF (K : PySem.W.Frag) (mg : Str → Option Value) (CR CF : Addr) : Prop where
  cl : Cls K CF
  nLo : NoAttr K CF "loads"
  nRo : NoAttr K CF "roads"
  mgF : mg "Forest" = some (.ref CF)
  mgR : mg "Road" = some (.ref CR)
  places : ∃ t, mg "MOST_PLACES" = some (.int 7 t)
  roads : ∃ t, mg "MOST_ROADS" = some (.int 9 t)
  landings : ∃ t, mg "MOST_LANDINGS" = some (.int 4 t)
  loads : ∃ t, mg "MOST_LOADS" = some (.int 1000 t)
  cost : ∃ t, mg "MOST_COST" = some (.int 100000 t)
  out : ∃ t, mg "OUT_OF_BOUNDS" = some (.int (-1) t)
  noSuch : ∃ t, mg "NO_SUCH" = some (.int (-2) t)
  many : ∃ t, mg "TOO_MANY" = some (.int (-5) t)
  joined : ∃ t, mg "NOT_JOINED" = some (.int (-6) t)
  notCost : ∃ t, mg "NOT_THE_COST" = some (.int (-3) t)
section
variable {P : Program} {w : World} {K : PySem.W.Frag} {mg : Str → Option Value} {base : Heap}
/-! ### Road.__init__ -/
def spRoI (CR : Addr) : Sp := fun vs H Q _ => ∃ (p dx : Addr) (r : Sw98.Road), vs = [.ref p, .int r.a, .int r.b, .int r.build, .int r.carry] ∧ H p = some (.ins CR dx []) ∧ ∀ H' : Hp, RoadAt CR H' p r → But p H H' → Q .non H'
theorem scRoI : FnScope ["self", "a", "b", "build", "carry"] ["self", "a", "b", "build", "carry"] (defScope sRoI) := ⟨rfl, rfl, rfl, by decide +kernel, rfl, by decide +kernel, by decide +kernel⟩
theorem ok_roI {f CR : Addr} {fd : FuncData} (F : Fun K "__init__" "Road.__init__" sRoI f fd) (T : Txt K mg CR) : FnOk P w K mg base CX0 1 f fd ["self", "a", "b", "build", "carry"] (spRoI CR) := by
  refine F.ok scRoI (fun vs H Q E h => ?_) (fun cdv A outer s H vs Q E hr h => ?_)
  · obtain ⟨p, dx, r, rfl, _⟩ := h
    rfl
  · obtain ⟨p, dx, r, rfl, hp, k⟩ := h
    refine ⟨_, pss_cons (ps_fld (pv 0) (pv 1) rfl) (pss_cons (ps_fld (pv 0) (pv 2) rfl) (pss_cons (ps_fld (pv 0) (pv 3) rfl) (pss_one (ps_fld (pv 0) (pv 4) rfl)))), ?_⟩
    refine ⟨_, rfl, _, rfl, p, CR, dx, [], rfl, hp, T.cR, T.nA, (by show 0 < 1000; decide), ?_⟩
    refine ⟨_, rfl, _, rfl, p, CR, dx, _, rfl, upd_same, T.cR, T.nB, (by show 1 < 1000; decide), ?_⟩
    refine ⟨_, rfl, _, rfl, p, CR, dx, _, rfl, upd_same, T.cR, T.nBu, (by show 2 < 1000; decide), ?_⟩
    refine ⟨_, rfl, _, rfl, p, CR, dx, _, rfl, upd_same, T.cR, T.nCa, (by show 3 < 1000; decide), ?_⟩
    refine k _ ⟨dx, _, upd_same, ?_, ?_, ?_, ?_⟩ ?_
    · rw [lookup_put, if_neg (by decide +kernel), lookup_put, if_neg (by decide +kernel), lookup_put, if_neg (by decide +kernel), lookup_put, if_pos rfl]
    · rw [lookup_put, if_neg (by decide +kernel), lookup_put, if_neg (by decide +kernel), lookup_put, if_pos rfl]
    · rw [lookup_put, if_neg (by decide +kernel), lookup_put, if_pos rfl]
    · rw [lookup_put, if_pos rfl]
    · intro b o e hb
      rw [upd_ne hb, upd_ne hb, upd_ne hb, upd_ne hb]
      exact e
/-! ### Forest.__init__ -/
def spFoI (CR CF : Addr) : Sp := fun vs H Q _ => ∃ (p dx : Addr), vs = [.ref p] ∧ H p = some (.ins CF dx []) ∧ ∀ (H' : Hp) (lA rA : Addr), FA CR CF H' p lA rA Sw98.init → H lA = none → H rA = none → But p H H' → Q .non H'
theorem scFoI : FnScope ["self"] ["self"] (defScope sFoI) := ⟨rfl, rfl, rfl, by decide +kernel, rfl, by decide +kernel, by decide +kernel⟩
theorem ok_foI {f CR CF : Addr} {fd : FuncData} (F : Fun K "__init__" "Forest.__init__" sFoI f fd) (T : TxtF K mg CR CF) : FnOk P w K mg base CX0 1 f fd ["self"] (spFoI CR CF) := by
  refine F.ok scFoI (fun vs H Q E h => ?_) (fun cdv A outer s H vs Q E hr h => ?_)
  · obtain ⟨p, dx, rfl, _⟩ := h
    rfl
  · obtain ⟨p, dx, rfl, hp, k⟩ := h
    refine ⟨_, pss_cons (ps_fld (pv 0) (pe_lst (pa_cons pe_int pa_nil)) rfl) (pss_one (ps_fld (pv 0) (pe_lst pa_nil) rfl)), ?_⟩
    refine ⟨(by show 1 ≤ sizeLine; decide), fun l hl => ?_⟩
    have hpl : p ≠ l := ne_of_none hp hl
    refine ⟨_, rfl, p, CF, dx, [], rfl, (by rw [upd_ne hpl]; exact hp), T.cl, T.nLo, (by show 0 < 1000; decide), ?_⟩
    refine ⟨Nat.zero_le _, fun r hr => ?_⟩
    have hpr : p ≠ r := fun e => by subst e; rw [upd_same] at hr; cases hr
    have hlr : l ≠ r := fun e => by subst e; rw [upd_ne (Ne.symm hpl), upd_same] at hr; cases hr
    have hrH : H r = none := by rw [upd_ne (Ne.symm hpr), upd_ne (Ne.symm hlr)] at hr; exact hr
    refine ⟨_, rfl, p, CF, dx, _, rfl, (by rw [upd_ne hpr, upd_same]), T.cl, T.nRo, (by show 1 < 1000; decide), ?_⟩
    refine k _ l r ⟨⟨dx, _, [], upd_same, ?_, ?_, ?_, ?_, ?_, ?_, ?_⟩, hlr, ok4_init⟩ hl hrH ?_
    · show 2 ≤ 2
      exact Nat.le_refl _
    · rw [lookup_put, if_neg (by decide +kernel), lookup_put, if_pos rfl]
    · rw [lookup_put, if_pos rfl]
    · intro g h1 h2
      rw [lookup_put, if_neg h2, lookup_put, if_neg h1]
      rfl
    · rw [upd_ne (Ne.symm hpl), upd_ne hlr, upd_ne (Ne.symm hpl), upd_same]
      rfl
    · rw [upd_ne (Ne.symm hpr), upd_same]
      rfl
    · exact ⟨rfl, fun i x s a b => by simp at a⟩
    · intro b o e hb
      rw [upd_ne hb, upd_ne (ne_of_none e hrH), upd_ne hb, upd_ne (ne_of_none e hl)]
      exact e
/-! ### has_place -/
def spHas (CR CF : Addr) : Sp := fun vs H Q _ => ∃ (x lA rA : Addr) (f : Sw98.Forest) (i : Nat), vs = [.ref x, .int i] ∧ FA CR CF H x lA rA f ∧ Q (.bl (decide (i < f.places))) H
theorem scHas : FnScope ["self", "i"] ["self", "i"] (defScope sHas) := ⟨rfl, rfl, rfl, by decide +kernel, rfl, by decide +kernel, by decide +kernel⟩
theorem ok_has {f CR CF : Addr} {fd : FuncData} (F : Fun K "has_place" "Forest.has_place" sHas f fd) (T : TxtF K mg CR CF) (T0 : Txt K mg CR) : FnOk P w K mg base CX0 1 f fd ["self", "i"] (spHas CR CF) := by
  refine F.ok scHas (fun vs H Q E h => ?_) (fun cdv A outer s H vs Q E hr h => ?_)
  · obtain ⟨x, lA, rA, f, i, rfl, _⟩ := h
    rfl
  · obtain ⟨x, lA, rA, f, i, rfl, hF, k⟩ := h
    obtain ⟨dx, fs, as, hx, hlen, l1, l2, l3, h1, h2, h3⟩ := hF.ex
    refine ⟨_, pss_one (ps_ret (pe_cmpR op_lt (pv 1) (pe_callB call_len_seq (by rfl) T0.len PySem.boot_len (pa_cons (pe_fld (pv 0) rfl) pa_nil)) (nobehind _ (by decide) (by decide)))), ?_⟩
    refine ⟨_, rfl, _, rfl, x, CF, dx, fs, _, rfl, hx, T.cl, T.nLo, l1, lA, _, rfl, .inl (SqL.of h1), _, _, rfl, rfl, ?_⟩
    rw [nv_len, hF.ok.len]
    have : decide ((i : Int) < (f.places : Int)) = decide (i < f.places) := by
      by_cases q : i < f.places
      · rw [decide_eq_true q, decide_eq_true (by omega)]
      · rw [decide_eq_false q, decide_eq_false (by omega)]
    show Q (V.bl (decide ((i : Int) < (f.places : Int)))) H
    rw [this]
    exact k
/-! ### landings -/
theorem SqT2 {K : PySem.W.Frag} {H : Hp} {T : Addr} {x y : V} : SqT K (upd H T (.tup [x, y])) T [x, y] := SqT.of upd_same
def spLan (CR CF : Addr) : Sp := fun vs H Q _ => ∃ (x lA rA : Addr) (f : Sw98.Forest), vs = [.ref x] ∧ FA CR CF H x lA rA f ∧ ∀ (H' : Hp) (l : Addr), H' l = some (.lst (nv f.landings)) → Same H H' → Q (.ref l) H'
theorem scLan : FnScope ["self", "i", "n"] ["self"] (defScope sLan) := ⟨rfl, rfl, rfl, by decide +kernel, rfl, by decide +kernel, by decide +kernel⟩
/-- the first of the landings -/
def lansTo (ls : List Nat) (i : Nat) : List Nat := (List.range i).filter fun j => decide (0 < ls.getD j 0)
theorem lansTo_len (ls : List Nat) (i : Nat) : (lansTo ls i).length ≤ i := by
  unfold lansTo
  exact Nat.le_trans (List.length_filter_le _ _) (by rw [List.length_range]; exact Nat.le_refl _)
theorem getD_at {l : List Nat} {i n : Nat} (h : l[i]? = some n) : l.getD i 0 = n := by
  rw [List.getD_eq_getElem?_getD, h]
  rfl
theorem ok_lan {f CR CF : Addr} {fd : FuncData} (F : Fun K "landings" "Forest.landings" sLan f fd) (T : TxtF K mg CR CF) (T0 : Txt K mg CR) : FnOk P w K mg base CX0 1 f fd ["self"] (spLan CR CF) := by
  refine F.ok scLan (fun vs H Q E h => ?_) (fun cdv A outer s H vs Q E hr h => ?_)
  · obtain ⟨x, lA, rA, f, rfl, _⟩ := h
    rfl
  · obtain ⟨x, lA, rA, f, rfl, hF, k⟩ := h
    obtain ⟨dx, fs, as, hx, hlen, l1, l2, l3, h1, h2, h3⟩ := hF.ex
    have hp7 : f.loads.length ≤ 7 := by rw [hF.ok.len]; exact hF.ok.small
    refine ⟨_, pss_one (ps_ret (pe_lc (own := [("i", 1), ("n", 2)]) (g := gTup K 2 (gCons (gName 1) (gCons (gName 2) gNil))) (te := tVar 1) rfl scLan.nd (pi_enum rfl T0.enum (pa_cons (pe_fld (pv 0) rfl) pa_nil)) (blkOk_by (by show blkC ["self", "i", "n"] (defScope sLan) _ _ = true; decide +kernel)) (fun s H C cl fp => pg_tup rfl (pgs_cons (pg_name (i := 1) scLan.nd rfl (Or.inl rfl)) (pgs_cons (pg_name (i := 2) scLan.nd rfl (Or.inl rfl)) pgs_nil))) (fun s H C cl fp => pts_one (pt_cmpR op_gt (pv 2) pe_int (nobehind _ (by decide) (by decide)))) (fun s H C cl fp => pv 1))), ?_⟩
    refine ⟨_, rfl, x, CF, dx, fs, _, rfl, hx, T.cl, T.nLo, l1, lA, _, rfl, SqL.of h1, fun D hD => lc_enum (K := K) (a := lA) (xs := nv f.loads) (fun i H' => H' D = some (.lst (nv (lansTo f.loads i))) ∧ Same H H')
      ⟨upd_same, same_new hD⟩ (fun i H' q => SqL.of (q.2 _ _ h1)) ?_ ?_⟩
    · rintro i y t H' hi ht ⟨g1, g2⟩
      obtain ⟨n, hn, rfl⟩ := map_at hi
      have hil := (List.getElem?_eq_some_iff.mp hn).1
      have s2 : Same H' (upd H' t (.tup [.int (i : Nat), .int (n : Nat)])) := same_new ht
      have eg := getD_at hn
      refine ⟨t, _, rfl, SqT2, rfl, _, _, rfl, _, _, rfl, rfl, rfl, _, rfl, _, _, rfl, rfl, _, rfl, ite2 (fun e => ?_) (fun e => ?_)⟩
      · have e := posN e
        refine ⟨_, rfl, _, s2 _ _ g1, ?_, ?_, Same_upd (g2.trans s2) hD⟩
        · rw [nv_len]
          exact Nat.lt_of_le_of_lt (lansTo_len _ _) (Nat.lt_of_lt_of_le hil (Nat.le_trans hp7 (by decide)))
        · rw [upd_same]
          unfold lansTo
          rw [List.range_succ, List.filter_append, List.filter_cons, if_pos (by rw [eg]; exact decide_eq_true e), nv_app]
          rfl
      · have e := nposN e
        refine ⟨?_, g2.trans s2⟩
        unfold lansTo
        rw [List.range_succ, List.filter_append, List.filter_cons, if_neg (by rw [eg]; exact fun q => e (of_decide_eq_true q)), List.filter_nil, List.append_nil]
        exact s2 _ _ g1
    · rintro H' ⟨g1, g2⟩
      rw [nv_len, hF.ok.len] at g1
      exact k H' D g1 g2
/-! ### loads_from -/
theorem inV_nv (i : Nat) : ∀ g : List Nat, inV (.int (i : Nat)) (nv g) = g.contains i
  | [] => rfl
  | a :: g => by
    have ih := inV_nv i g
    unfold inV nv at ih ⊢
    rw [List.map_cons, List.any_cons, List.contains_cons, ih]
    congr 1
    show ((a : Int) == (i : Int)) = (i == a)
    by_cases h : i = a
    · subst h
      simp
    · have h1 : ¬ (a : Int) = (i : Int) := by omega
      rw [beq_eq_false_iff_ne.mpr h, beq_eq_false_iff_ne.mpr h1]
theorem flat_nv (g : List Nat) : (nv g).all flatV = true := by
  rw [List.all_eq_true]
  intro v hv
  obtain ⟨n, _, rfl⟩ := List.mem_map.mp hv
  rfl
def spLfr (CR CF : Addr) : Sp := fun vs H Q _ => ∃ (x lA rA gA : Addr) (f : Sw98.Forest) (g : List Nat), vs = [.ref x, .ref gA] ∧ FA CR CF H x lA rA f ∧ H gA = some (.lst (nv g)) ∧ ∀ (H' : Hp) (l : Addr), H' l = some (.lst (nv (onlyL f.loads g))) → Same H H' → Q (.ref l) H'
theorem scLfr : FnScope ["self", "group", "i", "n"] ["self", "group"] (defScope sLfr) := ⟨rfl, rfl, rfl, by decide +kernel, rfl, by decide +kernel, by decide +kernel⟩
theorem ok_lfr {f CR CF : Addr} {fd : FuncData} (F : Fun K "loads_from" "Forest.loads_from" sLfr f fd) (T : TxtF K mg CR CF) (T0 : Txt K mg CR) : FnOk P w K mg base CX0 1 f fd ["self", "group"] (spLfr CR CF) := by
  refine F.ok scLfr (fun vs H Q E h => ?_) (fun cdv A outer s H vs Q E hr h => ?_)
  · obtain ⟨x, lA, rA, gA, f, g, rfl, _⟩ := h
    rfl
  · obtain ⟨x, lA, rA, gA, f, g, rfl, hF, hg, k⟩ := h
    obtain ⟨dx, fs, as, hx, hlen, l1, l2, l3, h1, h2, h3⟩ := hF.ex
    have hp7 : f.loads.length ≤ 7 := by rw [hF.ok.len]; exact hF.ok.small
    refine ⟨_, pss_one (ps_ret (pe_lc (own := [("i", 2), ("n", 3)]) (g := gTup K 2 (gCons (gName 2) (gCons (gName 3) gNil))) (te := tIf (tTest (tOp (rIn K false) (tVar 2) (tVar 1))) (tVar 3) (tC (.int 0))) rfl scLfr.nd (pi_enum rfl T0.enum (pa_cons (pe_fld (pv 0) rfl) pa_nil)) (blkOk_by (by show blkC ["self", "group", "i", "n"] (defScope sLfr) _ _ = true; decide +kernel)) (fun s H C cl fp => pg_tup rfl (pgs_cons (pg_name (i := 2) scLfr.nd rfl (Or.inl rfl)) (pgs_cons (pg_name (i := 3) scLfr.nd rfl (Or.inl rfl)) pgs_nil))) (fun s H C cl fp => pts_nil) (fun s H C cl fp => pe_ifExp (pt_cmpR op_in_seq (pv 2) (pv 1) rfl) (pv 3) pe_int))), ?_⟩
    refine ⟨_, rfl, x, CF, dx, fs, _, rfl, hx, T.cl, T.nLo, l1, lA, _, rfl, SqL.of h1, fun D hD => lc_enum (K := K) (a := lA) (xs := nv f.loads) (fun i H' => H' D = some (.lst (nv ((onlyL f.loads g).take i))) ∧ Same H H')
      ⟨upd_same, same_new hD⟩ (fun i H' q => SqL.of (q.2 _ _ h1)) ?_ ?_⟩
    · rintro i y t H' hi ht ⟨g1, g2⟩
      obtain ⟨n, hn, rfl⟩ := map_at hi
      have hil := (List.getElem?_eq_some_iff.mp hn).1
      have s2 : Same H' (upd H' t (.tup [.int (i : Nat), .int (n : Nat)])) := same_new ht
      have eg := getD_at hn
      have eo := onlyL_at (g := g) hil
      rw [eg] at eo
      have hsz : (nv ((onlyL f.loads g).take i)).length < sizeLine := by
        rw [nv_len, List.length_take]
        exact Nat.lt_of_le_of_lt (Nat.min_le_left _ _) (Nat.lt_of_lt_of_le hil (Nat.le_trans hp7 (by decide)))
      refine ⟨t, _, rfl, SqT2, rfl, _, _, rfl, _, _, rfl, rfl, rfl, _, rfl, _, rfl, gA, _, rfl, .inl (SqL.of (s2 _ _ (g2 _ _ hg))), rfl, flat_nv g, _, rfl, ?_⟩
      show if inV (V.int (i : Nat)) (nv g) = true then _ else _
      rw [inV_nv]
      refine ite2 (fun e => ?_) (fun e => ?_)
      · rw [if_pos e] at eo
        refine ⟨_, rfl, _, s2 _ _ g1, hsz, ?_, Same_upd (g2.trans s2) hD⟩
        rw [upd_same, take_snoc eo, nv_app]
        rfl
      · rw [if_neg e] at eo
        refine ⟨_, s2 _ _ g1, hsz, ?_, Same_upd (g2.trans s2) hD⟩
        rw [upd_same, take_snoc eo, nv_app]
        rfl
    · rintro H' ⟨g1, g2⟩
      rw [nv_len, ← onlyL_len f.loads g, List.take_length] at g1
      exact k H' D g1 g2
/-! ### every_set -/
def rLen (K : PySem.W.Frag) : List V → Hp → VK → Prop := fun xs H Q => ∃ p ys, xs = [.ref p] ∧ (SqL K H p ys ∨ SqT K H p ys) ∧ Q (.int ys.length) H
def spEvs (CR CF CB : Addr) : Sp := fun vs H Q _ => ∃ (x lA rA : Addr) (f : Sw98.Forest), vs = [.ref x] ∧ FA CR CF H x lA rA f ∧ ∀ (H' : Hp) (p : Addr) (as : List Addr), H' p = some (.lst (as.map V.ref)) → BSetsAt CB H' as (bsOf f.roads f.loads.length) (sets f.roads.length) → Same H H' → Q (.ref p) H'
theorem scEvs : FnScope ["self", "numbers"] ["self"] (defScope sEvs) := ⟨rfl, rfl, rfl, by decide +kernel, rfl, by decide +kernel, by decide +kernel⟩
def BSetsNe (C D : Addr) (H : Hp) (as : List Addr) (g : List Nat → Bs) (ss : List (List Nat)) : Prop := as.length = ss.length ∧ ∀ (i : Nat) (x : Addr) (s : List Nat), as[i]? = some x → ss[i]? = some s → BsNe C D H x (g s)
theorem BSetsNe.at_ {C D : Addr} {H : Hp} {as : List Addr} {g : List Nat → Bs} {ss : List (List Nat)} (h : BSetsNe C D H as g ss) : BSetsAt C H as g ss := ⟨h.1, fun i x s a b => (h.2 i x s a b).at_⟩
theorem BSetsNe.same {C D : Addr} {H H' : Hp} {as : List Addr} {g : List Nat → Bs} {ss : List (List Nat)} (h : BSetsNe C D H as g ss) (q : Same H H') : BSetsNe C D H' as g ss := ⟨h.1, fun i x s a b => (h.2 i x s a b).same q⟩
theorem BSetsNe.upd {C D : Addr} {H : Hp} {as : List Addr} {g : List Nat → Bs} {ss : List (List Nat)} {xs ys : List V} (h : BSetsNe C D H as g ss) (hD : H D = some (.lst xs)) : BSetsNe C D (L2.upd H D (.lst ys)) as g ss := ⟨h.1, fun i x s a b => (h.2 i x s a b).upd hD⟩
theorem BSetsNe.snoc {C D : Addr} {H : Hp} {as : List Addr} {g : List Nat → Bs} {ss : List (List Nat)} (h : BSetsNe C D H as g ss) {a : Addr} {s : List Nat} (q : BsNe C D H a (g s)) : BSetsNe C D H (as ++ [a]) g (ss ++ [s]) := by
  refine ⟨by rw [List.length_append, List.length_append, h.1]; rfl, fun i x t u v => ?_⟩
  by_cases hi : i < as.length
  · rw [List.getElem?_append_left hi] at u
    rw [List.getElem?_append_left (by rw [← h.1]; exact hi)] at v
    exact h.2 i x t u v
  · rw [List.getElem?_append_right (by omega)] at u
    rw [List.getElem?_append_right (by rw [← h.1]; omega), ← h.1] at v
    cases e : i - as.length with
    | zero =>
      rw [e] at u v
      have u : a = x := Option.some.inj u
      have v : s = t := Option.some.inj v
      subst u v
      exact q
    | succ j => rw [e] at u; simp at u
theorem ok_evs {f CR CF CB fS fI : Addr} {fd fdS fdI : FuncData} (F : Fun K "every_set" "Forest.every_set" sEvs f fd) (T : TxtF K mg CR CF) (T0 : Txt K mg CR) (TB : TxtB K mg CB)
    (GS : FnOk P w K mg base CX0 1 fS fdS ["how_many"] spSts) (kS : PySem.W.keepIn K (.ref fS) = true) (bS : Binds K fdS ["how_many"] []) (mS : mg "sets_lowest_first" = some (.ref fS))
    (M : Mk K CB fI) (GI : FnOk P w K mg base CX0 3 fI fdI ["self", "numbers", "roads", "places"] (spBuI CR CB)) (bI : Binds K fdI ["self", "numbers", "roads", "places"] []) :
    FnOk P w K mg base CX0 5 f fd ["self"] (spEvs CR CF CB) := by
  refine F.ok scEvs (fun vs H Q E h => ?_) (fun cdv A outer s H vs Q E hr h => ?_)
  · obtain ⟨x, lA, rA, f, rfl, _⟩ := h
    rfl
  · obtain ⟨x, lA, rA, f, rfl, hF, k⟩ := h
    obtain ⟨dx, fs, as, hx, hlen, l1, l2, l3, h1, h2, h3⟩ := hF.ex
    have hr1 : Room 1 _ := hr.mono (by decide)
    have ef : Ends f.roads f.loads.length := by rw [hF.ok.len]; exact hF.ok.ends
    have hp : 0 < f.loads.length := by rw [hF.ok.len]; exact hF.ok.pos
    have hp7 : f.loads.length ≤ 7 := by rw [hF.ok.len]; exact hF.ok.small
    have hf9 := hF.ok.few
    refine ⟨_, pss_one (ps_ret (pe_lc (own := [("numbers", 1)]) (te := tMake CB (spBuI CR CB) [] E0 (tCons (tVar 1) (tCons (tFld K (tVar 0) "roads") (tCons (tCB (rLen K) (tCons (tFld K (tVar 0) "loads") tNil)) tNil)))) rfl scEvs.nd
      (pi_list (pe_call GS hr1 rfl mS kS bS .nil pass0 (pa_cons (pe_callB call_len_seq (by rfl) T0.len PySem.boot_len (pa_cons (pe_fld (pv 0) rfl) pa_nil)) pa_nil)))
      (blkOk_by (by show blkC ["self", "numbers"] (defScope sEvs) _ _ = true; decide +kernel)) (fun s H C cl fp => pg_name (i := 1) scEvs.nd rfl (Or.inl rfl)) (fun s H C cl fp => pts_nil)
      (fun s H C cl fp => pe_make M GI hr (by rfl) TB.mgB bI .nil pass0 (pa_cons (pv 1) (pa_cons (pe_fld (pv 0) rfl) (pa_cons (pe_callB call_len_seq (by rfl) T0.len PySem.boot_len (pa_cons (pe_fld (pv 0) rfl) pa_nil)) pa_nil)))))), ?_⟩
    refine ⟨_, rfl, x, CF, dx, fs, _, rfl, hx, T.cl, T.nRo, l2, rA, _, rfl, .inl (SqL.of h2), f.roads.length, (by rw [List.length_map, h3.1]; rfl), hf9, fun H1 p ps hp1 hps s1 => ?_⟩
    refine ⟨p, rfl, ⟨_, SqL.of hp1⟩, fun D hD => lc_list (K := K) (a := p) (xs := ps.map V.ref) (fun j H3 => ∃ bs : List Addr, H3 D = some (.lst (bs.map V.ref)) ∧ BSetsNe CB D H3 bs (bsOf f.roads f.loads.length) ((sets f.roads.length).take j) ∧ Same H1 H3)
      ⟨[], upd_same, ⟨rfl, fun j x s a b => by simp at a⟩, same_new hD⟩ (fun j H3 _ ⟨_, _, _, q⟩ => SqL.of (q _ _ hp1)) ?_ ?_⟩
    · rintro j y H3 hj ⟨bs, g1, g2, g3⟩
      obtain ⟨z, hz, rfl⟩ := map_at hj
      obtain ⟨t, ht, hzt⟩ := hps.get hz
      have htm := List.mem_of_getElem? ht
      have htl := set_small htm
      have zD : z ≠ D := ne_of_none hzt hD
      have s13 : Same H H3 := s1.trans g3
      refine ⟨rfl, _, rfl, _, rfl, x, CF, dx, fs, _, rfl, s13 _ _ hx, T.cl, T.nRo, l2, _, rfl, x, CF, dx, fs, _, rfl, s13 _ _ hx, T.cl, T.nLo, l1, lA, _, rfl, .inl (SqL.of (s13 _ _ h1)), ?_⟩
      intro q dq hq hdq hne
      have s4 : Same H3 (upd (upd H3 dq (.own q)) q (.ins CB dq [])) := fun c o e => by
        rw [upd_ne (ne_of_none e hq), upd_ne (ne_of_none e hdq)]
        exact e
      refine ⟨q, dq, z, rA, as, f.roads, t, f.loads.length, (by rw [nv_len]; rfl), upd_same, s4 _ _ (g3 _ _ hzt), s4 _ _ (s13 _ _ h2), (h3.same s13).same s4, (by omega), (fun i hi => sets_lt htm hi), ef, hp, hp7, fun H4 B4 b4 => ⟨rfl, ?_⟩⟩
      have s5 : Same H3 H4 := Same.made hq hdq b4
      have Bq := B4 D _ (s4 _ _ g1) zD
      refine ⟨_, s5 _ _ g1, ?_, bs ++ [q], ?_, ?_, Same_upd (g3.trans s5) hD⟩
      · rw [List.length_map, g2.1, List.length_take]
        exact Nat.lt_of_le_of_lt (Nat.min_le_right _ _) (Nat.lt_of_le_of_lt (sets_small hf9) (by decide))
      · rw [upd_same, List.map_append]
        rfl
      · rw [take_snoc ht]
        exact ((g2.same s5).upd (s5 _ _ g1)).snoc (Bq.upd (s5 _ _ g1))
    · rintro H3 ⟨bs, g1, g2, g3⟩
      rw [List.length_map, hps.1, List.take_length] at g2
      exact k H3 D bs g1 g2.at_ (s1.trans g3)
/-! ### begins -/
theorem FA.fresh {CR CF : Addr} {H : Hp} {x lA rA : Addr} {f : Sw98.Forest} (h : FA CR CF H x lA rA f) : x ≠ lA ∧ x ≠ rA := by
  obtain ⟨dx, fs, as, hx, hlen, l1, l2, l3, h1, h2, h3⟩ := h.ex
  exact ⟨ne_of hx h1 (by intro z; cases z), ne_of hx h2 (by intro z; cases z)⟩
def spBeg (CR CF : Addr) : Sp := fun vs H Q _ => ∃ (x lA rA : Addr) (f : Sw98.Forest) (n : Nat), vs = [.ref x, .int n] ∧ FA CR CF H x lA rA f ∧
  ∀ (H' : Hp) (lA' rA' : Addr), FA CR CF H' x lA' rA' (Sw98.step f (.begins n)).1 → Moves H H' x lA rA lA' rA' → Q (.int (Sw98.step f (.begins n)).2.v) H'
theorem scBeg : FnScope ["self", "places"] ["self", "places"] (defScope sBeg) := ⟨rfl, rfl, rfl, by decide +kernel, rfl, by decide +kernel, by decide +kernel⟩
theorem ok_beg {f CR CF : Addr} {fd : FuncData} (F : Fun K "begins" "Forest.begins" sBeg f fd) (T : TxtF K mg CR CF) : FnOk P w K mg base CX0 1 f fd ["self", "places"] (spBeg CR CF) := by
  refine F.ok scBeg (fun vs H Q E h => ?_) (fun cdv A outer s H vs Q E hr h => ?_)
  · obtain ⟨x, lA, rA, f, n, rfl, _⟩ := h
    rfl
  · obtain ⟨x, lA, rA, f, n, rfl, hF, k⟩ := h
    obtain ⟨dx, fs, as, hx, hlen, l1, l2, l3, h1, h2, h3⟩ := hF.ex
    obtain ⟨t1, m1⟩ := T.places
    obtain ⟨t2, m2⟩ := T.out
    have hok := ok4_step hF.ok (.begins n)
    refine ⟨_, pss_cons (ps_if (pw_or (pt_cmpR op_lt (pv 1) pe_int (nobehind _ (by decide) (by decide))) (pw_or1 (pt_cmpR op_gt (pv 1) (pe_glob (v := .int 7) (by rfl) m1 ⟨_, rfl⟩) (nobehind _ (by decide) (by decide))))).pt (pss_one (ps_ret (pe_glob (v := .int (-1)) (by rfl) m2 ⟨_, rfl⟩))) pss_nil)
      (pss_cons (ps_fld (pv 0) (pe_op op_rep (pe_lst (pa_cons pe_int pa_nil)) (pv 1)) rfl) (pss_cons (ps_fld (pv 0) (pe_lst pa_nil) rfl) (pss_one (ps_ret pe_int)))), ?_⟩
    have bad : (n < 1 ∨ 7 < n) → Q (.int (-1)) H := fun e => by
      have es : Sw98.step f (.begins n) = (f, Sw98.ok (-1)) := if_pos e
      have k2 := k H lA rA (by rw [es]; exact hF) (Moves.same (fun _ _ h => h))
      rw [es] at k2
      exact k2
    refine ⟨_, rfl, _, _, rfl, rfl, _, rfl, ite2 (fun e => ?_) (fun e => ?_)⟩
    · have e := of_decide_eq_true e
      exact iteT (bad (by omega))
    · have e : ¬ (n : Int) < 1 := fun q => e (decide_eq_true q)
      refine ⟨_, rfl, _, _, rfl, rfl, _, rfl, ite2 (fun e2 => ?_) (fun e2 => ?_)⟩
      · have e2 := of_decide_eq_true e2
        exact bad (by omega)
      · have e2 : ¬ (7 : Int) < (n : Int) := fun q => e2 (decide_eq_true q)
        have es : Sw98.step f (.begins n) = (⟨n, [], List.replicate n 0⟩, Sw98.ok 0) := if_neg (by show ¬ (n < 1 ∨ 7 < n); omega)
        refine ⟨(by show 1 ≤ sizeLine; decide), fun l hl => ⟨_, rfl, l, (n : Int), _, rfl, rfl, upd_same, by omega, by omega, (by show 1 * (n : Int).toNat ≤ sizeLine; exact Nat.le_trans (by omega : 1 * (n : Int).toNat ≤ 7) (by decide)), fun m hm => ?_⟩⟩
        have hml : m ≠ l := fun e => by subst e; rw [upd_same] at hm; cases hm
        have hmH : H m = none := by rw [upd_ne hml] at hm; exact hm
        have xl : x ≠ l := ne_of_none hx hl
        have xm : x ≠ m := ne_of_none hx hmH
        refine ⟨_, rfl, x, CF, dx, fs, rfl, (by rw [upd_ne xm, upd_ne xl]; exact hx), T.cl, T.nLo, by omega, ?_⟩
        refine ⟨Nat.zero_le _, fun r hr => ?_⟩
        have xr : x ≠ r := fun e => by subst e; rw [upd_same] at hr; cases hr
        have mr : m ≠ r := fun e => by subst e; rw [upd_ne (Ne.symm xm), upd_same] at hr; cases hr
        have lr : l ≠ r := fun e => by subst e; rw [upd_ne (Ne.symm xl), upd_ne (Ne.symm hml), upd_same] at hr; cases hr
        have hrH : H r = none := by rw [upd_ne (Ne.symm xr), upd_ne (Ne.symm mr), upd_ne (Ne.symm lr)] at hr; exact hr
        refine ⟨_, rfl, x, CF, dx, _, rfl, (by rw [upd_ne xr, upd_same]), T.cl, T.nRo, (by rw [putF_len l1]; omega), ?_⟩
        have k2 := k (upd (upd (upd (upd (upd H l (.lst [.int 0])) m (.lst (List.replicate (n : Int).toNat [V.int 0]).flatten)) x (.ins CF dx (putF "loads" (.ref m) fs))) r (.lst [])) x (.ins CF dx (putF "roads" (.ref r) (putF "loads" (.ref m) fs)))) m r ?_ ?_
        · rw [es] at k2
          exact k2
        · rw [es]
          rw [es] at hok
          refine ⟨⟨dx, _, [], upd_same, ?_, ?_, ?_, ?_, ?_, ?_, ?_⟩, mr, hok⟩
          · rw [putF_len (o := .ref rA) (by rw [lookup_put, if_neg (by decide +kernel)]; exact l2), putF_len l1]
            exact hlen
          · rw [lookup_put, if_neg (by decide +kernel), lookup_put, if_pos rfl]
          · rw [lookup_put, if_pos rfl]
          · intro g q1 q2
            rw [lookup_put, if_neg q2, lookup_put, if_neg q1]
            exact l3 g q1 q2
          · rw [upd_ne (Ne.symm xm), upd_ne mr, upd_ne (Ne.symm xm), upd_same, rep_nv]
          · rw [upd_ne (Ne.symm xr), upd_same]
            rfl
          · exact ⟨rfl, fun i x s a b => by simp at a⟩
        · refine ⟨.inr hmH, .inr hrH, fun b o e q1 q2 q3 => ?_⟩
          rw [upd_ne q1, upd_ne (ne_of_none e hrH), upd_ne q1, upd_ne (ne_of_none e hmH), upd_ne (ne_of_none e hl)]
          exact e
end
end Fr
set_option Elab.async false
set_option linter.all false
set_option maxRecDepth 100000
set_option maxHeartbeats 2000000
namespace Fr
open PySem PySem.Spec PyProof.Rows L2
open PySem.W (Codec)
theorem ltC {a b : Nat} {c : Int} (h : c = (b : Int)) (e : decide (c < (a : Int)) = true) : b < a := by
  have := of_decide_eq_true e
  omega
theorem nltC {a b : Nat} {c : Int} (h : c = (b : Int)) (e : ¬ decide (c < (a : Int)) = true) : ¬ b < a := fun q => e (decide_eq_true (by omega))
theorem eqC {a b : Nat} {c : Int} (h : c = (b : Int)) (e : decide (V.int (a : Int) = V.int c) = true) : a = b := by
  have := V.int.inj (of_decide_eq_true e)
  omega
theorem neC {a b : Nat} {c : Int} (h : c = (b : Int)) (e : ¬ decide (V.int (a : Int) = V.int c) = true) : ¬ a = b := fun q => e (decide_eq_true (by rw [h, q]))
section
variable {P : Program} {w : World} {K : PySem.W.Frag} {mg : Str → Option Value} {base : Heap}
def spRoa (CR CF : Addr) : Sp := fun vs H Q _ => ∃ (x lA rA : Addr) (f : Sw98.Forest) (r : Sw98.Road), vs = [.ref x, .int r.a, .int r.b, .int r.build, .int r.carry] ∧ FA CR CF H x lA rA f ∧
  ∀ (H' : Hp) (lA' rA' : Addr), FA CR CF H' x lA' rA' (Sw98.step f (.road r)).1 → Moves H H' x lA rA lA' rA' → Q (.int (Sw98.step f (.road r)).2.v) H'
theorem scRoa : FnScope ["self", "a", "b", "build", "carry"] ["self", "a", "b", "build", "carry"] (defScope sRoa) := ⟨rfl, rfl, rfl, by decide +kernel, rfl, by decide +kernel, by decide +kernel⟩
theorem ok_roa {f CR CF fH fI : Addr} {fd fdH fdI : FuncData} (F : Fun K "road" "Forest.road" sRoa f fd) (T : TxtF K mg CR CF) (T0 : Txt K mg CR)
    (GH : FnOk P w K mg base CX0 1 fH fdH ["self", "i"] (spHas CR CF)) (bH : Binds K fdH ["self", "i"] []) (mH : Meth K CF "has_place" fH)
    (M : Mk K CR fI) (GI : FnOk P w K mg base CX0 1 fI fdI ["self", "a", "b", "build", "carry"] (spRoI CR)) (bI : Binds K fdI ["self", "a", "b", "build", "carry"] []) :
    FnOk P w K mg base CX0 3 f fd ["self", "a", "b", "build", "carry"] (spRoa CR CF) := by
  refine F.ok scRoa (fun vs H Q E h => ?_) (fun cdv A outer s H vs Q E hr h => ?_)
  · obtain ⟨x, lA, rA, f, r, rfl, _⟩ := h
    rfl
  · obtain ⟨x, lA, rA, f, r, rfl, hF, k⟩ := h
    obtain ⟨dx, fs, as, hx, hlen, l1, l2, l3, h1, h2, h3⟩ := hF.ex
    obtain ⟨t1, m1⟩ := T.cost
    obtain ⟨t2, m2⟩ := T.out
    obtain ⟨t3, m3⟩ := T.noSuch
    obtain ⟨t4, m4⟩ := T.roads
    obtain ⟨t5, m5⟩ := T.many
    have hok := ok4_step hF.ok (.road r)
    have hr1 : Room 1 _ := hr.mono (by decide)
    have noHas : fs.lookup ("has_place" : Str) = none := l3 _ (by decide +kernel) (by decide +kernel)
    refine ⟨_, pss_cons (ps_if (pw_or (pt_not (pt_val (pe_meth (pv 0) T.cl mH GH hr1 bH .nil pass0 (pa_cons (pv 1) pa_nil)))) (pw_or1 (pt_not (pt_val (pe_meth (pv 0) T.cl mH GH hr1 bH .nil pass0 (pa_cons (pv 2) pa_nil)))))).pt (pss_one (ps_ret (pe_glob (v := .int (-2)) (by rfl) m3 ⟨_, rfl⟩))) pss_nil)
      (pss_cons (ps_if (pw_or (pt_cmpR op_eq (pv 1) (pv 2) (nobehind _ (by decide) (by decide))) (pw_or (pt_cmpR op_gt (pv 3) (pe_glob (v := .int 100000) (by rfl) m1 ⟨_, rfl⟩) (nobehind _ (by decide) (by decide))) (pw_or1 (pt_cmpR op_gt (pv 4) (pe_glob (v := .int 100000) (by rfl) m1 ⟨_, rfl⟩) (nobehind _ (by decide) (by decide)))))).pt (pss_one (ps_ret (pe_glob (v := .int (-1)) (by rfl) m2 ⟨_, rfl⟩))) pss_nil)
      (pss_cons (ps_if (pt_cmpR op_eq (pe_callB call_len_seq (by rfl) T0.len PySem.boot_len (pa_cons (pe_fld (pv 0) rfl) pa_nil)) (pe_glob (v := .int 9) (by rfl) m4 ⟨_, rfl⟩) (nobehind _ (by decide) (by decide))) (pss_one (ps_ret (pe_glob (v := .int (-5)) (by rfl) m5 ⟨_, rfl⟩))) pss_nil)
      (pss_cons (ps_expr (pe_bm PySem.F.plainAttrs_list PySem.F.slot_list_append PySem.F.type_list_append mt_append (pe_fld (pv 0) rfl) (pa_cons (pe_make M GI hr rfl T.mgR bI .nil pass0 (pa_cons (pv 1) (pa_cons (pv 2) (pa_cons (pv 3) (pa_cons (pv 4) pa_nil))))) pa_nil)))
      (pss_one (ps_ret (pe_op op_sub (pe_callB call_len_seq (by rfl) T0.len PySem.boot_len (pa_cons (pe_fld (pv 0) rfl) pa_nil)) pe_int)))))), ?_⟩
    have no2 : (f.places ≤ r.a ∨ f.places ≤ r.b) → Q (.int (-2)) H := fun e => by
      have es : Sw98.step f (.road r) = (f, Sw98.ok (-2)) := if_pos e
      have k2 := k H lA rA (by rw [es]; exact hF) (Moves.same (fun _ _ h => h))
      rw [es] at k2
      exact k2
    have step1 : ¬ (f.places ≤ r.a ∨ f.places ≤ r.b) → Sw98.step f (.road r) = if r.a = r.b ∨ 100000 < r.build ∨ 100000 < r.carry then (f, Sw98.ok (-1)) else if 9 ≤ f.roads.length then (f, Sw98.ok (-5)) else ({ f with roads := f.roads ++ [r] }, Sw98.ok (f.roads.length : Nat)) := fun e => if_neg e
    refine ⟨_, rfl, x, dx, fs, rfl, hx, noHas, _, rfl, x, lA, rA, f, r.a, rfl, hF, _, rfl, ?_⟩
    refine ite2 (fun e => ?_) (fun e => ?_)
    · exact iteT (no2 (by
        by_cases q : r.a < f.places
        · rw [decide_eq_true q] at e
          cases e
        · omega))
    have ea : r.a < f.places := by
      by_cases q : r.a < f.places
      · exact q
      · rw [decide_eq_false q] at e
        exact absurd rfl e
    refine ⟨_, rfl, x, dx, fs, rfl, hx, noHas, _, rfl, x, lA, rA, f, r.b, rfl, hF, _, rfl, ?_⟩
    refine ite2 (fun e => ?_) (fun e => ?_)
    · exact no2 (by
        by_cases q : r.b < f.places
        · rw [decide_eq_true q] at e
          cases e
        · omega)
    have eb : r.b < f.places := by
      by_cases q : r.b < f.places
      · exact q
      · rw [decide_eq_false q] at e
        exact absurd rfl e
    have es1 := step1 (by omega)
    have no1 : (r.a = r.b ∨ 100000 < r.build ∨ 100000 < r.carry) → Q (.int (-1)) H := fun e => by
      have es : Sw98.step f (.road r) = (f, Sw98.ok (-1)) := es1.trans (if_pos e)
      have k2 := k H lA rA (by rw [es]; exact hF) (Moves.same (fun _ _ h => h))
      rw [es] at k2
      exact k2
    refine ⟨_, rfl, _, rfl, rfl, _, rfl, ite2 (fun e => ?_) (fun e => ?_)⟩
    · exact iteT (no1 (.inl (eqC rfl e)))
    have e1 := neC rfl e
    refine ⟨_, rfl, _, _, rfl, rfl, _, rfl, ite2 (fun e => ?_) (fun e => ?_)⟩
    · exact iteT (no1 (.inr (.inl (ltC rfl e))))
    have e2 := nltC (b := 100000) rfl e
    refine ⟨_, rfl, _, _, rfl, rfl, _, rfl, ite2 (fun e => ?_) (fun e => ?_)⟩
    · exact no1 (.inr (.inr (ltC rfl e)))
    have e3 := nltC (b := 100000) rfl e
    have es2 := es1.trans (if_neg (by omega))
    refine ⟨_, rfl, x, CF, dx, fs, _, rfl, hx, T.cl, T.nRo, l2, rA, _, rfl, .inl (SqL.of h2), ?_⟩
    rw [List.length_map, h3.1]
    refine ⟨rfl, _, rfl, ite2 (fun e => ?_) (fun e => ?_)⟩
    · have e := eqC (b := 9) rfl e
      have es : Sw98.step f (.road r) = (f, Sw98.ok (-5)) := es2.trans (if_pos (by omega))
      have k2 := k H lA rA (by rw [es]; exact hF) (Moves.same (fun _ _ h => h))
      rw [es] at k2
      exact k2
    have e4 := neC (b := 9) rfl e
    have h9 := hF.ok.few
    have es := es2.trans (if_neg (by omega))
    refine ⟨_, rfl, x, CF, dx, fs, _, rfl, hx, T.cl, T.nRo, l2, .inl ⟨rfl, _, SqL.of h2⟩, _, rfl, _, rfl, _, rfl, _, rfl, ?_⟩
    intro y dy hy hdy hne
    refine ⟨y, dy, r, rfl, upd_same, fun H1 R1 b1 => ⟨rfl, ?_⟩⟩
    have s1 : Same H H1 := Same.made hy hdy b1
    obtain ⟨xl, xr⟩ := hF.fresh
    have hla : (as.map V.ref).length = f.roads.length := by rw [List.length_map, h3.1]
    refine ⟨rA, _, _, rfl, rfl, s1 _ _ h2, (by rw [hla]; exact Nat.lt_of_le_of_lt h9 (by decide)), ?_⟩
    have yr : y ≠ rA := ne_of_none h2 hy |>.symm
    have eA : as.map V.ref ++ [V.ref y] = (as ++ [y]).map V.ref := by rw [List.map_append]; rfl
    refine ⟨_, rfl, x, CF, dx, fs, _, rfl, (by rw [upd_ne xr]; exact s1 _ _ hx), T.cl, T.nRo, l2, rA, _, rfl, .inl (SqL.of upd_same), _, _, rfl, rfl, ?_⟩
    have up : ∀ b o, H1 b = some o → b ≠ rA → upd H1 rA (.lst (as.map V.ref ++ [V.ref y])) b = some o := fun b o e n => by rw [upd_ne n]; exact e
    have Rkeep : RoadsAt CR (upd H1 rA (.lst (as.map V.ref ++ [V.ref y]))) (as ++ [y]) (f.roads ++ [r]) := by
      refine RoadsAt.snoc ⟨h3.1, fun i z t a b => ?_⟩ ?_
      · obtain ⟨dz, gs, q, rest⟩ := (h3.2 i z t a b).ex
        exact ⟨dz, gs, up _ _ (s1 _ _ q) (ne_of q h2 (by intro z; cases z)), rest⟩
      · obtain ⟨dz, gs, q, rest⟩ := R1.ex
        exact ⟨dz, gs, up _ _ q yr, rest⟩
    have k2 := k (upd H1 rA (.lst (as.map V.ref ++ [V.ref y]))) lA rA ?_ ?_
    · rw [es] at k2
      have ev : (((as.map V.ref ++ [V.ref y]).length : Nat) : Int) - 1 = ((f.roads.length : Nat) : Int) := by
        rw [List.length_append, hla, List.length_singleton]
        omega
      show Q (V.int ((((as.map V.ref ++ [V.ref y]).length : Nat) : Int) - 1)) _
      rw [ev]
      exact k2
    · rw [es]
      rw [es] at hok
      refine ⟨⟨dx, fs, as ++ [y], up _ _ (s1 _ _ hx) xr, hlen, l1, l2, l3, up _ _ (s1 _ _ h1) hF.ne, ?_, Rkeep⟩, hF.ne, hok⟩
      rw [upd_same, eA]
    · exact ⟨.inl rfl, .inl rfl, fun b o e q1 q2 q3 => up _ _ (s1 _ _ e) q3⟩
/-! ### load -/
def spLoa (CR CF : Addr) : Sp := fun vs H Q _ => ∃ (x lA rA : Addr) (f : Sw98.Forest) (i n : Nat), vs = [.ref x, .int i, .int n] ∧ FA CR CF H x lA rA f ∧
  ∀ (H' : Hp) (lA' rA' : Addr), FA CR CF H' x lA' rA' (Sw98.step f (.load i n)).1 → Moves H H' x lA rA lA' rA' → Q (.int (Sw98.step f (.load i n)).2.v) H'
theorem scLoa : FnScope ["self", "i", "n", "before"] ["self", "i", "n"] (defScope sLoa) := ⟨rfl, rfl, rfl, by decide +kernel, rfl, by decide +kernel, by decide +kernel⟩
theorem ok_loa {f CR CF fH fL : Addr} {fd fdH fdL : FuncData} (F : Fun K "load" "Forest.load" sLoa f fd) (T : TxtF K mg CR CF) (T0 : Txt K mg CR)
    (GH : FnOk P w K mg base CX0 1 fH fdH ["self", "i"] (spHas CR CF)) (bH : Binds K fdH ["self", "i"] []) (mH : Meth K CF "has_place" fH)
    (GL : FnOk P w K mg base CX0 1 fL fdL ["self"] (spLan CR CF)) (bL : Binds K fdL ["self"] []) (mL : Meth K CF "landings" fL) :
    FnOk P w K mg base CX0 2 f fd ["self", "i", "n"] (spLoa CR CF) := by
  refine F.ok scLoa (fun vs H Q E h => ?_) (fun cdv A outer s H vs Q E hr h => ?_)
  · obtain ⟨x, lA, rA, f, i, n, rfl, _⟩ := h
    rfl
  · obtain ⟨x, lA, rA, f, i, n, rfl, hF, k⟩ := h
    obtain ⟨dx, fs, as, hx, hlen, l1, l2, l3, h1, h2, h3⟩ := hF.ex
    obtain ⟨t0, m0⟩ := T0.gate
    obtain ⟨t1, m1⟩ := T.loads
    obtain ⟨t2, m2⟩ := T.out
    obtain ⟨t3, m3⟩ := T.noSuch
    obtain ⟨t4, m4⟩ := T.landings
    obtain ⟨t5, m5⟩ := T.many
    have hok := ok4_step hF.ok (.load i n)
    have noHas : fs.lookup ("has_place" : Str) = none := l3 _ (by decide +kernel) (by decide +kernel)
    have noLan : fs.lookup ("landings" : Str) = none := l3 _ (by decide +kernel) (by decide +kernel)
    refine ⟨_, pss_cons (ps_if (pt_not (pt_val (pe_meth (pv 0) T.cl mH GH hr bH .nil pass0 (pa_cons (pv 1) pa_nil)))) (pss_one (ps_ret (pe_glob (v := .int (-2)) (by rfl) m3 ⟨_, rfl⟩))) pss_nil)
      (pss_cons (ps_if (pw_or (pt_cmpR op_gt (pv 2) (pe_glob (v := .int 1000) (by rfl) m1 ⟨_, rfl⟩) (nobehind _ (by decide) (by decide))) (pw_or1 (pt_cmpR op_eq (pv 1) (pe_glob (v := .int 0) (by rfl) m0 ⟨_, rfl⟩) (nobehind _ (by decide) (by decide))))).pt (pss_one (ps_ret (pe_glob (v := .int (-1)) (by rfl) m2 ⟨_, rfl⟩))) pss_nil)
      (pss_cons (ps_set (i := 3) scLoa.nd rfl (Or.inl rfl) (pe_ix ix_list (pe_fld (pv 0) rfl) (pv 1) (fun _ _ => rfl)))
      (pss_cons (ps_if (pw_and (pt_cmpR op_eq (pv 3) pe_int (nobehind _ (by decide) (by decide))) (pw_and (pt_cmpR op_gt (pv 2) pe_int (nobehind _ (by decide) (by decide))) (pw_and1 (pt_cmpR op_eq (pe_callB call_len_seq (by rfl) T0.len PySem.boot_len (pa_cons (pe_meth0 (pv 0) T.cl mL GL hr bL .nil pass0) pa_nil)) (pe_glob (v := .int 4) (by rfl) m4 ⟨_, rfl⟩) (nobehind _ (by decide) (by decide)))))).pt (pss_one (ps_ret (pe_glob (v := .int (-5)) (by rfl) m5 ⟨_, rfl⟩))) pss_nil)
      (pss_cons (ps_asg (pv 2) (pg_sub (pe_fld (pv 0) rfl) (pv 1) set_list))
      (pss_one (ps_ret (pv 3))))))), ?_⟩
    obtain ⟨xl, xr⟩ := hF.fresh
    refine ⟨_, rfl, x, dx, fs, rfl, hx, noHas, _, rfl, x, lA, rA, f, i, rfl, hF, _, rfl, ?_⟩
    refine ite2 (fun e => ?_) (fun e => ?_)
    · have q : f.places ≤ i := by
        by_cases q : i < f.places
        · rw [decide_eq_true q] at e
          cases e
        · omega
      have es : Sw98.step f (.load i n) = (f, Sw98.ok (-2)) := if_pos q
      have k2 := k H lA rA (by rw [es]; exact hF) (Moves.same (fun _ _ h => h))
      rw [es] at k2
      exact k2
    have ei : i < f.places := by
      by_cases q : i < f.places
      · exact q
      · rw [decide_eq_false q] at e
        exact absurd rfl e
    have hil : i < f.loads.length := by rw [hF.ok.len]; exact ei
    have es1 : Sw98.step f (.load i n) = if 1000 < n ∨ i = 0 then (f, Sw98.ok (-1)) else if f.loads.getD i 0 = 0 ∧ 0 < n ∧ 4 ≤ f.landings.length then (f, Sw98.ok (-5)) else ({ f with loads := f.loads.set i n }, Sw98.ok (f.loads.getD i 0 : Nat)) := if_neg (by omega)
    have no1 : (1000 < n ∨ i = 0) → Q (.int (-1)) H := fun e => by
      have es : Sw98.step f (.load i n) = (f, Sw98.ok (-1)) := es1.trans (if_pos e)
      have k2 := k H lA rA (by rw [es]; exact hF) (Moves.same (fun _ _ h => h))
      rw [es] at k2
      exact k2
    refine ⟨_, rfl, _, _, rfl, rfl, _, rfl, ite2 (fun e => ?_) (fun e => ?_)⟩
    · exact iteT (no1 (.inl (ltC rfl e)))
    have e1 := nltC (b := 1000) rfl e
    refine ⟨_, rfl, rfl, _, rfl, ite2 (fun e => ?_) (fun e => ?_)⟩
    · exact no1 (.inr (eqC (b := 0) rfl e))
    have e2 := neC (b := 0) rfl e
    have es2 := es1.trans (if_neg (by omega))
    have done : ∀ H2, Same H H2 → ¬ (f.loads.getD i 0 = 0 ∧ 0 < n ∧ 4 ≤ f.landings.length) → Q (.int (f.loads.getD i 0 : Nat)) (upd H2 lA (.lst ((nv f.loads).set i (.int (n : Nat))))) := fun H2 s2 hc => by
      have es := es2.trans (if_neg hc)
      have k2 := k (upd H2 lA (.lst ((nv f.loads).set i (.int (n : Nat))))) lA rA ?_ ?_
      · rw [es] at k2
        exact k2
      · rw [es]
        rw [es] at hok
        refine ⟨⟨dx, fs, as, (by rw [upd_ne xl]; exact s2 _ _ hx), hlen, l1, l2, l3, (by rw [upd_same, nv_set]), (by rw [upd_ne (Ne.symm hF.ne)]; exact s2 _ _ h2), h3.1, fun j z t a b => ?_⟩, hF.ne, hok⟩
        obtain ⟨dz, gs, q, rest⟩ := (h3.2 j z t a b).ex
        exact ⟨dz, gs, (by rw [upd_ne (ne_of q h1 (by intro z; cases z))]; exact s2 _ _ q), rest⟩
      · exact ⟨.inl rfl, .inl rfl, fun b o e q1 q2 q3 => by rw [upd_ne q2]; exact s2 _ _ e⟩
    have hix : ixN (nv f.loads).length (i : Int) = some i := by rw [nv_len]; exact ixN_nat hil
    refine ⟨_, rfl, x, CF, dx, fs, _, rfl, hx, T.cl, T.nLo, l1, _, rfl, lA, _, _, _, rfl, rfl, SqL.of h1, atI_nat (nv_at hil), ?_⟩
    refine ⟨_, rfl, rfl, _, rfl, ite2 (fun e => ?_) (fun e => ?_)⟩
    · have e3 := eqC (b := 0) rfl e
      refine ⟨_, rfl, _, _, rfl, rfl, _, rfl, ite2 (fun e => ?_) (fun e => ?_)⟩
      · have e4 := posN e
        refine ⟨_, rfl, x, dx, fs, rfl, hx, noLan, x, lA, rA, f, rfl, hF, fun H2 lan hlan s2 => ⟨lan, _, rfl, .inl (SqL.of hlan), ?_⟩⟩
        rw [nv_len]
        refine ⟨rfl, _, rfl, ite2 (fun e => ?_) (fun e => ?_)⟩
        · have e5 := eqC (b := 4) rfl e
          have es : Sw98.step f (.load i n) = (f, Sw98.ok (-5)) := es2.trans (if_pos ⟨e3, e4, by omega⟩)
          have k2 := k H2 lA rA (by rw [es]; exact hF.same s2) (Moves.same s2)
          rw [es] at k2
          exact k2
        · have e5 := neC (b := 4) rfl e
          have h4 := hF.ok.four
          exact ⟨_, rfl, _, rfl, x, CF, dx, fs, _, rfl, s2 _ _ hx, T.cl, T.nLo, l1, _, rfl, lA, _, _, i, rfl, rfl, s2 _ _ h1, hix, _, rfl, done H2 s2 (by omega)⟩
      · have e4 := nposN e
        exact ⟨_, rfl, _, rfl, x, CF, dx, fs, _, rfl, hx, T.cl, T.nLo, l1, _, rfl, lA, _, _, i, rfl, rfl, h1, hix, _, rfl, done H (fun _ _ h => h) (by omega)⟩
    · have e3 := neC (b := 0) rfl e
      exact ⟨_, rfl, _, rfl, x, CF, dx, fs, _, rfl, hx, T.cl, T.nLo, l1, _, rfl, lA, _, _, i, rfl, rfl, h1, hix, _, rfl, done H (fun _ _ h => h) (by omega)⟩
end
end Fr
set_option Elab.async false
set_option linter.all false
set_option maxRecDepth 100000
set_option maxHeartbeats 2000000
namespace Fr
open PySem PySem.Spec PyProof.Rows L2
open PySem.W (Codec)
abbrev sAnI : Stmt := inClass (top 12) 0
abbrev sAwl : Stmt := top 35
abbrev sRef : Stmt := top 17
abbrev sRis : Stmt := top 18
abbrev sPai : Stmt := top 19
abbrev sGrp : Stmt := top 22
/-- an Answer stands at x -/
structure AnsAt (C : Addr) (H : Hp) (x : Addr) (a : Sw98.Ans) : Prop where
  ex : ∃ dx fs rw as, H x = some (.ins C dx fs) ∧ fs.lookup ("number" : Str) = some (.int a.v) ∧ fs.lookup ("rows" : Str) = some (.ref rw) ∧ H rw = some (.lst (as.map V.ref)) ∧ SetsAt H as a.l
structure TxtA (K : PySem.W.Frag) (mg : Str → Option Value) (CA : Addr) : Prop where
  cl : Cls K CA
  nNu : NoAttr K CA "number"
  nRo : NoAttr K CA "rows"
  mgA : mg "Answer" = some (.ref CA)
section
variable {P : Program} {w : World} {K : PySem.W.Frag} {mg : Str → Option Value} {base : Heap}
def spAnI (CA : Addr) : Sp := fun vs H Q _ => ∃ (p dx rw : Addr) (as : List Addr) (a : Sw98.Ans), vs = [.ref p, .int a.v, .ref rw] ∧ H p = some (.ins CA dx []) ∧ H rw = some (.lst (as.map V.ref)) ∧ SetsAt H as a.l ∧ ∀ H' : Hp, AnsAt CA H' p a → But p H H' → Q .non H'
theorem scAnI : FnScope ["self", "number", "rows"] ["self", "number", "rows"] (defScope sAnI) := ⟨rfl, rfl, rfl, by decide +kernel, rfl, by decide +kernel, by decide +kernel⟩
theorem ok_anI {f CA : Addr} {fd : FuncData} (F : Fun K "__init__" "Answer.__init__" sAnI f fd) (T : TxtA K mg CA) : FnOk P w K mg base CX0 1 f fd ["self", "number", "rows"] (spAnI CA) := by
  refine F.ok scAnI (fun vs H Q E h => ?_) (fun cdv A outer s H vs Q E hr h => ?_)
  · obtain ⟨p, dx, rw, as, a, rfl, _⟩ := h
    rfl
  · obtain ⟨p, dx, rw, as, a, rfl, hp, hrw, hS, k⟩ := h
    refine ⟨_, pss_cons (ps_fld (pv 0) (pv 1) rfl) (pss_one (ps_fld (pv 0) (pv 2) rfl)), ?_⟩
    refine ⟨_, rfl, _, rfl, p, CA, dx, [], rfl, hp, T.cl, T.nNu, (by show 0 < 1000; decide), ?_⟩
    refine ⟨_, rfl, _, rfl, p, CA, dx, _, rfl, upd_same, T.cl, T.nRo, (by show 1 < 1000; decide), ?_⟩
    have nrw : rw ≠ p := ne_of hrw hp (by intro z; cases z)
    have nas : ∀ x, x ∈ as → x ≠ p := fun x hx => by
      obtain ⟨i, hi⟩ := List.mem_iff_getElem?.mp hx
      obtain ⟨t, _, q⟩ := hS.get hi
      exact ne_of q hp (by intro z; cases z)
    refine k _ ⟨dx, _, rw, as, upd_same, ?_, ?_, ?_, (hS.upd _ nas).upd _ nas⟩ ?_
    · rw [lookup_put, if_neg (by decide +kernel), lookup_put, if_pos rfl]
    · rw [lookup_put, if_pos rfl]
    · rw [upd_ne nrw, upd_ne nrw]
      exact hrw
    · intro b o e hb
      rw [upd_ne hb, upd_ne hb]
      exact e
/-! ### answer_with_lists -/
theorem out_snoc (v : Int) (l : List (List Nat)) (r : List Nat) : Sw98Neutral.out ⟨v, l ++ [r]⟩ = Sw98Neutral.out ⟨v, l⟩ ++ ((r.length : Int) :: toZ r) := by
  show v :: (l ++ [r]).flatMap _ = (v :: l.flatMap _) ++ _
  rw [List.flatMap_append, List.cons_append]
  congr 2
  show _ ++ [] = _
  rw [List.append_nil]
  rfl
def FitsA (a : Sw98.Ans) : Prop := a.l.length ≤ 3 ∧ ∀ r, r ∈ a.l → r.length ≤ 20
theorem out_len {v : Int} : ∀ {l : List (List Nat)}, (∀ r, r ∈ l → r.length ≤ 20) → (Sw98Neutral.out ⟨v, l⟩).length ≤ 1 + 21 * l.length
  | [], _ => by
    show 1 ≤ _
    omega
  | r :: l, h => by
    have ih := out_len (v := v) (l := l) fun q hq => h q (List.mem_cons_of_mem _ hq)
    have hr := h r List.mem_cons_self
    have e1 : (Sw98Neutral.out ⟨v, r :: l⟩).length = (Sw98Neutral.out ⟨v, l⟩).length + (r.length + 1) := by
      show (v :: (r :: l).flatMap _).length = (v :: l.flatMap _).length + _
      rw [List.flatMap_cons, List.length_cons, List.length_append, List.length_cons, List.length_cons, List.length_map]
      omega
    rw [e1, List.length_cons]
    omega
def spAwl (CA : Addr) : Sp := fun vs H Q _ => ∃ (x : Addr) (a : Sw98.Ans), vs = [.ref x] ∧ AnsAt CA H x a ∧ FitsA a ∧ ∀ (H' : Hp) (t : Addr), H t = none → H' t = some (.lst ((Sw98Neutral.out a).map V.int)) → Same H H' → Q (.ref t) H'
theorem scAwl : FnScope ["answer", "told", "row"] ["answer"] (defScope sAwl) := ⟨rfl, rfl, rfl, by decide +kernel, rfl, by decide +kernel, by decide +kernel⟩
theorem ok_awl {f CR CA : Addr} {fd : FuncData} (F : Fun K "answer_with_lists" "answer_with_lists" sAwl f fd) (T : TxtA K mg CA) (T0 : Txt K mg CR) : FnOk P w K mg base CX0 1 f fd ["answer"] (spAwl CA) := by
  refine F.ok scAwl (fun vs H Q E h => ?_) (fun cdv A outer s H vs Q E hr h => ?_)
  · obtain ⟨x, a, rfl, _⟩ := h
    rfl
  · obtain ⟨x, a, rfl, ⟨dx, fs, rw', as, hx, l1, l2, hrw, hS⟩, ⟨f3, f20⟩, k⟩ := h
    refine ⟨_, pss_cons (ps_set (i := 1) scAwl.nd rfl (Or.inl rfl) (pe_lst (pa_cons (pe_fld (pv 0) rfl) pa_nil)))
      (pss_cons (ps_for PassesOwn.never rfl (pi_list (pe_fld (pv 0) rfl)) (pg_name (i := 2) scAwl.nd rfl (Or.inl rfl))
        (pss_cons (ps_expr (pe_bm PySem.F.plainAttrs_list PySem.F.slot_list_append PySem.F.type_list_append mt_append (pv 1) (pa_cons (pe_callB call_len_seq (by rfl) T0.len PySem.boot_len (pa_cons (pv 2) pa_nil)) pa_nil)))
        (pss_one (ps_expr (pe_bm PySem.F.plainAttrs_list PySem.F.slot_list_extend PySem.F.type_list_extend mt_extend (pv 1) (pa_cons (pv 2) pa_nil))))))
      (pss_one (ps_ret (pv 1)))), ?_⟩
    refine ⟨_, rfl, x, CA, dx, fs, _, rfl, hx, T.cl, T.nNu, l1, (by show 1 ≤ sizeLine; decide), fun t ht => ?_⟩
    have s0 : Same H (upd H t (.lst [V.int a.v])) := same_new ht
    refine ⟨_, rfl, x, CA, dx, fs, _, rfl, s0 _ _ hx, T.cl, T.nRo, l2, rw', rfl, ⟨_, SqL.of (s0 _ _ hrw)⟩, for_list (K := K) (a := rw') (xs := as.map V.ref) (fun i σ H' => ∃ v2, σ = [some (.ref x), some (.ref t), v2] ∧ H' t = some (.lst ((Sw98Neutral.out ⟨a.v, a.l.take i⟩).map V.int)) ∧ Same H H')
      ⟨none, rfl, upd_same, s0⟩ (fun i σ H' _ ⟨_, _, _, q⟩ => SqL.of (q _ _ hrw)) ?_ ?_⟩
    · rintro i y σ H' hi ⟨v2, rfl, g1, g2⟩
      obtain ⟨z, hz, rfl⟩ := map_at hi
      obtain ⟨r, hr2, hzr⟩ := hS.get hz
      have hzt : z ≠ t := ne_of_none hzr ht
      have h20 := f20 r (List.mem_of_getElem? hr2)
      have hol : (Sw98Neutral.out ⟨a.v, a.l.take i⟩).length ≤ 64 := by
        have := out_len (v := a.v) (l := a.l.take i) fun q hq => f20 q (List.mem_of_mem_take hq)
        rw [List.length_take] at this
        omega
      refine ⟨_, rfl, .inl ⟨rfl, _, SqL.of g1⟩, _, rfl, z, _, rfl, .inl (SqL.of (g2 _ _ hzr)), t, _, _, rfl, rfl, g1, (by rw [List.length_map]; exact Nat.lt_of_le_of_lt hol (by decide)), ?_⟩
      refine ⟨_, rfl, .inl ⟨rfl, _, SqL.of upd_same⟩, _, rfl, t, z, _, _, rfl, rfl, upd_same, (by rw [upd_ne hzt]; exact g2 _ _ hzr), ?_, _, rfl, ?_, ?_⟩
      · rw [List.length_append, List.length_map, nv_len]
        exact Nat.le_trans (Nat.add_le_add (Nat.add_le_add_right hol _) h20) (by show 64 + 1 + 20 ≤ sizeLine; decide)
      · rw [upd_same, take_snoc hr2, out_snoc, List.map_append, nv_len, List.map_cons, List.append_assoc]
        unfold toZ nv
        rw [List.map_map]
        rfl
      · exact Same_upd (Same_upd g2 ht) ht
    · rintro σ H' ⟨v2, rfl, g1, g2⟩
      rw [List.length_map, hS.1, List.take_length] at g1
      exact ⟨_, rfl, k H' t ht g1 g2⟩
/-! ### refusal -/
theorem AnsAt.same {C : Addr} {H H' : Hp} {x : Addr} {a : Sw98.Ans} (h : AnsAt C H x a) (q : Same H H') : AnsAt C H' x a := by
  obtain ⟨dx, fs, rw', as, a1, a2, a3, a4, a5⟩ := h.ex
  exact ⟨dx, fs, rw', as, q _ _ a1, a2, a3, q _ _ a4, a5.same q⟩
def spRef (CA : Addr) : Sp := fun vs H Q _ => ∃ v : Int, vs = [.int v] ∧ ∀ (H' : Hp) (y : Addr), AnsAt CA H' y (Sw98.ok v) → Same H H' → Q (.ref y) H'
theorem fits_ok (v : Int) : FitsA (Sw98.ok v) := ⟨Nat.zero_le _, fun r h => by cases h⟩
theorem scRef : FnScope ["number"] ["number"] (defScope sRef) := ⟨rfl, rfl, rfl, by decide +kernel, rfl, by decide +kernel, by decide +kernel⟩
theorem ok_ref {f CA fI : Addr} {fd fdI : FuncData} (F : Fun K "refusal" "refusal" sRef f fd) (TA : TxtA K mg CA)
    (M : Mk K CA fI) (GI : FnOk P w K mg base CX0 1 fI fdI ["self", "number", "rows"] (spAnI CA)) (bI : Binds K fdI ["self", "number", "rows"] []) : FnOk P w K mg base CX0 3 f fd ["number"] (spRef CA) := by
  refine F.ok scRef (fun vs H Q E h => ?_) (fun cdv A outer s H vs Q E hr h => ?_)
  · obtain ⟨v, rfl, _⟩ := h
    rfl
  · obtain ⟨v, rfl, k⟩ := h
    refine ⟨_, pss_one (ps_ret (pe_make M GI hr rfl TA.mgA bI .nil pass0 (pa_cons (pv 0) (pa_cons (pe_lst pa_nil) pa_nil)))), ?_⟩
    refine ⟨_, rfl, Nat.zero_le _, fun l hl y dy hy hdy hne => ?_⟩
    have hly : l ≠ y := ne_of_none upd_same hy
    have hldy : l ≠ dy := ne_of_none upd_same hdy
    refine ⟨y, dy, l, [], Sw98.ok v, rfl, upd_same, (by rw [upd_ne hly, upd_ne hldy, upd_same]; rfl), ⟨rfl, fun i x s a b => by simp at a⟩, fun H2 a2 b2 => ⟨rfl, ?_⟩⟩
    exact k H2 y a2 ((same_new hl).trans (Same.made hy hdy b2))
/-! ### rise -/
theorem cut_one (l : List Nat) : cutV (nv l) (some 1) none = nv (l.drop 1) := by
  unfold cutV
  have e1 : HT.sIx (nv l).length 0 (some (1 : Int)) = min 1 l.length := by
    have := HT.sIx_nat (nv l).length 0 1
    rw [nv_len] at this ⊢
    exact this
  have e2 : HT.sIx (nv l).length (nv l).length none = l.length := by
    rw [nv_len]
    rfl
  rw [e1, e2]
  unfold nv
  cases l with
  | nil => rfl
  | cons a l =>
    have : min 1 (a :: l).length = 1 := by rw [List.length_cons]; omega
    rw [this, List.take_of_length_le (by rw [List.length_drop, List.length_map]; exact Nat.le_refl _), List.map_drop]
def spRis : Sp := fun vs H Q _ => ∃ (n : Addr) (l : List Nat), vs = [.ref n] ∧ H n = some (.lst (nv l)) ∧ l.length ≤ 20 ∧ ∀ H', Same H H' → Q (.bl (Sw98.rising l)) H'
theorem scRis : FnScope ["numbers", "number", "higher"] ["numbers"] (defScope sRis) := ⟨rfl, rfl, rfl, by decide +kernel, rfl, by decide +kernel, by decide +kernel⟩
theorem bl_snoc (l : List Bool) (b : Bool) : (l ++ [b]).map V.bl = l.map V.bl ++ [V.bl b] := by rw [List.map_append]; rfl
theorem ltV (a b : Nat) : decide ((a : Int) < (b : Int)) = decide (a < b) := by
  by_cases q : a < b
  · rw [decide_eq_true q, decide_eq_true (by omega)]
  · rw [decide_eq_false q, decide_eq_false (by omega)]
theorem ok_ris {f CR : Addr} {fd : FuncData} (F : Fun K "rise" "rise" sRis f fd) (T : Txt K mg CR) : FnOk P w K mg base CX0 1 f fd ["numbers"] spRis := by
  refine F.ok scRis (fun vs H Q E h => ?_) (fun cdv A outer s H vs Q E hr h => ?_)
  · obtain ⟨n, l, rfl, _⟩ := h
    rfl
  · obtain ⟨n, l, rfl, hn, hl20, k⟩ := h
    refine ⟨_, pss_one (ps_ret (pe_callB (cr_all rfl) (by rfl) T.all boot_all (pa_cons (pe_lc (own := [("number", 1), ("higher", 2)]) (g := gTup K 2 (gCons (gName 1) (gCons (gName 2) gNil))) (te := tOp (rI0 fun i j => .bl (decide (i < j))) (tVar 1) (tVar 2)) rfl scRis.nd (pi_zip rfl T.zip (pa_cons (pv 0) (pa_cons (pe_slice sl_list (pv 0) (po_some pe_int) po_none) pa_nil)))
      (blkOk_by (by show blkC ["numbers", "number", "higher"] (defScope sRis) _ _ = true; decide +kernel)) (fun s H C cl fp => pg_tup rfl (pgs_cons (pg_name (i := 1) scRis.nd rfl (Or.inl rfl)) (pgs_cons (pg_name (i := 2) scRis.nd rfl (Or.inl rfl)) pgs_nil))) (fun s H C cl fp => pts_nil) (fun s H C cl fp => pe_cmpR op_lt (pv 1) (pv 2) (nobehind _ (by decide) (by decide)))) pa_nil))), ?_⟩
    refine ⟨_, rfl, _, rfl, 1, rfl, n, _, rfl, SqL.of hn, fun c hc => ?_⟩
    rw [cut_one]
    have s0 : Same H (upd H c (.lst (nv (l.drop 1)))) := same_new hc
    have hc0 : (upd H c (.lst (nv (l.drop 1)))) c = some (.lst (nv (l.drop 1))) := upd_same
    revert s0 hc0
    generalize upd H c (.lst (nv (l.drop 1))) = H0
    intro s0 hc0
    have hnl : (nextLt l).length = (l.drop 1).length := by
      unfold nextLt
      rw [List.length_map, List.length_zip, List.length_drop]
      omega
    refine ⟨n, c, _, _, rfl, SqL.of (s0 _ _ hn), SqL.of hc0, fun D hD => lc_zip (K := K) (a := n) (b := c) (xs := nv l) (ys := nv (l.drop 1)) (nextLt l).length (by rw [hnl, nv_len, List.length_drop]; omega) (by rw [hnl, nv_len]; exact Nat.le_refl _) (.inr (by rw [hnl, nv_len]; exact Nat.le_refl _))
      (fun i H' => H' D = some (.lst (((nextLt l).take i).map V.bl)) ∧ Same H0 H') ⟨upd_same, same_new hD⟩ (fun i H' q => ⟨SqL.of (q.2 _ _ (s0 _ _ hn)), SqL.of (q.2 _ _ hc0)⟩) ?_ ?_⟩
    · rintro i y z t H' hi hy hz ht ⟨g1, g2⟩
      obtain ⟨a, ha, rfl⟩ := map_at hy
      obtain ⟨b, hb, rfl⟩ := map_at hz
      have s2 : Same H' (upd H' t (.tup [.int (a : Nat), .int (b : Nat)])) := same_new ht
      have e : (nextLt l)[i]? = some (decide (a < b)) := by
        unfold nextLt
        rw [List.getElem?_map, zip_at ha hb]
        rfl
      refine ⟨t, _, rfl, SqT2, rfl, _, _, rfl, _, _, rfl, rfl, rfl, _, rfl, _, rfl, _, _, rfl, rfl, _, s2 _ _ g1, ?_, ?_, Same_upd (g2.trans s2) hD⟩
      · rw [List.length_map, List.length_take]
        refine Nat.lt_of_le_of_lt (Nat.min_le_right _ _) ?_
        rw [hnl, List.length_drop]
        exact Nat.lt_of_le_of_lt (Nat.sub_le _ _) (Nat.lt_of_le_of_lt hl20 (by decide))
      · rw [upd_same, take_snoc e, bl_snoc, ← ltV]
    · rintro H' ⟨g1, g2⟩
      rw [List.take_length] at g1
      refine ⟨D, nextLt l, rfl, SqL.of g1, ?_⟩
      rw [nextLt_all]
      exact k H' (s0.trans g2)
/-! ### paid_together -/
def spPai : Sp := fun vs H Q _ => ∃ (gA pA : Addr) (g paid : List Nat), vs = [.ref gA, .ref pA] ∧ H gA = some (.lst (nv g)) ∧ H pA = some (.lst (nv paid)) ∧ g.length ≤ 7 ∧ (∀ i, i ∈ g → i < paid.length) ∧ ∀ H', Same H H' → Q (.int (paidSum paid g : Nat)) H'
theorem scPai : FnScope ["group", "paid", "i"] ["group", "paid"] (defScope sPai) := ⟨rfl, rfl, rfl, by decide +kernel, rfl, by decide +kernel, by decide +kernel⟩
theorem ok_pai {f CR : Addr} {fd : FuncData} (F : Fun K "paid_together" "paid_together" sPai f fd) (T : Txt K mg CR) : FnOk P w K mg base CX0 1 f fd ["group", "paid"] spPai := by
  refine F.ok scPai (fun vs H Q E h => ?_) (fun cdv A outer s H vs Q E hr h => ?_)
  · obtain ⟨gA, pA, g, paid, rfl, _⟩ := h
    rfl
  · obtain ⟨gA, pA, g, paid, rfl, hg, hpd, hg4, hgl, k⟩ := h
    refine ⟨_, pss_one (ps_ret (pe_callB (cr_sum rfl) (by rfl) T.sum boot_sum (pa_cons (pe_lc (own := [("i", 2)]) (te := tOp (rIxL K) (tVar 1) (tVar 2)) rfl scPai.nd (pi_list (pv 0)) (blkOk_by (by show blkC ["group", "paid", "i"] (defScope sPai) _ _ = true; decide +kernel)) (fun s H C cl fp => pg_name (i := 2) scPai.nd rfl (Or.inl rfl)) (fun s H C cl fp => pts_nil) (fun s H C cl fp => pe_ix ix_list (pv 1) (pv 2) (fun _ _ => rfl))) pa_nil))), ?_⟩
    refine ⟨_, rfl, gA, rfl, ⟨_, SqL.of hg⟩, fun D hD => lc_list (K := K) (a := gA) (xs := nv g) (fun i H' => H' D = some (.lst ((g.take i).map fun i => V.int ((paid.getD i 0 : Nat) : Int))) ∧ Same H H')
      ⟨upd_same, same_new hD⟩ (fun i H' _ q => SqL.of (q.2 _ _ hg)) ?_ ?_⟩
    · rintro i y H' hi ⟨h1, h2⟩
      obtain ⟨j, hj, rfl⟩ := map_at hi
      refine ⟨rfl, _, rfl, _, rfl, pA, _, _, _, rfl, rfl, SqL.of (h2 _ _ hpd), atI_nat (nv_at (hgl j (List.mem_of_getElem? hj))), _, h1, ?_, ?_, Same_upd h2 hD⟩
      · rw [List.length_map, List.length_take]
        exact Nat.lt_of_le_of_lt (Nat.min_le_right _ _) (Nat.lt_of_le_of_lt hg4 (by decide))
      · rw [upd_same, take_snoc hj, List.map_append]
        rfl
    · rintro H' ⟨h1, h2⟩
      rw [nv_len, List.take_length] at h1
      refine ⟨D, g.map fun i => ((paid.getD i 0 : Nat) : Int), rfl, SqL.of (by rw [h1, List.map_map]; rfl), ?_⟩
      rw [paid_sum]
      exact k H' h2
/-! ### groups_earliest_first -/
def spGrp : Sp := fun vs H Q _ => ∃ (n : Addr) (l : List Nat), vs = [.ref n] ∧ H n = some (.lst (nv l)) ∧ l.length ≤ 4 ∧ ∀ (H' : Hp) (p : Addr) (as : List Addr), H' p = some (.lst (as.map V.ref)) → SetsAt H' as (Sw98.subsets l) → Same H H' → Q (.ref p) H'
theorem scGrp : FnScope ["landings", "groups", "landing", "without"] ["landings"] (defScope sGrp) := ⟨rfl, rfl, rfl, by decide +kernel, rfl, by decide +kernel, by decide +kernel⟩
theorem subs_small {l : List Nat} (h : l.length ≤ 4) : (Sw98.subsets l).length ≤ 16 := by
  rw [subsets_len]
  exact Nat.pow_le_pow_right (by decide) h
theorem ok_grp {f CR : Addr} {fd : FuncData} (F : Fun K "groups_earliest_first" "groups_earliest_first" sGrp f fd) (T : Txt K mg CR) : FnOk P w K mg base CX0 1 f fd ["landings"] spGrp := by
  refine F.ok scGrp (fun vs H Q E h => ?_) (fun cdv A outer s H vs Q E hr h => ?_)
  · obtain ⟨n, l, rfl, _⟩ := h
    rfl
  · obtain ⟨n, l, rfl, hn, hl4, k⟩ := h
    refine ⟨_, pss_cons (ps_set (i := 1) scGrp.nd rfl (Or.inl rfl) (pe_lst (pa_cons (pe_lst pa_nil) pa_nil)))
      (pss_cons (ps_for PassesOwn.never rfl (pi_reversed rfl T.rev (pa_cons (pv 0) pa_nil)) (pg_name (i := 2) scGrp.nd rfl (by first | exact Or.inl rfl | exact Or.inr rfl))
        (pss_one (ps_set (i := 1) scGrp.nd rfl (Or.inl rfl) (pe_op op_cat (pv 1)
          (pe_lc (own := [("without", 3)]) (te := tOp rCat (tLst (tCons (tVar 2) tNil)) (tVar 3)) rfl scGrp.nd (pi_list (pv 1)) (blkOk_by (by show blkC ["landings", "groups", "landing", "without"] (defScope sGrp) _ _ = true; decide +kernel)) (fun s H C cl fp => pg_name (i := 3) scGrp.nd rfl (Or.inl rfl)) (fun s H C cl fp => pts_nil) (fun s H C cl fp => pe_op op_cat (pe_lst (pa_cons (pv 2) pa_nil)) (pv 3)))))))
      (pss_one (ps_ret (pv 1)))), ?_⟩
    refine ⟨Nat.zero_le _, fun l0 h0 => ⟨(by show 1 ≤ sizeLine; decide), fun p0 hp0 => ?_⟩⟩
    have n0 : l0 ≠ p0 := fun e => by subst e; rw [upd_same] at hp0; cases hp0
    have hp0' : H p0 = none := by rw [upd_ne (Ne.symm n0)] at hp0; exact hp0
    have s00 := Same_upd (o := .lst [V.ref l0]) (same_new (o := .lst []) h0) hp0'
    refine ⟨_, rfl, n, _, rfl, SqL.of (s00 _ _ hn), for_rev (K := K) (a := n) (xs := nv l) (fun i σ H' => ∃ (p : Addr) (as : List Addr) (v2 v3 : Option V), σ = [some (.ref n), some (.ref p), v2, v3] ∧ H' p = some (.lst (as.map V.ref)) ∧ SetsAt H' as (Sw98.subsets (l.drop (l.length - i))) ∧ Same H H')
      ⟨p0, [l0], none, none, rfl, upd_same, ?_, s00⟩ (fun i σ H' ⟨_, _, _, _, _, _, _, q⟩ => SqL.of (q _ _ hn)) ?_ ?_⟩
    · rw [Nat.sub_zero, List.drop_of_length_le (Nat.le_refl _)]
      exact SetsAt.one (by rw [upd_ne n0, upd_same]; rfl)
    · rintro i y σ H' hi hy ⟨p, as, v2, v3, rfl, h1, h2, h3⟩
      obtain ⟨a, ha, rfl⟩ := map_at hy
      rw [nv_len] at hi ha
      have eD : l.drop (l.length - (i + 1)) = a :: l.drop (l.length - i) := by
        rw [show l.length - (i + 1) = l.length - 1 - i by omega, drop_at ha, show l.length - 1 - i + 1 = l.length - i by omega]
      have hd4 : (l.drop (l.length - i)).length ≤ 4 := by rw [List.length_drop]; omega
      have hlen := subs_small hd4
      refine ⟨_, rfl, _, rfl, p, rfl, ⟨_, SqL.of h1⟩, fun D hD => lc_list (K := K) (a := p) (xs := as.map V.ref) (fun j H2 => ∃ bs : List Addr, H2 D = some (.lst (bs.map V.ref)) ∧ (∀ x, x ∈ bs → x ≠ D) ∧ SetsAt H2 bs (((Sw98.subsets (l.drop (l.length - i))).take j).map fun s => a :: s) ∧ Same H' H2)
        ⟨[], upd_same, (fun x h => by cases h), ⟨rfl, fun j x s a b => by simp at a⟩, same_new hD⟩ (fun j H2 _ ⟨_, _, _, _, q⟩ => SqL.of (q _ _ h1)) ?_ ?_⟩
      · rintro j y H2 hj ⟨bs, g1, g2, g3, g4⟩
        obtain ⟨x, hx, rfl⟩ := map_at hj
        obtain ⟨t, ht, hxt⟩ := h2.get hx
        have hxt2 := g4 _ _ hxt
        have htl := (subsets_mem _ _ (List.mem_of_getElem? ht)).1
        refine ⟨rfl, _, rfl, (by show 1 ≤ sizeLine; decide), fun l1 hl1 => ⟨_, rfl, l1, x, _, nv t, rfl, rfl, upd_same, (by rw [upd_ne (ne_of_none hxt2 hl1)]; exact hxt2), (by rw [nv_len]; exact Nat.le_trans (Nat.add_le_add_left (Nat.le_trans htl hd4) _) (by show 1 + 4 ≤ sizeLine; decide)), fun q hq => ?_⟩⟩
        have hql : q ≠ l1 := fun e => by subst e; rw [upd_same] at hq; cases hq
        have hq2 : H2 q = none := by rw [upd_ne hql] at hq; exact hq
        have s5 : Same H2 (upd (upd H2 l1 (.lst [V.int (a : Nat)])) q (.lst ([V.int (a : Nat)] ++ nv t))) := fun c o e => by
          rw [upd_ne (ne_of_none e hq2), upd_ne (ne_of_none e hl1)]
          exact e
        have hqD : q ≠ D := fun e => by subst e; rw [g1] at hq2; cases hq2
        refine ⟨_, s5 _ _ g1, ?_, bs ++ [q], ?_, ?_, ?_, ?_⟩
        · rw [List.length_map, g3.1, List.length_map, List.length_take]
          exact Nat.lt_of_le_of_lt (Nat.min_le_right _ _) (Nat.lt_of_le_of_lt hlen (by decide))
        · rw [upd_same, List.map_append]
          rfl
        · intro z hz
          rcases List.mem_append.mp hz with hz | hz
          · exact g2 z hz
          · rw [List.mem_singleton.mp hz]
            exact hqD
        · rw [take_snoc ht, List.map_append]
          refine SetsAt.app ((g3.same s5).upd _ g2) ?_
          refine SetsAt.one ?_
          rw [upd_ne hqD, upd_same]
          rfl
        · exact Same_upd (g4.trans s5) hD
      · rintro H2 ⟨bs, g1, g2, g3, g4⟩
        rw [List.length_map, h2.1, List.take_length] at g3
        refine ⟨p, D, _, _, rfl, rfl, g4 _ _ h1, g1, ?_, fun q hq => ?_⟩
        · rw [List.length_map, List.length_map, h2.1, g3.1, List.length_map]
          exact Nat.le_trans (Nat.add_le_add hlen hlen) (by decide)
        · have s6 : Same H2 (upd H2 q (.lst (as.map V.ref ++ bs.map V.ref))) := same_new hq
          refine ⟨q, as ++ bs, _, _, rfl, ?_, ?_, h3.trans (g4.trans s6)⟩
          · rw [upd_same, List.map_append]
          · rw [eD, subsets_cons]
            exact SetsAt.app (h2.same (g4.trans s6)) (g3.same s6)
    · rintro σ H' ⟨p, as, v2, v3, rfl, h1, h2, h3⟩
      rw [nv_len, Nat.sub_self, List.drop_zero] at h2
      exact ⟨_, rfl, k H' p as h1 h2 h3⟩
end
end Fr
set_option Elab.async false
set_option linter.all false
set_option maxRecDepth 100000
set_option maxHeartbeats 2000000
namespace Fr
open PySem PySem.Spec PyProof.Rows L2
open PySem.W (Codec)
abbrev sBst : Stmt := inClass (top 16) 4
abbrev sChe : Stmt := inClass (top 16) 5
abbrev sAlo : Stmt := inClass (top 16) 6
theorem gStep_are (roads : List Sw98.Road) (ls : List Nat) : gStep (bsOf roads ls.length) ls = chStep roads ls := by
  funext h s
  unfold gStep chStep setCost bsOf
  rfl
theorem gFold_are (roads : List Sw98.Road) (ls : List Nat) : (sets roads.length).foldl (gStep (bsOf roads ls.length) ls) ⟨none, 0, []⟩ = cheapest roads ls := by
  rw [gStep_are]
  rfl
theorem marks_bs (roads : List Sw98.Road) (p : Nat) (s : List Nat) : p = (bsOf roads p s).marks.length := (marks_len _ _).symm
theorem no_field {fs : List (Str × V)} (l3 : ∀ g : Str, g ≠ "loads" → g ≠ "roads" → fs.lookup g = none) (g : Str) (h1 : g ≠ "loads" := by decide +kernel) (h2 : g ≠ "roads" := by decide +kernel) : fs.lookup g = none := l3 g h1 h2
section
variable {P : Program} {w : World} {K : PySem.W.Frag} {mg : Str → Option Value} {base : Heap}
/-- what a call with lists promises -/
def spL (CR CF CA : Addr) (c : Sw98.Call) (vs : List V) (H : Hp) (x : Addr) (Q : VK) : Prop := ∃ (lA rA : Addr) (f : Sw98.Forest), FA CR CF H x lA rA f ∧ ∀ (H' : Hp) (y : Addr), AnsAt CA H' y (Sw98.step f c).2 → FitsA (Sw98.step f c).2 → Same H H' → Q (.ref y) H'
/-! ### best -/
def spBst (CR CF CA : Addr) : Sp := fun vs H Q _ => ∃ (x lA rA : Addr) (f : Sw98.Forest), vs = [.ref x] ∧ FA CR CF H x lA rA f ∧ ∀ (H' : Hp) (y : Addr), AnsAt CA H' y (Sw98.step f .best).2 → FitsA (Sw98.step f .best).2 → Same H H' → Q (.ref y) H'
theorem scBst : FnScope ["self", "cheapest", "lowest"] ["self"] (defScope sBst) := ⟨rfl, rfl, rfl, by decide +kernel, rfl, by decide +kernel, by decide +kernel⟩
theorem ok_bst {f CR CF CC CB CA fC fE fR fI : Addr} {fd fdC fdE fdR fdI : FuncData} (F : Fun K "best" "Forest.best" sBst f fd) (T : TxtF K mg CR CF) (TC : TxtC K mg CC) (TB : TxtB K mg CB) (TA : TxtA K mg CA)
    (GC : FnOk P w K mg base CX0 3 fC fdC ["loads", "sets"] (spChf CC CB)) (kC : PySem.W.keepIn K (.ref fC) = true) (bC : Binds K fdC ["loads", "sets"] []) (mC : mg "cheapest_for" = some (.ref fC))
    (GE : FnOk P w K mg base CX0 5 fE fdE ["self"] (spEvs CR CF CB)) (bE : Binds K fdE ["self"] []) (mE : Meth K CF "every_set" fE)
    (GR : FnOk P w K mg base CX0 3 fR fdR ["number"] (spRef CA)) (kR : PySem.W.keepIn K (.ref fR) = true) (bR : Binds K fdR ["number"] []) (mR : mg "refusal" = some (.ref fR))
    (M : Mk K CA fI) (GI : FnOk P w K mg base CX0 1 fI fdI ["self", "number", "rows"] (spAnI CA)) (bI : Binds K fdI ["self", "number", "rows"] []) :
    FnOk P w K mg base CX0 6 f fd ["self"] (spBst CR CF CA) := by
  refine F.ok scBst (fun vs H Q E h => ?_) (fun cdv A outer s H vs Q E hr h => ?_)
  · obtain ⟨x, lA, rA, f, rfl, _⟩ := h
    rfl
  · obtain ⟨x, lA, rA, f, rfl, hF, k⟩ := h
    obtain ⟨dx, fs, as, hx, hlen, l1, l2, l3, h1, h2, h3⟩ := hF.ex
    obtain ⟨t1, m1⟩ := T.joined
    have hr3 : Room 3 _ := hr.mono (by decide)
    have hr2 : Room 2 _ := hr.mono (by decide)
    refine ⟨_, pss_cons (ps_set (i := 1) scBst.nd rfl (Or.inl rfl) (pe_call GC hr3 rfl mC kC bC .nil pass0 (pa_cons (pe_fld (pv 0) rfl) (pa_cons (pe_meth0 (pv 0) T.cl mE GE hr bE .nil pass0) pa_nil))))
      (pss_cons (ps_if (pt_cmp (pc_isN (pe_fld (pv 1) rfl))) (pss_one (ps_ret (pe_call GR hr3 rfl mR kR bR .nil pass0 (pa_cons (pe_glob (v := .int (-6)) (by rfl) m1 ⟨_, rfl⟩) pa_nil)))) pss_nil)
      (pss_cons (ps_set (i := 2) scBst.nd rfl (Or.inl rfl) (pe_fld (pv 1) rfl))
      (pss_one (ps_ret (pe_make M GI hr2 rfl TA.mgA bI .nil pass0 (pa_cons (pe_fld (pv 1) rfl) (pa_cons (pe_lst (pa_cons (pe_lst (pa_cons (pe_fld (pv 1) rfl) (pa_cons (pe_fld (pv 2) rfl) pa_nil))) (pa_cons (pe_fld (pv 2) rfl) (pa_cons (pe_fld (pv 2) rfl) pa_nil)))) pa_nil))))))), ?_⟩
    refine ⟨_, rfl, x, CF, dx, fs, _, rfl, hx, T.cl, T.nLo, l1, _, rfl, x, dx, fs, rfl, hx, no_field l3 "every_set", x, lA, rA, f, rfl, hF, fun H1 p ps hp1 hB s1 => ?_⟩
    refine ⟨lA, p, ps, _, _, f.loads, rfl, s1 _ _ h1, hp1, hB, (fun s _ => marks_bs _ _ _), hF.ok.loads, fun H2 c hc s2 => ?_⟩
    rw [gFold_are, best_are hF.ok.toOk] at hc
    obtain ⟨dc, cs, v, hcx, cl3, cc, cm, clo, _, _, hv⟩ := hc.ex
    have s12 := s1.trans s2
    refine ⟨_, rfl, c, CC, dc, cs, _, rfl, hcx, TC.cl, TC.nCo, cc, _, rfl, ?_⟩
    cases eb : f.best with
    | none =>
      have es : Sw98.step f .best = (f, Sw98.ok (-6)) := by
        show (f, match f.best with
          | some b => _
          | none => Sw98.ok (-6)) = _
        rw [eb]
      refine iteT ⟨-6, rfl, fun H3 y a3 s3 => ?_⟩
      exact k H3 y (by rw [es]; exact a3) (by rw [es]; exact fits_ok _) (s12.trans s3)
    | some b =>
      rw [eb] at cc cm hv
      obtain ⟨y, rfl, By⟩ := hv b.cost rfl
      obtain ⟨dy, fy, nA, mA, y1, y2, y3, y4, y5, y6, y7⟩ := By.ex
      have es : Sw98.step f .best = (f, ⟨(b.cost : Nat), [[b.many, f.build b.roads], Sw98.members f.roads.length b.roads, f.waysOut b.roads]⟩) := by
        show (f, match f.best with
          | some b => _
          | none => Sw98.ok (-6)) = _
        rw [eb]
      have hml := members_len f.roads.length b.roads
      have hf9 := hF.ok.few
      refine iteF ⟨_, rfl, c, CC, dc, cs, _, rfl, hcx, TC.cl, TC.nLo, clo, ?_⟩
      refine ⟨_, rfl, c, CC, dc, cs, _, rfl, hcx, TC.cl, TC.nCo, cc, ?_⟩
      refine ⟨_, rfl, c, CC, dc, cs, _, rfl, hcx, TC.cl, TC.nHm, cm, _, rfl, y, CB, dy, fy, _, rfl, y1, TB.cl, TB.nBu, y3, (by show 2 ≤ sizeLine; decide), fun q hq => ?_⟩
      have s3 : Same H2 (upd H2 q (.lst [V.int (b.many : Nat), V.int (bsum (pick f.roads (Sw98.members f.roads.length b.roads)) : Nat)])) := same_new hq
      have q3 : (upd H2 q (.lst [V.int (b.many : Nat), V.int (bsum (pick f.roads (Sw98.members f.roads.length b.roads)) : Nat)])) q = some (.lst [V.int (b.many : Nat), V.int (bsum (pick f.roads (Sw98.members f.roads.length b.roads)) : Nat)]) := upd_same
      refine ⟨_, rfl, y, CB, dy, fy, _, rfl, s3 _ _ y1, TB.cl, TB.nNu, y2, _, rfl, y, CB, dy, fy, _, rfl, s3 _ _ y1, TB.cl, TB.nMa, y4, (by show 3 ≤ sizeLine; decide), fun l hl z dz hz hdz hne => ?_⟩
      have hly : l ≠ z := ne_of_none upd_same hz
      have hldy : l ≠ dz := ne_of_none upd_same hdz
      have s6 : Same (upd H2 q (.lst [V.int (b.many : Nat), V.int (bsum (pick f.roads (Sw98.members f.roads.length b.roads)) : Nat)])) (upd (upd (upd (upd H2 q (.lst [V.int (b.many : Nat), V.int (bsum (pick f.roads (Sw98.members f.roads.length b.roads)) : Nat)])) l (.lst [V.ref q, V.ref nA, V.ref mA])) dz (.own z)) z (.ins CA dz [])) := fun c o e => by
        have e1 := same_new (o := .lst [V.ref q, V.ref nA, V.ref mA]) hl c o e
        rw [upd_ne (ne_of_none e1 hz), upd_ne (ne_of_none e1 hdz)]
        exact e1
      have eW : nv (marks (pick f.roads (Sw98.members f.roads.length b.roads)) f.loads.length) = nv (f.waysOut b.roads) := by rw [waysOut_are hF.ok.toOk, hF.ok.len, built_are]
      have eB : f.build b.roads = bsum (pick f.roads (Sw98.members f.roads.length b.roads)) := by
        rw [← built_are]
        exact bsum_are _
      refine ⟨z, dz, l, [q, nA, mA], ⟨(b.cost : Nat), [[b.many, f.build b.roads], Sw98.members f.roads.length b.roads, f.waysOut b.roads]⟩, rfl, upd_same, (by rw [upd_ne hly, upd_ne hldy, upd_same]; rfl), ?_, fun H6 a6 b6 => ⟨rfl, ?_⟩⟩
      · have key : ∀ HH : Hp, HH q = some (.lst [V.int (b.many : Nat), V.int (bsum (pick f.roads (Sw98.members f.roads.length b.roads)) : Nat)]) → HH nA = some (.lst (nv (Sw98.members f.roads.length b.roads))) → HH mA = some (.lst (nv (marks (pick f.roads (Sw98.members f.roads.length b.roads)) f.loads.length))) → SetsAt HH [q, nA, mA] [[b.many, f.build b.roads], Sw98.members f.roads.length b.roads, f.waysOut b.roads] := fun HH c1 c2 c3 => by
          have A1 : SetsAt HH [q] [[b.many, f.build b.roads]] := SetsAt.one (by rw [eB]; exact c1)
          have A2 : SetsAt HH [nA] [Sw98.members f.roads.length b.roads] := SetsAt.one c2
          have A3 : SetsAt HH [mA] [f.waysOut b.roads] := SetsAt.one (by rw [← eW]; exact c3)
          exact (A1.app A2).app A3
        exact key _ (s6 _ _ q3) (s6 _ _ (s3 _ _ y5)) (s6 _ _ (s3 _ _ y6))
      · have s7 : Same H H6 := s12.trans (s3.trans ((same_new hl).trans (Same.made hz hdz b6)))
        refine k H6 z (by rw [es]; exact a6) ?_ s7
        rw [es]
        refine ⟨Nat.le_refl _, fun r hr => ?_⟩
        rcases List.mem_cons.mp hr with rfl | hr
        · show 2 ≤ 20
          decide
        · rcases List.mem_cons.mp hr with rfl | hr
          · omega
          · have : r = f.waysOut b.roads := List.mem_singleton.mp hr
            rw [this, waysOut_are hF.ok.toOk, marks_len]
            have := hF.ok.small
            omega
/-! ### check -/
def spChe (CR CF CA : Addr) : Sp := fun vs H Q _ => ∃ (x lA rA n : Addr) (f : Sw98.Forest) (l : List Nat), vs = [.ref x, .ref n] ∧ FA CR CF H x lA rA f ∧ H n = some (.lst (nv l)) ∧ l.length ≤ 20 ∧ ∀ (H' : Hp) (y : Addr), AnsAt CA H' y (Sw98.step f (.check l)).2 → FitsA (Sw98.step f (.check l)).2 → Same H H' → Q (.ref y) H'
theorem scChe : FnScope ["self", "numbers", "built", "cost", "number"] ["self", "numbers"] (defScope sChe) := ⟨rfl, rfl, rfl, by decide +kernel, rfl, by decide +kernel, by decide +kernel⟩
theorem all_map_id (l : List Nat) (p : Nat → Bool) : (l.map p).all id = l.all p := by
  rw [List.all_map]
  rfl
theorem bnot_f {b : Bool} (e : (!b) = true) : b = false := by cases b <;> simp_all
theorem bnot_t {b : Bool} (e : ¬ (!b) = true) : b = true := by cases b <;> simp_all
theorem ok_che {f CR CF CB CA fW fU fR fI fV : Addr} {fd fdW fdU fdR fdI fdV : FuncData} (F : Fun K "check" "Forest.check" sChe f fd) (T : TxtF K mg CR CF) (T0 : Txt K mg CR) (TB : TxtB K mg CB) (TA : TxtA K mg CA)
    (GV : FnOk P w K mg base CX0 1 fV fdV ["numbers"] spRis) (kV : PySem.W.keepIn K (.ref fV) = true) (bV : Binds K fdV ["numbers"] []) (mV : mg "rise" = some (.ref fV))
    (MB : Mk K CB fU) (GU : FnOk P w K mg base CX0 3 fU fdU ["self", "numbers", "roads", "places"] (spBuI CR CB)) (bU : Binds K fdU ["self", "numbers", "roads", "places"] [])
    (GW : FnOk P w K mg base CX0 1 fW fdW ["self", "loads"] (spCw CB)) (bW : Binds K fdW ["self", "loads"] []) (mW : Meth K CB "cost_with" fW)
    (GR : FnOk P w K mg base CX0 3 fR fdR ["number"] (spRef CA)) (kR : PySem.W.keepIn K (.ref fR) = true) (bR : Binds K fdR ["number"] []) (mR : mg "refusal" = some (.ref fR))
    (M : Mk K CA fI) (GI : FnOk P w K mg base CX0 1 fI fdI ["self", "number", "rows"] (spAnI CA)) (bI : Binds K fdI ["self", "number", "rows"] []) :
    FnOk P w K mg base CX0 5 f fd ["self", "numbers"] (spChe CR CF CA) := by
  refine F.ok scChe (fun vs H Q E h => ?_) (fun cdv A outer s H vs Q E hr h => ?_)
  · obtain ⟨x, lA, rA, n, f, l, rfl, _⟩ := h
    rfl
  · obtain ⟨x, lA, rA, n, f, l, rfl, hF, hn, hl20, k⟩ := h
    obtain ⟨dx, fs, as, hx, hlen, l1, l2, l3, h1, h2, h3⟩ := hF.ex
    obtain ⟨t1, m1⟩ := T.joined
    obtain ⟨t2, m2⟩ := T.noSuch
    have hr3 : Room 3 _ := hr.mono (by decide)
    have hr2 : Room 2 _ := hr.mono (by decide)
    have hr1 : Room 1 _ := hr.mono (by decide)
    refine ⟨_, pss_cons (ps_if (pw_or (pt_not (pt_val (pe_call GV hr1 (by rfl) mV kV bV .nil pass0 (pa_cons (pv 1) pa_nil)))) (pw_or1 (pt_not (pt_val (pe_callB (cr_all rfl) (by rfl) T0.all boot_all (pa_cons
        (pe_lc (own := [("number", 4)]) (te := tOp (rI0 fun i j => .bl (decide (i < j))) (tVar 4) (tCB (rLen K) (tCons (tFld K (tVar 0) "roads") tNil))) rfl scChe.nd (pi_list (pv 1)) (blkOk_by (by show blkC ["self", "numbers", "built", "cost", "number"] (defScope sChe) _ _ = true; decide +kernel)) (fun s H C cl fp => pg_name (i := 4) scChe.nd rfl (Or.inl rfl)) (fun s H C cl fp => pts_nil)
          (fun s H C cl fp => pe_cmpR op_lt (pv 4) (pe_callB call_len_seq (by rfl) T0.len PySem.boot_len (pa_cons (pe_fld (pv 0) rfl) pa_nil)) (nobehind _ (by decide) (by decide)))) pa_nil)))))).pt
        (pss_one (ps_ret (pe_call GR hr3 rfl mR kR bR .nil pass0 (pa_cons (pe_glob (v := .int (-2)) (by rfl) m2 ⟨_, rfl⟩) pa_nil)))) pss_nil)
      (pss_cons (ps_set (i := 2) scChe.nd rfl (Or.inl rfl) (pe_make MB GU hr rfl TB.mgB bU .nil pass0 (pa_cons (pv 1) (pa_cons (pe_fld (pv 0) rfl) (pa_cons (pe_callB call_len_seq (by rfl) T0.len PySem.boot_len (pa_cons (pe_fld (pv 0) rfl) pa_nil)) pa_nil)))))
      (pss_cons (ps_set (i := 3) scChe.nd rfl (Or.inl rfl) (pe_meth (pv 2) TB.cl mW GW hr1 bW .nil pass0 (pa_cons (pe_fld (pv 0) rfl) pa_nil)))
      (pss_cons (ps_if (pt_cmp (pc_isN (pv 3))) (pss_one (ps_ret (pe_call GR hr3 rfl mR kR bR .nil pass0 (pa_cons (pe_glob (v := .int (-6)) (by rfl) m1 ⟨_, rfl⟩) pa_nil)))) pss_nil)
      (pss_one (ps_ret (pe_make M GI hr2 rfl TA.mgA bI .nil pass0 (pa_cons (pv 3) (pa_cons (pe_lst (pa_cons (pe_lst (pa_cons (pe_fld (pv 2) rfl) pa_nil)) (pa_cons (pe_fld (pv 2) rfl) pa_nil))) pa_nil)))))))), ?_⟩
    have no2 : (Sw98.rising l && l.all fun i => decide (i < f.roads.length)) = false → ∀ H2 y, AnsAt CA H2 y (Sw98.ok (-2)) → Same H H2 → Q (.ref y) H2 := fun e H2 y a2 s2 => by
      have es : Sw98.step f (.check l) = (f, Sw98.ok (-2)) := if_pos e
      exact k H2 y (by rw [es]; exact a2) (by rw [es]; exact fits_ok _) s2
    refine ⟨_, rfl, n, l, rfl, hn, hl20, fun H1 s1 => ⟨_, rfl, ite2 (fun e => ?_) (fun e => ?_)⟩⟩
    · have e := bnot_f e
      refine iteT ⟨-2, rfl, fun H3 y a3 s3 => no2 (by rw [e]; rfl) H3 y a3 (s1.trans s3)⟩
    have e1 := bnot_t e
    refine ⟨_, rfl, n, rfl, ⟨_, SqL.of (s1 _ _ hn)⟩, fun D hD => lc_list (K := K) (a := n) (xs := nv l) (fun i H' => H' D = some (.lst ((((l.map fun i => decide (i < f.roads.length))).take i).map V.bl)) ∧ Same H1 H')
      ⟨upd_same, same_new hD⟩ (fun i H' _ q => SqL.of (q.2 _ _ (s1 _ _ hn))) ?_ ?_⟩
    · rintro i y H' hi ⟨g1, g2⟩
      obtain ⟨j, hj, rfl⟩ := map_at hi
      have s12 := s1.trans g2
      have ej : (l.map fun i => decide (i < f.roads.length))[i]? = some (decide (j < f.roads.length)) := by
        rw [List.getElem?_map, hj]
        rfl
      refine ⟨rfl, _, rfl, _, rfl, x, CF, dx, fs, _, rfl, s12 _ _ hx, T.cl, T.nRo, l2, rA, _, rfl, .inl (SqL.of (s12 _ _ h2)), _, _, rfl, rfl, _, g1, ?_, ?_, Same_upd g2 hD⟩
      · rw [List.length_map, List.length_take, List.length_map]
        exact Nat.lt_of_le_of_lt (Nat.min_le_right _ _) (Nat.lt_of_le_of_lt hl20 (by decide))
      · rw [upd_same, take_snoc ej, bl_snoc, List.length_map, h3.1, ← ltV]
    rintro H2 ⟨g1, g2⟩
    rw [nv_len, ← List.length_map (as := l) (fun i => decide (i < f.roads.length)), List.take_length] at g1
    have s12 := s1.trans g2
    refine ⟨D, _, rfl, SqL.of g1, _, rfl, ?_⟩
    rw [all_map_id]
    refine ite2 (fun e => ?_) (fun e => ?_)
    · have e := bnot_f e
      exact ⟨-2, rfl, fun H3 y a3 s3 => no2 (by rw [e, Bool.and_false]) H3 y a3 (s12.trans s3)⟩
    have e2 := bnot_t e
    have hlt : ∀ i, i ∈ l → i < f.roads.length := fun i hi => of_decide_eq_true (List.all_eq_true.mp e2 i hi)
    have ef : Ends f.roads f.loads.length := by rw [hF.ok.len]; exact hF.ok.ends
    have hp : 0 < f.loads.length := by rw [hF.ok.len]; exact hF.ok.pos
    have hp7 : f.loads.length ≤ 7 := by rw [hF.ok.len]; exact hF.ok.small
    refine ⟨_, rfl, _, rfl, x, CF, dx, fs, _, rfl, s12 _ _ hx, T.cl, T.nRo, l2, _, rfl, x, CF, dx, fs, _, rfl, s12 _ _ hx, T.cl, T.nLo, l1, lA, _, rfl, .inl (SqL.of (s12 _ _ h1)), ?_⟩
    intro q dq hq hdq hne
    have s4 : Same H2 (upd (upd H2 dq (.own q)) q (.ins CB dq [])) := fun c o e => by
      rw [upd_ne (ne_of_none e hq), upd_ne (ne_of_none e hdq)]
      exact e
    refine ⟨q, dq, n, rA, as, f.roads, l, f.loads.length, (by rw [nv_len]; rfl), upd_same, s4 _ _ (s12 _ _ hn), s4 _ _ (s12 _ _ h2), (h3.same s12).same s4, hl20, hlt, ef, hp, hp7, fun H4 B4 b4 => ⟨rfl, ?_⟩⟩
    have s5 : Same H2 H4 := Same.made hq hdq b4
    have Bq := (B4 q _ upd_same (ne_of (s12 _ _ hn |> s4 _ _) upd_same (by intro z; cases z))).at_
    obtain ⟨d', fq, nA, mA, q1, q2, q3, q4, q5, q6, q7⟩ := Bq.ex
    have s14 := s12.trans s5
    refine ⟨_, rfl, q, d', fq, rfl, q1, q7, _, rfl, x, CF, dx, fs, _, rfl, s14 _ _ hx, T.cl, T.nLo, l1, q, lA, _, f.loads, rfl, Bq, s14 _ _ h1, marks_bs _ _ _, hF.ok.loads, fun H5 s5' => ?_⟩
    have s15 := s14.trans s5'
    have ec : f.cost (Sw98.bitsOf l) = setCost (pick f.roads l) f.loads := by rw [cost_are hF.ok.toOk, built_bits e1 hlt]
    have es0 : Sw98.step f (.check l) = (f, match f.cost (Sw98.bitsOf l) with
      | some c => ⟨(c : Nat), [[f.build (Sw98.bitsOf l)], f.waysOut (Sw98.bitsOf l)]⟩
      | none => Sw98.ok (-6)) := if_neg (by rw [e1, e2]; decide)
    show ∃ v, _ ∧ _
    cases ek : costs (f.loads.zip (bsOf f.roads f.loads.length l).marks) (bsOf f.roads f.loads.length l).build with
    | none =>
      have ec2 : f.cost (Sw98.bitsOf l) = none := ec.trans ek
      have es : Sw98.step f (.check l) = (f, Sw98.ok (-6)) := by rw [es0, ec2]
      refine ⟨_, rfl, _, rfl, iteT ⟨-6, rfl, fun H6 y a6 s6 => ?_⟩⟩
      exact k H6 y (by rw [es]; exact a6) (by rw [es]; exact fits_ok _) (s15.trans s6)
    | some c =>
      have ec2 : f.cost (Sw98.bitsOf l) = some c := ec.trans ek
      have es : Sw98.step f (.check l) = (f, ⟨(c : Nat), [[f.build (Sw98.bitsOf l)], f.waysOut (Sw98.bitsOf l)]⟩) := by rw [es0, ec2]
      refine ⟨_, rfl, _, rfl, iteF ⟨_, rfl, _, rfl, q, CB, d', fq, _, rfl, s5' _ _ q1, TB.cl, TB.nBu, q3, (by show 1 ≤ sizeLine; decide), fun u hu => ?_⟩⟩
      have s6 : Same H5 (upd H5 u (.lst [V.int ((bsOf f.roads f.loads.length l).build : Nat)])) := same_new hu
      have u6 : (upd H5 u (.lst [V.int ((bsOf f.roads f.loads.length l).build : Nat)])) u = some (.lst [V.int ((bsOf f.roads f.loads.length l).build : Nat)]) := upd_same
      revert s6 u6
      generalize upd H5 u (.lst [V.int ((bsOf f.roads f.loads.length l).build : Nat)]) = H6
      intro s6 u6
      refine ⟨_, rfl, q, CB, d', fq, _, rfl, s6 _ _ (s5' _ _ q1), TB.cl, TB.nMa, q4, (by show 2 ≤ sizeLine; decide), fun r hr z dz hz hdz hne => ?_⟩
      have hly : r ≠ z := ne_of_none upd_same hz
      have hldy : r ≠ dz := ne_of_none upd_same hdz
      have s7 : Same H6 (upd (upd (upd H6 r (.lst [V.ref u, V.ref mA])) dz (.own z)) z (.ins CA dz [])) := fun c o e => by
        have e1 := same_new (o := .lst [V.ref u, V.ref mA]) hr c o e
        rw [upd_ne (ne_of_none e1 hz), upd_ne (ne_of_none e1 hdz)]
        exact e1
      have eW : f.waysOut (Sw98.bitsOf l) = (bsOf f.roads f.loads.length l).marks := by
        rw [waysOut_are hF.ok.toOk, ← hF.ok.len, built_bits e1 hlt]
        rfl
      have eB : f.build (Sw98.bitsOf l) = (bsOf f.roads f.loads.length l).build := by
        show _ = bsum (pick f.roads l)
        rw [← built_bits e1 hlt]
        exact bsum_are _
      refine ⟨z, dz, r, [u, mA], ⟨(c : Nat), [[f.build (Sw98.bitsOf l)], f.waysOut (Sw98.bitsOf l)]⟩, rfl, upd_same, (by rw [upd_ne hly, upd_ne hldy, upd_same]; rfl), ?_, fun H8 a8 b8 => ⟨rfl, ?_⟩⟩
      · have key : ∀ HH : Hp, HH u = some (.lst [V.int ((bsOf f.roads f.loads.length l).build : Nat)]) → HH mA = some (.lst (nv (bsOf f.roads f.loads.length l).marks)) → SetsAt HH [u, mA] [[f.build (Sw98.bitsOf l)], f.waysOut (Sw98.bitsOf l)] := fun HH c1 c2 => by
          have A1 : SetsAt HH [u] [[f.build (Sw98.bitsOf l)]] := SetsAt.one (by rw [eB]; exact c1)
          have A2 : SetsAt HH [mA] [f.waysOut (Sw98.bitsOf l)] := SetsAt.one (by rw [eW]; exact c2)
          exact A1.app A2
        exact key _ (s7 _ _ u6) (s7 _ _ (s6 _ _ (s5' _ _ q6)))
      · refine k H8 z (by rw [es]; exact a8) ?_ (s15.trans (s6.trans ((same_new hr).trans (Same.made hz hdz b8))))
        rw [es]
        refine ⟨by show 2 ≤ 3; decide, fun r hr => ?_⟩
        rcases List.mem_cons.mp hr with rfl | hr
        · show 1 ≤ 20
          decide
        · have : r = f.waysOut (Sw98.bitsOf l) := List.mem_singleton.mp hr
          rw [this, waysOut_are hF.ok.toOk, marks_len]
          have := hF.ok.small
          omega
/-! ### alone -/
def spAlo (CR CF CA : Addr) : Sp := fun vs H Q _ => ∃ (x lA rA n : Addr) (f : Sw98.Forest) (l : List Nat), vs = [.ref x, .ref n] ∧ FA CR CF H x lA rA f ∧ H n = some (.lst (nv l)) ∧ l.length ≤ 20 ∧ ∀ (H' : Hp) (y : Addr), AnsAt CA H' y (Sw98.step f (.alone l)).2 → FitsA (Sw98.step f (.alone l)).2 → Same H H' → Q (.ref y) H'
theorem scAlo : FnScope ["self", "group", "landings", "cheapest", "i"] ["self", "group"] (defScope sAlo) := ⟨rfl, rfl, rfl, by decide +kernel, rfl, by decide +kernel, by decide +kernel⟩
theorem ok_alo {f CR CF CC CB CA fC fE fG fL fR fI fV : Addr} {fd fdC fdE fdG fdL fdR fdI fdV : FuncData} (F : Fun K "alone" "Forest.alone" sAlo f fd) (T : TxtF K mg CR CF) (T0 : Txt K mg CR) (TC : TxtC K mg CC) (TB : TxtB K mg CB) (TA : TxtA K mg CA)
    (GV : FnOk P w K mg base CX0 1 fV fdV ["numbers"] spRis) (kV : PySem.W.keepIn K (.ref fV) = true) (bV : Binds K fdV ["numbers"] []) (mV : mg "rise" = some (.ref fV))
    (GL : FnOk P w K mg base CX0 1 fL fdL ["self"] (spLan CR CF)) (bL : Binds K fdL ["self"] []) (mL : Meth K CF "landings" fL)
    (GG : FnOk P w K mg base CX0 1 fG fdG ["self", "group"] (spLfr CR CF)) (bG : Binds K fdG ["self", "group"] []) (mG : Meth K CF "loads_from" fG)
    (GC : FnOk P w K mg base CX0 3 fC fdC ["loads", "sets"] (spChf CC CB)) (kC : PySem.W.keepIn K (.ref fC) = true) (bC : Binds K fdC ["loads", "sets"] []) (mC : mg "cheapest_for" = some (.ref fC))
    (GE : FnOk P w K mg base CX0 5 fE fdE ["self"] (spEvs CR CF CB)) (bE : Binds K fdE ["self"] []) (mE : Meth K CF "every_set" fE)
    (GR : FnOk P w K mg base CX0 3 fR fdR ["number"] (spRef CA)) (kR : PySem.W.keepIn K (.ref fR) = true) (bR : Binds K fdR ["number"] []) (mR : mg "refusal" = some (.ref fR))
    (M : Mk K CA fI) (GI : FnOk P w K mg base CX0 1 fI fdI ["self", "number", "rows"] (spAnI CA)) (bI : Binds K fdI ["self", "number", "rows"] []) :
    FnOk P w K mg base CX0 6 f fd ["self", "group"] (spAlo CR CF CA) := by
  refine F.ok scAlo (fun vs H Q E h => ?_) (fun cdv A outer s H vs Q E hr h => ?_)
  · obtain ⟨x, lA, rA, n, f, l, rfl, _⟩ := h
    rfl
  · obtain ⟨x, lA, rA, n, f, l, rfl, hF, hn, hl20, k⟩ := h
    obtain ⟨dx, fs, as, hx, hlen, l1, l2, l3, h1, h2, h3⟩ := hF.ex
    obtain ⟨t1, m1⟩ := T.joined
    obtain ⟨t2, m2⟩ := T.noSuch
    have hr3 : Room 3 _ := hr.mono (by decide)
    have hr2 : Room 2 _ := hr.mono (by decide)
    have hr1 : Room 1 _ := hr.mono (by decide)
    refine ⟨_, pss_cons (ps_set (i := 2) scAlo.nd rfl (by first | exact Or.inl rfl | exact Or.inr rfl) (pe_meth0 (pv 0) T.cl mL GL hr1 bL .nil pass0))
      (pss_cons (ps_if (pw_or (pt_not (pt_val (pe_call GV hr1 (by rfl) mV kV bV .nil pass0 (pa_cons (pv 1) pa_nil)))) (pw_or1 (pt_not (pt_val (pe_callB (cr_all rfl) (by rfl) T0.all boot_all (pa_cons
        (pe_lc (own := [("i", 4)]) (te := tOp (rIn K false) (tVar 4) (tVar 2)) rfl scAlo.nd (pi_list (pv 1)) (blkOk_by (by show blkC ["self", "group", "landings", "cheapest", "i"] (defScope sAlo) _ _ = true; decide +kernel)) (fun s H C cl fp => pg_name (i := 4) scAlo.nd rfl (Or.inl rfl)) (fun s H C cl fp => pts_nil)
          (fun s H C cl fp => pe_cmpR op_in_seq (pv 4) (pv 2) rfl)) pa_nil)))))).pt
        (pss_one (ps_ret (pe_call GR hr3 rfl mR kR bR .nil pass0 (pa_cons (pe_glob (v := .int (-2)) (by rfl) m2 ⟨_, rfl⟩) pa_nil)))) pss_nil)
      (pss_cons (ps_set (i := 3) scAlo.nd rfl (Or.inl rfl) (pe_call GC hr3 rfl mC kC bC .nil pass0 (pa_cons (pe_meth (pv 0) T.cl mG GG hr1 bG .nil pass0 (pa_cons (pv 1) pa_nil)) (pa_cons (pe_meth0 (pv 0) T.cl mE GE hr bE .nil pass0) pa_nil))))
      (pss_cons (ps_if (pt_cmp (pc_isN (pe_fld (pv 3) rfl))) (pss_one (ps_ret (pe_call GR hr3 rfl mR kR bR .nil pass0 (pa_cons (pe_glob (v := .int (-6)) (by rfl) m1 ⟨_, rfl⟩) pa_nil)))) pss_nil)
      (pss_one (ps_ret (pe_make M GI hr2 rfl TA.mgA bI .nil pass0 (pa_cons (pe_fld (pv 3) rfl) (pa_cons (pe_lst (pa_cons (pe_fld (pe_fld (pv 3) rfl) rfl) pa_nil)) pa_nil)))))))), ?_⟩
    have no2 : (Sw98.rising l && l.all fun i => f.landings.contains i) = false → ∀ H2 y, AnsAt CA H2 y (Sw98.ok (-2)) → Same H H2 → Q (.ref y) H2 := fun e H2 y a2 s2 => by
      have es : Sw98.step f (.alone l) = (f, Sw98.ok (-2)) := if_pos e
      exact k H2 y (by rw [es]; exact a2) (by rw [es]; exact fits_ok _) s2
    refine ⟨_, rfl, x, dx, fs, rfl, hx, no_field l3 "landings", x, lA, rA, f, rfl, hF, fun H0 lan hlan s0 => ?_⟩
    refine ⟨_, rfl, n, l, rfl, s0 _ _ hn, hl20, fun H1 s1' => ⟨_, rfl, ite2 (fun e => ?_) (fun e => ?_)⟩⟩
    · have e := bnot_f e
      refine iteT ⟨-2, rfl, fun H3 y a3 s3 => no2 (by rw [e]; rfl) H3 y a3 ((s0.trans s1').trans s3)⟩
    have s1 := s0.trans s1'
    have e1 := bnot_t e
    refine ⟨_, rfl, n, rfl, ⟨_, SqL.of (s1 _ _ hn)⟩, fun D hD => lc_list (K := K) (a := n) (xs := nv l) (fun i H' => H' D = some (.lst ((((l.map fun i => f.landings.contains i)).take i).map V.bl)) ∧ Same H1 H')
      ⟨upd_same, same_new hD⟩ (fun i H' _ q => SqL.of (q.2 _ _ (s1 _ _ hn))) ?_ ?_⟩
    · rintro i y H' hi ⟨g1, g2⟩
      obtain ⟨j, hj, rfl⟩ := map_at hi
      have ej : (l.map fun i => f.landings.contains i)[i]? = some (f.landings.contains j) := by
        rw [List.getElem?_map, hj]
        rfl
      refine ⟨rfl, _, rfl, _, rfl, lan, _, rfl, .inl (SqL.of (g2 _ _ (s1' _ _ hlan))), rfl, flat_nv _, _, g1, ?_, ?_, Same_upd g2 hD⟩
      · rw [List.length_map, List.length_take, List.length_map]
        exact Nat.lt_of_le_of_lt (Nat.min_le_right _ _) (Nat.lt_of_le_of_lt hl20 (by decide))
      · rw [upd_same, take_snoc ej, bl_snoc, ← inV_nv]
        rfl
    rintro H2 ⟨g1, g2⟩
    rw [nv_len, ← List.length_map (as := l) (fun i => f.landings.contains i), List.take_length] at g1
    have s12 := s1.trans g2
    refine ⟨D, _, rfl, SqL.of g1, _, rfl, ?_⟩
    rw [all_map_id]
    refine ite2 (fun e => ?_) (fun e => ?_)
    · have e := bnot_f e
      exact ⟨-2, rfl, fun H3 y a3 s3 => no2 (by rw [e, Bool.and_false]) H3 y a3 (s12.trans s3)⟩
    have e2 := bnot_t e
    have es0 : Sw98.step f (.alone l) = (f, match (f.only l).best with
      | some b => ⟨(b.cost : Nat), [Sw98.members f.roads.length b.roads]⟩
      | none => Sw98.ok (-6)) := if_neg (by rw [e1, e2]; decide)
    refine ⟨_, rfl, x, dx, fs, rfl, s12 _ _ hx, no_field l3 "loads_from", _, rfl, x, lA, rA, n, f, l, rfl, hF.same s12, s12 _ _ hn, fun H3 lo hlo s3 => ?_⟩
    have s13 := s12.trans s3
    refine ⟨_, rfl, x, dx, fs, rfl, s13 _ _ hx, no_field l3 "every_set", x, lA, rA, f, rfl, hF.same s13, fun H4 p ps hp4 hB s4 => ?_⟩
    refine ⟨lo, p, ps, _, _, onlyL f.loads l, rfl, s4 _ _ hlo, hp4, hB, (fun s _ => (onlyL_len _ _).trans (marks_bs _ _ _)), onlyL_small hF.ok.loads, fun H5 c hc s5 => ?_⟩
    have eg := gFold_are f.roads (onlyL f.loads l)
    rw [onlyL_len] at eg
    rw [eg, best_only hF.ok.toOk] at hc
    obtain ⟨dc, cs, v, hcx, cl3, cc, cm, clo, _, _, hv⟩ := hc.ex
    have s15 := s13.trans (s4.trans s5)
    refine ⟨_, rfl, c, CC, dc, cs, _, rfl, hcx, TC.cl, TC.nCo, cc, _, rfl, ?_⟩
    cases eb : (f.only l).best with
    | none =>
      have es : Sw98.step f (.alone l) = (f, Sw98.ok (-6)) := by rw [es0, eb]
      refine iteT ⟨-6, rfl, fun H6 y a6 s6 => ?_⟩
      exact k H6 y (by rw [es]; exact a6) (by rw [es]; exact fits_ok _) (s15.trans s6)
    | some b =>
      rw [eb] at cc cm hv
      obtain ⟨y, rfl, By⟩ := hv b.cost rfl
      obtain ⟨dy, fy, nA, mA, y1, y2, y3, y4, y5, y6, y7⟩ := By.ex
      have es : Sw98.step f (.alone l) = (f, ⟨(b.cost : Nat), [Sw98.members f.roads.length b.roads]⟩) := by rw [es0, eb]
      refine iteF ⟨_, rfl, c, CC, dc, cs, _, rfl, hcx, TC.cl, TC.nCo, cc, ?_⟩
      refine ⟨_, rfl, c, CC, dc, cs, _, rfl, hcx, TC.cl, TC.nLo, clo, y, CB, dy, fy, _, rfl, y1, TB.cl, TB.nNu, y2, (by show 1 ≤ sizeLine; decide), fun r hr z dz hz hdz hne => ?_⟩
      have hly : r ≠ z := ne_of_none upd_same hz
      have hldy : r ≠ dz := ne_of_none upd_same hdz
      have s7 : Same H5 (upd (upd (upd H5 r (.lst [V.ref nA])) dz (.own z)) z (.ins CA dz [])) := fun c o e => by
        have e1 := same_new (o := .lst [V.ref nA]) hr c o e
        rw [upd_ne (ne_of_none e1 hz), upd_ne (ne_of_none e1 hdz)]
        exact e1
      refine ⟨z, dz, r, [nA], ⟨(b.cost : Nat), [Sw98.members f.roads.length b.roads]⟩, rfl, upd_same, (by rw [upd_ne hly, upd_ne hldy, upd_same]; rfl), SetsAt.one (s7 _ _ y5), fun H8 a8 b8 => ⟨rfl, ?_⟩⟩
      refine k H8 z (by rw [es]; exact a8) ?_ (s15.trans ((same_new hr).trans (Same.made hz hdz b8)))
      rw [es]
      refine ⟨by show 1 ≤ 3; decide, fun r hr => ?_⟩
      have : r = Sw98.members f.roads.length b.roads := List.mem_singleton.mp hr
      rw [this]
      have h1 := members_len f.roads.length b.roads
      have h2 := hF.ok.few
      omega
end
end Fr
set_option Elab.async false
set_option linter.all false
set_option maxRecDepth 100000
set_option maxHeartbeats 2000000
namespace Fr
open PySem PySem.Spec PyProof.Rows L2
open PySem.W (Codec)
abbrev sSha : Stmt := inClass (top 16) 7
theorem neV {a b : Nat} (e : (!decide (V.int (a : Int) = V.int (b : Int))) = true) : a ≠ b := fun q => by
  subst q
  rw [decide_eq_true rfl] at e
  cases e
theorem nneV {a b : Nat} (e : ¬ (!decide (V.int (a : Int) = V.int (b : Int))) = true) : a = b := by
  have := of_decide_eq_true (bnot_t e)
  have := V.int.inj this
  omega
section
variable {P : Program} {w : World} {K : PySem.W.Frag} {mg : Str → Option Value} {base : Heap}
def spSha (CR CF CA : Addr) : Sp := fun vs H Q _ => ∃ (x lA rA n : Addr) (f : Sw98.Forest) (l : List Nat), vs = [.ref x, .ref n] ∧ FA CR CF H x lA rA f ∧ H n = some (.lst (nv l)) ∧ l.length ≤ 20 ∧ ∀ (H' : Hp) (y : Addr), AnsAt CA H' y (Sw98.step f (.shares l)).2 → FitsA (Sw98.step f (.shares l)).2 → Same H H' → Q (.ref y) H'
theorem scSha : FnScope ["self", "paid", "sets", "cheapest", "group"] ["self", "paid"] (defScope sSha) := ⟨rfl, rfl, rfl, by decide +kernel, rfl, by decide +kernel, by decide +kernel⟩
theorem ok_sha {f CR CF CC CB CA fC fE fG fL fP fQ fR fI : Addr} {fd fdC fdE fdG fdL fdP fdQ fdR fdI : FuncData} (F : Fun K "shares" "Forest.shares" sSha f fd) (T : TxtF K mg CR CF) (T0 : Txt K mg CR) (TC : TxtC K mg CC) (TB : TxtB K mg CB) (TA : TxtA K mg CA)
    (GL : FnOk P w K mg base CX0 1 fL fdL ["self"] (spLan CR CF)) (bL : Binds K fdL ["self"] []) (mL : Meth K CF "landings" fL)
    (GG : FnOk P w K mg base CX0 1 fG fdG ["self", "group"] (spLfr CR CF)) (bG : Binds K fdG ["self", "group"] []) (mG : Meth K CF "loads_from" fG)
    (GP : FnOk P w K mg base CX0 1 fP fdP ["group", "paid"] spPai) (kP : PySem.W.keepIn K (.ref fP) = true) (bP : Binds K fdP ["group", "paid"] []) (mP : mg "paid_together" = some (.ref fP))
    (GQ : FnOk P w K mg base CX0 1 fQ fdQ ["landings"] spGrp) (kQ : PySem.W.keepIn K (.ref fQ) = true) (bQ : Binds K fdQ ["landings"] []) (mQ : mg "groups_earliest_first" = some (.ref fQ))
    (GC : FnOk P w K mg base CX0 3 fC fdC ["loads", "sets"] (spChf CC CB)) (kC : PySem.W.keepIn K (.ref fC) = true) (bC : Binds K fdC ["loads", "sets"] []) (mC : mg "cheapest_for" = some (.ref fC))
    (GE : FnOk P w K mg base CX0 5 fE fdE ["self"] (spEvs CR CF CB)) (bE : Binds K fdE ["self"] []) (mE : Meth K CF "every_set" fE)
    (GR : FnOk P w K mg base CX0 3 fR fdR ["number"] (spRef CA)) (kR : PySem.W.keepIn K (.ref fR) = true) (bR : Binds K fdR ["number"] []) (mR : mg "refusal" = some (.ref fR))
    (M : Mk K CA fI) (GI : FnOk P w K mg base CX0 1 fI fdI ["self", "number", "rows"] (spAnI CA)) (bI : Binds K fdI ["self", "number", "rows"] []) :
    FnOk P w K mg base CX0 6 f fd ["self", "paid"] (spSha CR CF CA) := by
  refine F.ok scSha (fun vs H Q E h => ?_) (fun cdv A outer s H vs Q E hr h => ?_)
  · obtain ⟨x, lA, rA, n, f, l, rfl, _⟩ := h
    rfl
  · obtain ⟨x, lA, rA, n, f, l, rfl, hF, hn, hl20, k⟩ := h
    obtain ⟨dx, fs, as, hx, hlen, l1, l2, l3, h1, h2, h3⟩ := hF.ex
    obtain ⟨t1, m1⟩ := T.joined
    obtain ⟨t2, m2⟩ := T.out
    obtain ⟨t3, m3⟩ := T.notCost
    have hr3 : Room 3 _ := hr.mono (by decide)
    have hr2 : Room 2 _ := hr.mono (by decide)
    have hr1 : Room 1 _ := hr.mono (by decide)
    refine ⟨_, pss_cons (ps_if (pt_cmpR op_ne (pe_callB call_len_seq (by rfl) T0.len PySem.boot_len (pa_cons (pv 1) pa_nil)) (pe_callB call_len_seq (by rfl) T0.len PySem.boot_len (pa_cons (pe_fld (pv 0) rfl) pa_nil)) (nobehind _ (by decide) (by decide)))
        (pss_one (ps_ret (pe_call GR hr3 rfl mR kR bR .nil pass0 (pa_cons (pe_glob (v := .int (-1)) (by rfl) m2 ⟨_, rfl⟩) pa_nil)))) pss_nil)
      (pss_cons (ps_set (i := 2) scSha.nd rfl (Or.inl rfl) (pe_meth0 (pv 0) T.cl mE GE hr bE .nil pass0))
      (pss_cons (ps_set (i := 3) scSha.nd rfl (Or.inl rfl) (pe_call GC hr3 rfl mC kC bC .nil pass0 (pa_cons (pe_fld (pv 0) rfl) (pa_cons (pv 2) pa_nil))))
      (pss_cons (ps_if (pt_cmp (pc_isN (pe_fld (pv 3) rfl))) (pss_one (ps_ret (pe_call GR hr3 rfl mR kR bR .nil pass0 (pa_cons (pe_glob (v := .int (-6)) (by rfl) m1 ⟨_, rfl⟩) pa_nil)))) pss_nil)
      (pss_cons (ps_if (pt_cmpR op_ne (pe_call GP hr1 rfl mP kP bP .nil pass0 (pa_cons (pe_meth0 (pv 0) T.cl mL GL hr1 bL .nil pass0) (pa_cons (pv 1) pa_nil))) (pe_fld (pv 3) rfl) (nobehind _ (by decide) (by decide)))
        (pss_one (ps_ret (pe_call GR hr3 rfl mR kR bR .nil pass0 (pa_cons (pe_glob (v := .int (-3)) (by rfl) m3 ⟨_, rfl⟩) pa_nil)))) pss_nil)
      (pss_cons (ps_for PassesOwn.never rfl (pi_list (pe_call GQ hr1 rfl mQ kQ bQ .nil pass0 (pa_cons (pe_meth0 (pv 0) T.cl mL GL hr1 bL .nil pass0) pa_nil))) (pg_name (i := 4) scSha.nd rfl (Or.inl rfl))
        (pss_one (ps_if (pt_cmpR op_lt (pe_fld (pe_call GC hr3 rfl mC kC bC .nil pass0 (pa_cons (pe_meth (pv 0) T.cl mG GG hr1 bG .nil pass0 (pa_cons (pv 4) pa_nil)) (pa_cons (pv 2) pa_nil))) rfl) (pe_call GP hr1 rfl mP kP bP .nil pass0 (pa_cons (pv 4) (pa_cons (pv 1) pa_nil))) (nobehind _ (by decide) (by decide)))
          (pss_one (ps_ret (pe_make M GI hr2 rfl TA.mgA bI .nil pass0 (pa_cons pe_int (pa_cons (pe_lst (pa_cons (pv 4) pa_nil)) pa_nil))))) pss_nil)))
      (pss_one (ps_ret (pe_make M GI hr2 rfl TA.mgA bI .nil pass0 (pa_cons pe_int (pa_cons (pe_lst pa_nil) pa_nil)))))))))), ?_⟩
    have es0 : Sw98.step f (.shares l) = if l.length ≠ f.places then (f, Sw98.ok (-1)) else match f.best with
      | none => (f, Sw98.ok (-6))
      | some b => if paidSum l f.landings ≠ b.cost then (f, Sw98.ok (-3)) else (f, match f.leaves l with
        | none => ⟨1, []⟩
        | some x => ⟨0, [x]⟩) := rfl
    refine ⟨_, rfl, n, _, rfl, .inl (SqL.of hn), _, rfl, x, CF, dx, fs, _, rfl, hx, T.cl, T.nLo, l1, lA, _, rfl, .inl (SqL.of h1), ?_⟩
    rw [nv_len, nv_len]
    refine ⟨rfl, _, rfl, ite2 (fun e => ?_) (fun e => ?_)⟩
    · have e := neV e
      refine ⟨-1, rfl, fun H3 y a3 s3 => ?_⟩
      have es : Sw98.step f (.shares l) = (f, Sw98.ok (-1)) := es0.trans (if_pos (by rw [← hF.ok.len]; exact e))
      exact k H3 y (by rw [es]; exact a3) (by rw [es]; exact fits_ok _) s3
    have e1 : l.length = f.places := by rw [← hF.ok.len]; exact nneV e
    have es1 := es0.trans (if_neg (fun q => q e1))
    refine ⟨_, rfl, x, dx, fs, rfl, hx, no_field l3 "every_set", x, lA, rA, f, rfl, hF, fun H1 p ps hp1 hB s1 => ?_⟩
    refine ⟨_, rfl, x, CF, dx, fs, _, rfl, s1 _ _ hx, T.cl, T.nLo, l1, _, rfl, ?_⟩
    refine ⟨lA, p, ps, _, _, f.loads, rfl, s1 _ _ h1, hp1, hB, (fun s _ => marks_bs _ _ _), hF.ok.loads, fun H2 c hc s2 => ?_⟩
    rw [gFold_are, best_are hF.ok.toOk] at hc
    obtain ⟨dc, cs, v, hcx, cl3, cc, cm, clo, _, _, hv⟩ := hc.ex
    have s12 := s1.trans s2
    refine ⟨_, rfl, c, CC, dc, cs, _, rfl, hcx, TC.cl, TC.nCo, cc, _, rfl, ?_⟩
    cases eb : f.best with
    | none =>
      have es : Sw98.step f (.shares l) = (f, Sw98.ok (-6)) := by rw [es1, eb]
      refine iteT ⟨-6, rfl, fun H3 y a3 s3 => ?_⟩
      exact k H3 y (by rw [es]; exact a3) (by rw [es]; exact fits_ok _) (s12.trans s3)
    | some b =>
      rw [eb] at cc
      rw [eb] at es1
      have es2 : Sw98.step f (.shares l) = if paidSum l f.landings ≠ b.cost then (f, Sw98.ok (-3)) else (f, match f.leaves l with
        | none => ⟨1, []⟩
        | some x => ⟨0, [x]⟩) := es1
      have lan4 := hF.ok.four
      have lanl : ∀ i, i ∈ f.landings → i < l.length := fun i hi => by rw [e1]; exact landings_lt hi
      refine iteF ⟨_, rfl, x, dx, fs, rfl, s12 _ _ hx, no_field l3 "landings", x, lA, rA, f, rfl, hF.same s12, fun H3 la hla s3 => ?_⟩
      have s13 := s12.trans s3
      refine ⟨_, rfl, la, n, f.landings, l, rfl, hla, s13 _ _ hn, by omega, lanl, fun H4 s4 => ?_⟩
      have s14 := s13.trans s4
      refine ⟨_, rfl, c, CC, dc, cs, _, rfl, s4 _ _ (s3 _ _ hcx), TC.cl, TC.nCo, cc, ?_⟩
      refine ⟨rfl, _, rfl, ite2 (fun e => ?_) (fun e => ?_)⟩
      · have e := neV e
        have es : Sw98.step f (.shares l) = (f, Sw98.ok (-3)) := es2.trans (if_pos e)
        refine ⟨-3, rfl, fun H5 y a5 s5 => ?_⟩
        exact k H5 y (by rw [es]; exact a5) (by rw [es]; exact fits_ok _) (s14.trans s5)
      have e2 := nneV e
      have es3 := es2.trans (if_neg (fun q => q e2))
      refine ⟨_, rfl, x, dx, fs, rfl, s14 _ _ hx, no_field l3 "landings", x, lA, rA, f, rfl, hF.same s14, fun H5 lb hlb s5 => ?_⟩
      have s15 := s14.trans s5
      refine ⟨lb, f.landings, rfl, hlb, lan4, fun H6 gs ga hgs hga s6 => ?_⟩
      have s16 := s15.trans s6
      have p6 : H6 p = some (.lst (ps.map V.ref)) := s6 _ _ (s5 _ _ (s4 _ _ (s3 _ _ (s2 _ _ hp1))))
      have B6 := (hB.same s2).same (s3.trans (s4.trans (s5.trans s6)))
      refine ⟨gs, rfl, ⟨_, SqL.of hgs⟩, for_list (K := K) (a := gs) (xs := ga.map V.ref) (fun i σ H' => ∃ v4 : Option V, σ = [some (.ref x), some (.ref n), some (.ref p), some (.ref c), v4] ∧ f.leaves l = ((Sw98.subsets f.landings).drop i).find? (wants f l) ∧ Same H6 H')
        ⟨none, rfl, rfl, fun _ _ h => h⟩ (fun i σ H' _ ⟨_, _, _, q⟩ => SqL.of (q _ _ hgs)) ?_ ?_⟩
      · rintro i y σ H7 hi ⟨v4, rfl, el, s7⟩
        obtain ⟨z, hz, rfl⟩ := map_at hi
        obtain ⟨g, hg, hzg⟩ := hga.get hz
        obtain ⟨g4, gl⟩ := subsets_mem _ _ (List.mem_of_getElem? hg)
        rw [drop_at hg] at el
        have s17 := s16.trans s7
        obtain ⟨b', eb'⟩ := only_some hF.ok.toOk g eb
        refine ⟨_, rfl, x, dx, fs, rfl, s17 _ _ hx, no_field l3 "loads_from", _, rfl, x, lA, rA, z, f, g, rfl, hF.same s17, s7 _ _ hzg, fun H8 lo hlo s8 => ?_⟩
        refine ⟨_, rfl, lo, p, ps, _, _, onlyL f.loads g, rfl, hlo, s8 _ _ (s7 _ _ p6), (B6.same s7).same s8, (fun s _ => (onlyL_len _ _).trans (marks_bs _ _ _)), onlyL_small hF.ok.loads, fun H9 c9 hc9 s9 => ?_⟩
        have eg := gFold_are f.roads (onlyL f.loads g)
        rw [onlyL_len] at eg
        rw [eg, best_only hF.ok.toOk, eb'] at hc9
        obtain ⟨d9, fs9, v9, h9, l9, cc9, _⟩ := hc9.ex
        have s19 := s17.trans (s8.trans s9)
        have z9 := s9 _ _ (s8 _ _ (s7 _ _ hzg))
        refine ⟨c9, CC, d9, fs9, _, rfl, h9, TC.cl, TC.nCo, cc9, ?_⟩
        refine ⟨_, rfl, _, rfl, z, n, g, l, rfl, z9, s19 _ _ hn, by omega, (fun i hi => lanl i (gl i hi)), fun H10 s10 => ?_⟩
        have ew : wants f l g = decide (b'.cost < paidSum l g) := by
          unfold wants
          rw [eb']
        refine ⟨_, _, rfl, rfl, _, rfl, ?_⟩
        rw [ltV, ← ew]
        refine ite2 (fun e => ?_) (fun e => ?_)
        · rw [List.find?_cons_of_pos e] at el
          have es : Sw98.step f (.shares l) = (f, ⟨0, [g]⟩) := by rw [es3, el]
          refine ⟨_, rfl, (by show 1 ≤ sizeLine; decide), fun r hr u du hu hdu hne => ?_⟩
          have hly : r ≠ u := ne_of_none upd_same hu
          have hldy : r ≠ du := ne_of_none upd_same hdu
          have s11 : Same H10 (upd (upd (upd H10 r (.lst [V.ref z])) du (.own u)) u (.ins CA du [])) := fun c o e => by
            have e1 := same_new (o := .lst [V.ref z]) hr c o e
            rw [upd_ne (ne_of_none e1 hu), upd_ne (ne_of_none e1 hdu)]
            exact e1
          refine ⟨u, du, r, [z], ⟨0, [g]⟩, rfl, upd_same, (by rw [upd_ne hly, upd_ne hldy, upd_same]; rfl), SetsAt.one (s11 _ _ (s10 _ _ z9)), fun H12 a12 b12 => ⟨rfl, ?_⟩⟩
          refine k H12 u (by rw [es]; exact a12) ?_ (s19.trans (s10.trans ((same_new hr).trans (Same.made hu hdu b12))))
          rw [es]
          refine ⟨by show 1 ≤ 3; decide, fun r hr => ?_⟩
          have : r = g := List.mem_singleton.mp hr
          rw [this]
          omega
        · rw [List.find?_cons_of_neg e] at el
          exact ⟨_, rfl, el, s7.trans (s8.trans (s9.trans s10))⟩
      · rintro σ H7 ⟨v4, rfl, el, s7⟩
        rw [List.length_map, hga.1, List.drop_of_length_le (Nat.le_refl _), List.find?_nil] at el
        have es : Sw98.step f (.shares l) = (f, ⟨1, []⟩) := by rw [es3, el]
        refine ⟨Nat.zero_le _, fun r hr u du hu hdu hne => ?_⟩
        have hly : r ≠ u := ne_of_none upd_same hu
        have hldy : r ≠ du := ne_of_none upd_same hdu
        refine ⟨u, du, r, [], ⟨1, []⟩, rfl, upd_same, (by rw [upd_ne hly, upd_ne hldy, upd_same]; rfl), ⟨rfl, fun i x s a b => by simp at a⟩, fun H8 a8 b8 => ⟨rfl, ?_⟩⟩
        refine k H8 u (by rw [es]; exact a8) (by rw [es]; exact ⟨Nat.zero_le _, fun r h => by cases h⟩) (s16.trans (s7.trans ((same_new hr).trans (Same.made hu hdu b8))))
end
end Fr
set_option Elab.async false
set_option linter.all false
set_option maxRecDepth 100000
set_option maxHeartbeats 4000000
namespace Fr
open PySem PySem.Spec PyProof.Rows L2
open PySem.W (Codec)
abbrev sAns : Stmt := top 33
abbrev sAof : Stmt := top 34
theorem yesI {a b : Int} {A B : Prop} (h : a = b) (k : A) : if decide (V.int a = V.int b) = true then A else B := by
  rw [if_pos (decide_eq_true (by rw [h]))]
  exact k
theorem nopeI {a b : Int} {A B : Prop} (h : a ≠ b) (k : B) : if decide (V.int a = V.int b) = true then A else B := by
  rw [if_neg (fun q => h (V.int.inj (of_decide_eq_true q)))]
  exact k
theorem out_plain {a : Sw98.Ans} (h : a.l = []) : Sw98Neutral.out a = [a.v] := by
  unfold Sw98Neutral.out
  rw [h]
  rfl
theorem plain_begins (f : Sw98.Forest) (n : Nat) : (Sw98.step f (.begins n)).2.l = [] := by
  show (if n < 1 ∨ Sw98.PLACES < n then (f, Sw98.ok (-1)) else (⟨n, [], List.replicate n 0⟩, Sw98.ok 0)).2.l = []
  split <;> rfl
theorem plain_road (f : Sw98.Forest) (r : Sw98.Road) : (Sw98.step f (.road r)).2.l = [] := by
  show (if f.places ≤ r.a ∨ f.places ≤ r.b then (f, Sw98.ok (-2)) else if r.a = r.b ∨ Sw98.COST < r.build ∨ Sw98.COST < r.carry then (f, Sw98.ok (-1)) else if Sw98.ROADS ≤ f.roads.length then (f, Sw98.ok (-5)) else ({ f with roads := f.roads ++ [r] }, Sw98.ok (f.roads.length : Nat))).2.l = []
  split
  · rfl
  · split
    · rfl
    · split <;> rfl
theorem plain_load (f : Sw98.Forest) (i n : Nat) : (Sw98.step f (.load i n)).2.l = [] := by
  show (if f.places ≤ i then (f, Sw98.ok (-2)) else if Sw98.LOADS < n ∨ i = 0 then (f, Sw98.ok (-1)) else if f.loads.getD i 0 = 0 ∧ 0 < n ∧ Sw98.LANDINGS ≤ f.landings.length then (f, Sw98.ok (-5)) else ({ f with loads := f.loads.set i n }, Sw98.ok (f.loads.getD i 0 : Nat))).2.l = []
  split
  · rfl
  · split
    · rfl
    · split <;> rfl
theorem stay_check (f : Sw98.Forest) (l : List Nat) : (Sw98.step f (.check l)).1 = f := by
  show (if (Sw98.rising l && l.all fun i => decide (i < f.roads.length)) = false then (f, Sw98.ok (-2)) else (f, _)).1 = f
  split <;> rfl
theorem stay_alone (f : Sw98.Forest) (l : List Nat) : (Sw98.step f (.alone l)).1 = f := by
  show (if (Sw98.rising l && l.all fun i => f.landings.contains i) = false then (f, Sw98.ok (-2)) else (f, _)).1 = f
  split <;> rfl
theorem stay_shares (f : Sw98.Forest) (l : List Nat) : (Sw98.step f (.shares l)).1 = f := by
  show (if l.length ≠ f.places then (f, Sw98.ok (-1)) else match f.best with
    | none => (f, Sw98.ok (-6))
    | some b => if Sw98.total (f.landings.map fun i => l.getD i 0) ≠ b.cost then (f, Sw98.ok (-3)) else (f, match f.leaves l with
      | none => ⟨1, []⟩
      | some x => ⟨0, [x]⟩)).1 = f
  split
  · rfl
  · split
    · rfl
    · split <;> rfl
theorem fits_len {a : Sw98.Ans} (h : FitsA a) : (Sw98Neutral.out a).length ≤ 64 := by
  have := out_len (v := a.v) (l := a.l) h.2
  have h3 := h.1
  show (Sw98Neutral.out ⟨a.v, a.l⟩).length ≤ 64
  omega
theorem Moves.then_ {H H' H2 : Hp} {x lA rA lA' rA' : Addr} (m : Moves H H' x lA rA lA' rA') (q : Same H' H2) : Moves H H2 x lA rA lA' rA' := ⟨m.l, m.r, fun b o e q1 q2 q3 => q _ _ (m.rest b o e q1 q2 q3)⟩
/-- another object than its own is written -/
theorem FA.updT {CR CF : Addr} {H H' : Hp} {x lA rA t : Addr} {f : Sw98.Forest} {xs : List V} (h : FA CR CF H x lA rA f) (q : ∀ b o, H b = some o → b ≠ t → H' b = some o) (n1 : x ≠ t) (n2 : lA ≠ t) (n3 : rA ≠ t) (ht : H t = some (.lst xs)) : FA CR CF H' x lA rA f := by
  obtain ⟨dx, fs, as, a, b, c, d, e, g, i, j⟩ := h.ex
  refine ⟨⟨dx, fs, as, q _ _ a n1, b, c, d, e, q _ _ g n2, q _ _ i n3, j.1, fun k z r u v => ?_⟩, h.ne, h.ok⟩
  obtain ⟨dz, gs, hz, rest⟩ := (j.2 k z r u v).ex
  exact ⟨dz, gs, q _ _ hz (ne_of hz ht (by intro z; cases z)), rest⟩
section
variable {P : Program} {w : World} {K : PySem.W.Frag} {mg : Str → Option Value} {base : Heap}
structure TxtK (mg : Str → Option Value) : Prop where
  begins : ∃ t, mg "BEGINS" = some (.int 0 t)
  road : ∃ t, mg "ROAD" = some (.int 1 t)
  load : ∃ t, mg "LOAD" = some (.int 2 t)
  best : ∃ t, mg "BEST" = some (.int 3 t)
  check : ∃ t, mg "CHECK" = some (.int 4 t)
  alone : ∃ t, mg "ALONE" = some (.int 5 t)
def spAof (CR CF : Addr) : Sp := fun vs H Q _ => ∃ (x lA rA g : Addr) (f : Sw98.Forest) (c : Sw98.Call), vs = [.ref x, .int (kindN c : Nat), .ref g] ∧ FA CR CF H x lA rA f ∧ H g = some (.lst (nv (given c))) ∧ Small c ∧
  ∀ (H' : Hp) (t lA' rA' : Addr), FA CR CF H' x lA' rA' (Sw98.step f c).1 → Moves H H' x lA rA lA' rA' → (∀ b o, H b = some o → b ≠ x → b ≠ lA → b ≠ rA → b ≠ t) → H' t = some (.lst ((Sw98Neutral.out (Sw98.step f c).2).map V.int)) → (Sw98Neutral.out (Sw98.step f c).2).length ≤ 64 → Q (.ref t) H'
theorem scAof : FnScope ["forest", "kind", "given"] ["forest", "kind", "given"] (defScope sAof) := ⟨rfl, rfl, rfl, by decide +kernel, rfl, by decide +kernel, by decide +kernel⟩
theorem ok_aof {f CR CF CA fBe fRo fLo fBs fCh fAl fSh fW : Addr} {fd dBe dRo dLo dBs dCh dAl dSh dW : FuncData} (F : Fun K "answer_of" "answer_of" sAof f fd) (T : TxtF K mg CR CF) (TK : TxtK mg)
    (GBe : FnOk P w K mg base CX0 1 fBe dBe ["self", "places"] (spBeg CR CF)) (bBe : Binds K dBe ["self", "places"] []) (mBe : Meth K CF "begins" fBe)
    (GRo : FnOk P w K mg base CX0 3 fRo dRo ["self", "a", "b", "build", "carry"] (spRoa CR CF)) (bRo : Binds K dRo ["self", "a", "b", "build", "carry"] []) (mRo : Meth K CF "road" fRo)
    (GLo : FnOk P w K mg base CX0 2 fLo dLo ["self", "i", "n"] (spLoa CR CF)) (bLo : Binds K dLo ["self", "i", "n"] []) (mLo : Meth K CF "load" fLo)
    (GBs : FnOk P w K mg base CX0 6 fBs dBs ["self"] (spBst CR CF CA)) (bBs : Binds K dBs ["self"] []) (mBs : Meth K CF "best" fBs)
    (GCh : FnOk P w K mg base CX0 5 fCh dCh ["self", "numbers"] (spChe CR CF CA)) (bCh : Binds K dCh ["self", "numbers"] []) (mCh : Meth K CF "check" fCh)
    (GAl : FnOk P w K mg base CX0 6 fAl dAl ["self", "group"] (spAlo CR CF CA)) (bAl : Binds K dAl ["self", "group"] []) (mAl : Meth K CF "alone" fAl)
    (GSh : FnOk P w K mg base CX0 6 fSh dSh ["self", "paid"] (spSha CR CF CA)) (bSh : Binds K dSh ["self", "paid"] []) (mSh : Meth K CF "shares" fSh)
    (GW : FnOk P w K mg base CX0 1 fW dW ["answer"] (spAwl CA)) (kW : PySem.W.keepIn K (.ref fW) = true) (bW : Binds K dW ["answer"] []) (mW : mg "answer_with_lists" = some (.ref fW)) :
    FnOk P w K mg base CX0 7 f fd ["forest", "kind", "given"] (spAof CR CF) := by
  refine F.ok scAof (fun vs H Q E h => ?_) (fun cdv A outer s H vs Q E hr h => ?_)
  · obtain ⟨x, lA, rA, g, f, c, rfl, _⟩ := h
    rfl
  · obtain ⟨x, lA, rA, g, f, c, rfl, hF, hg, hsm, k⟩ := h
    obtain ⟨dx, fs, as, hx, hlen, l1, l2, l3, h1, h2, h3⟩ := hF.ex
    obtain ⟨t0, m0⟩ := TK.begins
    obtain ⟨t1, m1⟩ := TK.road
    obtain ⟨t2, m2⟩ := TK.load
    obtain ⟨t3, m3⟩ := TK.best
    obtain ⟨t4, m4⟩ := TK.check
    obtain ⟨t5, m5⟩ := TK.alone
    have hr1 : Room 1 _ := hr.mono (by decide)
    have hr2 : Room 2 _ := hr.mono (by decide)
    have hr3 : Room 3 _ := hr.mono (by decide)
    have hr5 : Room 5 _ := hr.mono (by decide)
    refine ⟨_, pss_cons (ps_if (pt_cmpR op_eq (pv 1) (pe_glob (v := .int 0) (by rfl) m0 ⟨_, rfl⟩) (nobehind _ (by decide) (by decide))) (pss_one (ps_ret (pe_lst (pa_cons (pe_meth (pv 0) T.cl mBe GBe hr1 bBe .nil pass0 (pa_cons (pe_ix ix_list (pv 2) pe_int (fun _ _ => rfl)) pa_nil)) pa_nil)))) pss_nil)
      (pss_cons (ps_if (pt_cmpR op_eq (pv 1) (pe_glob (v := .int 1) (by rfl) m1 ⟨_, rfl⟩) (nobehind _ (by decide) (by decide))) (pss_one (ps_ret (pe_lst (pa_cons (pe_meth (pv 0) T.cl mRo GRo hr3 bRo .nil pass0 (pa_cons (pe_ix ix_list (pv 2) pe_int (fun _ _ => rfl)) (pa_cons (pe_ix ix_list (pv 2) pe_int (fun _ _ => rfl)) (pa_cons (pe_ix ix_list (pv 2) pe_int (fun _ _ => rfl)) (pa_cons (pe_ix ix_list (pv 2) pe_int (fun _ _ => rfl)) pa_nil))))) pa_nil)))) pss_nil)
      (pss_cons (ps_if (pt_cmpR op_eq (pv 1) (pe_glob (v := .int 2) (by rfl) m2 ⟨_, rfl⟩) (nobehind _ (by decide) (by decide))) (pss_one (ps_ret (pe_lst (pa_cons (pe_meth (pv 0) T.cl mLo GLo hr2 bLo .nil pass0 (pa_cons (pe_ix ix_list (pv 2) pe_int (fun _ _ => rfl)) (pa_cons (pe_ix ix_list (pv 2) pe_int (fun _ _ => rfl)) pa_nil))) pa_nil)))) pss_nil)
      (pss_cons (ps_if (pt_cmpR op_eq (pv 1) (pe_glob (v := .int 3) (by rfl) m3 ⟨_, rfl⟩) (nobehind _ (by decide) (by decide))) (pss_one (ps_ret (pe_call GW hr1 rfl mW kW bW .nil pass0 (pa_cons (pe_meth0 (pv 0) T.cl mBs GBs hr bBs .nil pass0) pa_nil)))) pss_nil)
      (pss_cons (ps_if (pt_cmpR op_eq (pv 1) (pe_glob (v := .int 4) (by rfl) m4 ⟨_, rfl⟩) (nobehind _ (by decide) (by decide))) (pss_one (ps_ret (pe_call GW hr1 rfl mW kW bW .nil pass0 (pa_cons (pe_meth (pv 0) T.cl mCh GCh hr5 bCh .nil pass0 (pa_cons (pv 2) pa_nil)) pa_nil)))) pss_nil)
      (pss_cons (ps_if (pt_cmpR op_eq (pv 1) (pe_glob (v := .int 5) (by rfl) m5 ⟨_, rfl⟩) (nobehind _ (by decide) (by decide))) (pss_one (ps_ret (pe_call GW hr1 rfl mW kW bW .nil pass0 (pa_cons (pe_meth (pv 0) T.cl mAl GAl hr bAl .nil pass0 (pa_cons (pv 2) pa_nil)) pa_nil)))) pss_nil)
      (pss_one (ps_ret (pe_call GW hr1 rfl mW kW bW .nil pass0 (pa_cons (pe_meth (pv 0) T.cl mSh GSh hr bSh .nil pass0 (pa_cons (pv 2) pa_nil)) pa_nil))))))))), ?_⟩
    have plain : ∀ (H1 : Hp) (lA' rA' t : Addr), FA CR CF H1 x lA' rA' (Sw98.step f c).1 → Moves H H1 x lA rA lA' rA' → (Sw98.step f c).2.l = [] → H1 t = none → Q (.ref t) (upd H1 t (.lst [V.int (Sw98.step f c).2.v])) := fun H1 lA' rA' t F1 M1 e ht => by
      refine k _ t lA' rA' (F1.same (same_new ht)) (M1.then_ (same_new ht)) (fun b o e q1 q2 q3 => ne_of_none (M1.rest b o e q1 q2 q3) ht) ?_ ?_
      · rw [upd_same, out_plain e]
        rfl
      · rw [out_plain e]
        show 1 ≤ 64
        decide
    have lists : ∀ (H1 H2 : Hp) (t : Addr), (Sw98.step f c).1 = f → Same H H1 → FitsA (Sw98.step f c).2 → H1 t = none → H2 t = some (.lst ((Sw98Neutral.out (Sw98.step f c).2).map V.int)) → Same H1 H2 → Q (.ref t) H2 := fun H1 H2 t e s1 f1 ht et s2 => by
      exact k H2 t lA rA (by rw [e]; exact hF.same (s1.trans s2)) (Moves.same (s1.trans s2)) (fun b o e _ _ _ => ne_of_none (s1 _ _ e) ht) et (fits_len f1)
    cases c with
    | begins n =>
      refine ⟨_, rfl, rfl, _, rfl, yesI rfl ?_⟩
      refine ⟨_, rfl, x, dx, fs, rfl, hx, no_field l3 "begins", _, rfl, g, _, _, _, rfl, rfl, SqL.of hg, atI_nat (j := 0) rfl, x, lA, rA, f, n, rfl, hF, fun H1 lA' rA' F1 M1 => ⟨(by show 1 ≤ sizeLine; decide), fun t ht => ?_⟩⟩
      exact plain H1 lA' rA' t F1 M1 (plain_begins f n) ht
    | road r =>
      refine ⟨_, rfl, rfl, _, rfl, nopeI (by show (1 : Int) ≠ 0; decide) ?_⟩
      refine ⟨_, rfl, rfl, _, rfl, yesI rfl ?_⟩
      refine ⟨_, rfl, x, dx, fs, rfl, hx, no_field l3 "road", _, rfl, g, _, _, _, rfl, rfl, SqL.of hg, atI_nat (j := 0) rfl, _, rfl, g, _, _, _, rfl, rfl, SqL.of hg, atI_nat (j := 1) rfl, _, rfl, g, _, _, _, rfl, rfl, SqL.of hg, atI_nat (j := 2) rfl, _, rfl, g, _, _, _, rfl, rfl, SqL.of hg, atI_nat (j := 3) rfl,
        x, lA, rA, f, r, rfl, hF, fun H1 lA' rA' F1 M1 => ⟨(by show 1 ≤ sizeLine; decide), fun t ht => ?_⟩⟩
      exact plain H1 lA' rA' t F1 M1 (plain_road f r) ht
    | load i n =>
      refine ⟨_, rfl, rfl, _, rfl, nopeI (by show (2 : Int) ≠ 0; decide) ?_⟩
      refine ⟨_, rfl, rfl, _, rfl, nopeI (by show (2 : Int) ≠ 1; decide) ?_⟩
      refine ⟨_, rfl, rfl, _, rfl, yesI rfl ?_⟩
      refine ⟨_, rfl, x, dx, fs, rfl, hx, no_field l3 "load", _, rfl, g, _, _, _, rfl, rfl, SqL.of hg, atI_nat (j := 0) rfl, _, rfl, g, _, _, _, rfl, rfl, SqL.of hg, atI_nat (j := 1) rfl,
        x, lA, rA, f, i, n, rfl, hF, fun H1 lA' rA' F1 M1 => ⟨(by show 1 ≤ sizeLine; decide), fun t ht => ?_⟩⟩
      exact plain H1 lA' rA' t F1 M1 (plain_load f i n) ht
    | best =>
      refine ⟨_, rfl, rfl, _, rfl, nopeI (by show (3 : Int) ≠ 0; decide) ?_⟩
      refine ⟨_, rfl, rfl, _, rfl, nopeI (by show (3 : Int) ≠ 1; decide) ?_⟩
      refine ⟨_, rfl, rfl, _, rfl, nopeI (by show (3 : Int) ≠ 2; decide) ?_⟩
      refine ⟨_, rfl, rfl, _, rfl, yesI rfl ?_⟩
      refine ⟨_, rfl, x, dx, fs, rfl, hx, no_field l3 "best", x, lA, rA, f, rfl, hF, fun H1 y a1 f1 s1 => ⟨y, _, rfl, a1, f1, fun H2 t ht et s2 => ?_⟩⟩
      exact lists H1 H2 t rfl s1 f1 ht et s2
    | check l =>
      refine ⟨_, rfl, rfl, _, rfl, nopeI (by show (4 : Int) ≠ 0; decide) ?_⟩
      refine ⟨_, rfl, rfl, _, rfl, nopeI (by show (4 : Int) ≠ 1; decide) ?_⟩
      refine ⟨_, rfl, rfl, _, rfl, nopeI (by show (4 : Int) ≠ 2; decide) ?_⟩
      refine ⟨_, rfl, rfl, _, rfl, nopeI (by show (4 : Int) ≠ 3; decide) ?_⟩
      refine ⟨_, rfl, rfl, _, rfl, yesI rfl ?_⟩
      refine ⟨_, rfl, x, dx, fs, rfl, hx, no_field l3 "check", _, rfl, x, lA, rA, g, f, l, rfl, hF, hg, hsm.1, fun H1 y a1 f1 s1 => ⟨y, _, rfl, a1, f1, fun H2 t ht et s2 => ?_⟩⟩
      exact lists H1 H2 t (stay_check f l) s1 f1 ht et s2
    | alone l =>
      refine ⟨_, rfl, rfl, _, rfl, nopeI (by show (5 : Int) ≠ 0; decide) ?_⟩
      refine ⟨_, rfl, rfl, _, rfl, nopeI (by show (5 : Int) ≠ 1; decide) ?_⟩
      refine ⟨_, rfl, rfl, _, rfl, nopeI (by show (5 : Int) ≠ 2; decide) ?_⟩
      refine ⟨_, rfl, rfl, _, rfl, nopeI (by show (5 : Int) ≠ 3; decide) ?_⟩
      refine ⟨_, rfl, rfl, _, rfl, nopeI (by show (5 : Int) ≠ 4; decide) ?_⟩
      refine ⟨_, rfl, rfl, _, rfl, yesI rfl ?_⟩
      refine ⟨_, rfl, x, dx, fs, rfl, hx, no_field l3 "alone", _, rfl, x, lA, rA, g, f, l, rfl, hF, hg, hsm.1, fun H1 y a1 f1 s1 => ⟨y, _, rfl, a1, f1, fun H2 t ht et s2 => ?_⟩⟩
      exact lists H1 H2 t (stay_alone f l) s1 f1 ht et s2
    | shares l =>
      refine ⟨_, rfl, rfl, _, rfl, nopeI (by show (6 : Int) ≠ 0; decide) ?_⟩
      refine ⟨_, rfl, rfl, _, rfl, nopeI (by show (6 : Int) ≠ 1; decide) ?_⟩
      refine ⟨_, rfl, rfl, _, rfl, nopeI (by show (6 : Int) ≠ 2; decide) ?_⟩
      refine ⟨_, rfl, rfl, _, rfl, nopeI (by show (6 : Int) ≠ 3; decide) ?_⟩
      refine ⟨_, rfl, rfl, _, rfl, nopeI (by show (6 : Int) ≠ 4; decide) ?_⟩
      refine ⟨_, rfl, rfl, _, rfl, nopeI (by show (6 : Int) ≠ 5; decide) ?_⟩
      refine ⟨_, rfl, x, dx, fs, rfl, hx, no_field l3 "shares", _, rfl, x, lA, rA, g, f, l, rfl, hF, hg, hsm.1, fun H1 y a1 f1 s1 => ⟨y, _, rfl, a1, f1, fun H2 t ht et s2 => ?_⟩⟩
      exact lists H1 H2 t (stay_shares f l) s1 f1 ht et s2
/-! ### answers -/
theorem cut_mid {A B C : List V} {i j : Int} (hi : i = (A.length : Nat)) (hj : j = ((A.length + B.length : Nat) : Int)) : cutV (A ++ (B ++ C)) (some i) (some j) = B := by
  subst hi hj
  unfold cutV
  rw [HT.sIx_nat, HT.sIx_nat]
  have e : (A ++ (B ++ C)).length = A.length + (B.length + C.length) := by rw [List.length_append, List.length_append]
  rw [e, Nat.min_eq_left (by omega), Nat.min_eq_left (by omega), List.drop_left, show A.length + B.length - A.length = B.length by omega, List.take_left]
theorem toZ_nv (l : List Nat) : (toZ l).map V.int = nv l := by
  unfold toZ nv
  rw [List.map_map]
  rfl
theorem toZ_len (l : List Nat) : (toZ l).length = l.length := by
  unfold toZ
  rw [List.length_map]
/-- where a loop over the calls stands -/
def atV (σ : List (Option V)) : Nat := match List.getD σ 3 none with
  | some (V.int z) => 3000 - z.toNat
  | _ => 0
def nbT : List V := [.int 1, .int 4, .int 2, .int 0]
theorem nbT_at {c : Sw98.Call} (h : kindN c < 4) : nbT[kindN c]? = some (.int (behind (kindN c) : Nat)) := by
  cases c with
  | check l => exact absurd h (by show ¬ 4 < 4; decide)
  | alone l => exact absurd h (by show ¬ 5 < 4; decide)
  | shares l => exact absurd h (by show ¬ 6 < 4; decide)
  | begins n => rfl
  | road r => rfl
  | load i n => rfl
  | best => rfl
def spAns (K : PySem.W.Frag) : Sp := fun vs H Q _ => ∃ (a : Addr) (ns : List Int), vs = [.ref a] ∧ SqL K H a (ns.map V.int) ∧ ns.length ≤ 2000 ∧ PySw98.answers_asked ns = true ∧ ∀ (H' : Hp) (p : Addr), H' p = some (.lst ((PySw98.answers ns).map V.int)) → Q (.ref p) H'
theorem scAns : FnScope ["calls", "forest", "told", "at", "kind", "start", "following", "answer"] ["calls"] (defScope sAns) := ⟨rfl, rfl, rfl, by decide +kernel, rfl, by decide +kernel, by decide +kernel⟩
theorem ok_ans {f CR CF aN fI fA : Addr} {fd dI dA : FuncData} (F : Fun K "answers" "answers" sAns f fd) (T : TxtF K mg CR CF) (T0 : Txt K mg CR)
    (mN : mg "NUMBERS_BEHIND" = some (.ref aN)) (qN : ∀ H, SqT K H aN nbT)
    (M : Mk K CF fI) (GI : FnOk P w K mg base CX0 1 fI dI ["self"] (spFoI CR CF)) (bI : Binds K dI ["self"] [])
    (GA : FnOk P w K mg base CX0 7 fA dA ["forest", "kind", "given"] (spAof CR CF)) (kA : PySem.W.keepIn K (.ref fA) = true) (bA : Binds K dA ["forest", "kind", "given"] []) (mA : mg "answer_of" = some (.ref fA)) :
    FnOk P w K mg base CX0 8 f fd ["calls"] (spAns K) := by
  refine F.ok scAns (fun vs H Q E h => ?_) (fun cdv A outer s H vs Q E hr h => ?_)
  · obtain ⟨a, ns, rfl, _⟩ := h
    rfl
  · obtain ⟨a, ns, rfl, hS, hns, hask, k⟩ := h
    have hr2 : Room 2 _ := hr.mono (by decide)
    obtain ⟨ks, ens, hsm, h40, epl0⟩ := asked_calls hask
    refine ⟨_, pss_cons (ps_set (i := 1) scAns.nd rfl (Or.inl rfl) (pe_make0 M GI hr2 rfl T.mgF bI .nil pass0))
      (pss_cons (ps_set (i := 2) scAns.nd rfl (Or.inl rfl) (pe_lst pa_nil))
      (pss_cons (ps_set (i := 3) scAns.nd rfl (Or.inl rfl) pe_int)
      (pss_cons (ps_while PassesOwn.never (pt_cmpR op_lt (pv 3) (pe_callB call_len_seq (by rfl) T0.len PySem.boot_len (pa_cons (pv 0) pa_nil)) (nobehind _ (by decide) (by decide)))
        (pss_cons (ps_set (i := 4) scAns.nd rfl (Or.inl rfl) (pe_ix ix_list (pv 0) (pv 3) (fun _ _ => rfl)))
        (pss_cons (ps_set (i := 5) scAns.nd rfl (Or.inl rfl) (pe_op op_add (pv 3) pe_int))
        (pss_cons (ps_if (pt_cmpR op_lt (pv 4) (pe_callB call_len_seq (by rfl) T0.len PySem.boot_len (pa_cons (pe_glob (v := .ref aN) (by rfl) mN rfl) pa_nil)) (nobehind _ (by decide) (by decide)))
          (pss_one (ps_set (i := 6) scAns.nd rfl (Or.inl rfl) (pe_op op_add (pv 5) (pe_ix ix_tup (pe_glob (v := .ref aN) (by rfl) mN rfl) (pv 4) (fun _ _ => rfl)))))
          (pss_cons (ps_set (i := 5) scAns.nd rfl (Or.inl rfl) (pe_op op_add (pv 3) pe_int)) (pss_one (ps_set (i := 6) scAns.nd rfl (Or.inl rfl) (pe_op op_add (pv 5) (pe_ix ix_list (pv 0) (pe_op op_add (pv 3) pe_int) (fun _ _ => rfl)))))))
        (pss_cons (ps_set (i := 7) scAns.nd rfl (Or.inl rfl) (pe_call GA hr rfl mA kA bA .nil pass0 (pa_cons (pv 1) (pa_cons (pv 4) (pa_cons (pe_slice sl_list (pv 0) (po_some (pv 5)) (po_some (pv 6))) pa_nil)))))
        (pss_cons (ps_expr (pe_bm PySem.F.plainAttrs_list PySem.F.slot_list_append PySem.F.type_list_append mt_append (pv 2) (pa_cons (pe_callB call_len_seq (by rfl) T0.len PySem.boot_len (pa_cons (pv 7) pa_nil)) pa_nil)))
        (pss_cons (ps_expr (pe_bm PySem.F.plainAttrs_list PySem.F.slot_list_extend PySem.F.type_list_extend mt_extend (pv 2) (pa_cons (pv 7) pa_nil)))
        (pss_one (ps_set (i := 3) scAns.nd rfl (Or.inl rfl) (pv 6))))))))))
      (pss_one (ps_ret (pv 2)))))), ?_⟩
    intro x dx nx ndx hne
    refine ⟨x, dx, rfl, upd_same, fun H0 lA0 rA0 F0 fl fr b0 => ⟨rfl, ?_⟩⟩
    have s0 : Same H H0 := Same.made nx ndx b0
    have big : ∀ b, (upd (upd H dx (.own x)) x (.ins CF dx [])) b = none → H b = none := fun b e => by
      cases q : H b with
      | none => rfl
      | some o =>
        rw [upd_ne (ne_of_none q nx), upd_ne (ne_of_none q ndx), q] at e
        cases e
    refine ⟨Nat.zero_le _, fun t ht => ?_⟩
    have nt : H t = none := s0.free ht
    have s0' : Same H0 (upd H0 t (.lst [])) := same_new ht
    obtain ⟨dx0, fs0, as0, hx0, _, _, _, _, hl0, hr0, _⟩ := F0.ex
    have tx : t ≠ x := fun e => ne_of_none hx0 ht e.symm
    refine while_by (fun σ H1 => ∃ (ks1 ks2 : List Sw98.Call) (f : Sw98.Forest) (lA rA : Addr) (out : List Int) (v4 v5 v6 v7 : Option V), ks = ks1 ++ ks2 ∧ σ = [some (.ref a), some (.ref x), some (.ref t), some (.int ((ks1.flatMap enc).length : Nat)), v4, v5, v6, v7] ∧ FA CR CF H1 x lA rA f ∧
        H1 t = some (.lst (out.map V.int)) ∧ out ++ play f ks2 = play Sw98.init ks ∧ out.length ≤ 65 * ks1.length ∧ Same H H1 ∧ H lA = none ∧ H rA = none ∧ t ≠ lA ∧ t ≠ rA) (fun σ _ => atV σ)
      ⟨[], ks, Sw98.init, lA0, rA0, [], none, none, none, none, rfl, rfl, F0.same s0', upd_same, rfl, Nat.zero_le _, s0.trans s0', big _ fl, big _ fr, (fun e => ne_of_none hl0 ht e.symm), (fun e => ne_of_none hr0 ht e.symm)⟩ ?_ ?_
    · rintro σ H1 ⟨ks1, ks2, f, lA, rA, out, v4, v5, v6, v7, eks, rfl, hF, ht, epl, hol0, s1, nl, nr, tl, tr⟩
      have hk1 : ks1.length ≤ 40 := by
        have := congrArg List.length eks
        rw [List.length_append] at this
        omega
      have hol : out.length ≤ 2600 := by omega
      refine ⟨_, rfl, _, rfl, a, _, rfl, .inl (s1.seq hS), _, _, rfl, rfl, _, rfl, ite2 (fun e => ?_) (fun e => ?_)⟩
      · have e := of_decide_eq_true e
        rw [List.length_map] at e
        cases ks2 with
        | nil =>
          rw [List.append_nil] at eks
          rw [ens, eks] at e
          omega
        | cons c ks3 =>
          have hcm : c ∈ ks := by rw [eks]; exact List.mem_append_right _ List.mem_cons_self
          have ens2 : ns = ks1.flatMap enc ++ (enc c ++ ks3.flatMap enc) := by
            rw [ens, eks, List.flatMap_append, List.flatMap_cons]
          have epos : (ks1.flatMap enc).length < 2000 := by omega
          have eat : ((ks1 ++ [c]).flatMap enc).length = (ks1.flatMap enc).length + (enc c).length := by
            rw [List.flatMap_append, List.length_append, List.flatMap_cons, List.flatMap_nil, List.append_nil]
          have eall : (ks1.flatMap enc).length + (enc c).length ≤ ns.length := by
            rw [ens2, List.length_append, List.length_append]
            omega
          have hkind : (ns.map V.int)[(ks1.flatMap enc).length]? = some (.int (kindN c : Nat)) := by
            rw [ens2, List.getElem?_map, List.getElem?_append_right (Nat.le_refl _), Nat.sub_self]
            by_cases q : kindN c < 4
            · rw [(enc_low q).1]
              rfl
            · rw [enc_high q]
              rfl
          refine ⟨_, rfl, _, rfl, a, _, _, _, rfl, rfl, s1.seq hS, atI_nat hkind, ?_⟩
          refine ⟨_, rfl, _, _, rfl, rfl, ?_⟩
          refine ⟨_, rfl, aN, _, rfl, .inr (qN _), _, _, rfl, rfl, _, rfl, ite2 (fun q => ?_) (fun q => ?_)⟩
          · have q : kindN c < 4 := by
              have := of_decide_eq_true q
              have e4 : ((nbT.length : Nat) : Int) = 4 := rfl
              omega
            obtain ⟨ee, el⟩ := enc_low q
            have elen : (enc c).length = 1 + behind (kindN c) := by
              rw [ee, List.length_cons, toZ_len, el]
              omega
            refine ⟨_, rfl, _, rfl, aN, _, _, _, rfl, rfl, qN _, atI_nat (nbT_at q), _, _, rfl, rfl, ?_⟩
            have hcut : cutV (ns.map V.int) (some (((ks1.flatMap enc).length : Int) + 1)) (some (((ks1.flatMap enc).length : Int) + 1 + (behind (kindN c) : Nat))) = nv (given c) := by
              have e1 : ns.map V.int = ((ks1.flatMap enc).map V.int ++ [V.int (kindN c : Nat)]) ++ (nv (given c) ++ (ks3.flatMap enc).map V.int) := by
                rw [ens2, ee, List.map_append, List.map_append, List.map_cons, toZ_nv, List.append_assoc]
                rfl
              rw [e1]
              refine cut_mid ?_ ?_
              · rw [List.length_append, List.length_map, List.length_singleton]
                omega
              · rw [List.length_append, List.length_map, List.length_singleton, nv_len, el]
                omega
            have hfo : ((((ks1 ++ [c]).flatMap enc).length : Nat) : Int) = ((ks1.flatMap enc).length : Int) + 1 + (behind (kindN c) : Nat) := by
              rw [eat, elen]
              omega
            refine ⟨_, rfl, _, rfl, _, rfl, _, rfl, _, rfl, _, rfl, _, rfl, a, _, rfl, s1.seq hS, fun g hg => ?_⟩
            rw [hcut]
            have sg : Same H1 (upd H1 g (.lst (nv (given c)))) := same_new hg
            have gg : (upd H1 g (.lst (nv (given c)))) g = some (.lst (nv (given c))) := upd_same
            revert sg gg
            generalize upd H1 g (.lst (nv (given c))) = Hg
            intro sg gg
            have tg := sg _ _ ht
            refine ⟨x, lA, rA, g, f, c, rfl, hF.same sg, gg, hsm c hcm, fun H2 r lA' rA' F2 M2 sep er h64 => ?_⟩
            have ht2 := M2.rest t _ tg tx tl tr
            have rt : r ≠ t := Ne.symm (sep t _ tg tx tl tr)
            have keep : Same H H2 := fun b o e => M2.rest b o (sg _ _ (s1 _ _ e)) (ne_of_none e nx) (ne_of_none e nl) (ne_of_none e nr)
            have nl' : H lA' = none := by
              rcases M2.l with e | e
              · rw [e]; exact nl
              · exact s1.free (sg.free e)
            have nr' : H rA' = none := by
              rcases M2.r with e | e
              · rw [e]; exact nr
              · exact s1.free (sg.free e)
            have tl' : t ≠ lA' := by
              rcases M2.l with e | e
              · rw [e]; exact tl
              · exact ne_of_none tg e
            have tr' : t ≠ rA' := by
              rcases M2.r with e | e
              · rw [e]; exact tr
              · exact ne_of_none tg e
            refine ⟨_, rfl, .inl ⟨rfl, _, SqL.of ht2⟩, _, rfl, r, _, rfl, .inl (SqL.of er), t, _, _, rfl, rfl, ht2, (by rw [List.length_map]; exact Nat.lt_of_le_of_lt hol (by decide)), ?_⟩
            refine ⟨_, rfl, .inl ⟨rfl, _, SqL.of upd_same⟩, _, rfl, t, r, _, _, rfl, rfl, upd_same, (by rw [upd_ne rt]; exact er), ?_, ?_⟩
            · rw [List.length_append, List.length_map, List.length_map]
              exact Nat.le_trans (Nat.add_le_add (Nat.add_le_add_right hol _) h64) (by show 2600 + 1 + 64 ≤ sizeLine; decide)
            have up : ∀ b o, H2 b = some o → b ≠ t → (upd (upd H2 t (.lst (out.map V.int ++ [V.int (((Sw98Neutral.out (Sw98.step f c).2).map V.int).length : Nat)]))) t (.lst (out.map V.int ++ [V.int (((Sw98Neutral.out (Sw98.step f c).2).map V.int).length : Nat)] ++ (Sw98Neutral.out (Sw98.step f c).2).map V.int))) b = some o := fun b o e n => by
              rw [upd_ne n, upd_ne n]
              exact e
            refine ⟨_, rfl, ⟨ks1 ++ [c], ks3, (Sw98.step f c).1, lA', rA', out ++ (((Sw98Neutral.out (Sw98.step f c).2).length : Int) :: Sw98Neutral.out (Sw98.step f c).2), some (.int (kindN c : Nat)), some (.int (((ks1.flatMap enc).length : Int) + 1)), some (.int (((ks1.flatMap enc).length : Int) + 1 + (behind (kindN c) : Nat))), some (.ref r), ?_, ?_, F2.updT up (Ne.symm tx) (Ne.symm tl') (Ne.symm tr') ht2, ?_, ?_, ?_, (fun b o e => up b o (keep b o e) (ne_of_none e nt)), nl', nr', tl', tr'⟩, ?_⟩
            · rw [List.append_assoc]
              exact eks
            · rw [hfo]
              rfl
            · rw [upd_same, List.map_append, List.map_cons, List.length_map, List.append_assoc]
              rfl
            · rw [← epl, List.append_assoc]
              rfl
            · rw [List.length_append, List.length_cons, List.length_append, List.length_singleton]
              omega
            · show 3000 - Int.toNat (((ks1.flatMap enc).length : Int) + 1 + (behind (kindN c) : Nat)) < 3000 - Int.toNat ((ks1.flatMap enc).length : Int)
              rw [← hfo, Int.toNat_natCast, Int.toNat_natCast, eat, elen]
              omega
          · have q : ¬ kindN c < 4 := fun z => q (decide_eq_true (by
              have e4 : ((nbT.length : Nat) : Int) = 4 := rfl
              omega))
            have ee := enc_high q
            have elen : (enc c).length = 2 + (given c).length := by
              rw [ee, List.length_cons, List.length_cons, toZ_len]
              omega
            have hlenat : (ns.map V.int)[(ks1.flatMap enc).length + 1]? = some (.int ((given c).length : Nat)) := by
              rw [ens2, List.getElem?_map, List.getElem?_append_right (by omega), ee, show (ks1.flatMap enc).length + 1 - (ks1.flatMap enc).length = 1 by omega]
              rfl
            have hlen2 : atI (ns.map V.int) (((ks1.flatMap enc).length : Int) + 1) = some (.int ((given c).length : Nat)) := by
              have := atI_nat hlenat
              rw [Int.natCast_add] at this
              exact this
            refine ⟨_, rfl, _, _, rfl, rfl, ?_⟩
            refine ⟨_, rfl, _, rfl, _, rfl, _, _, rfl, rfl, a, _, _, _, rfl, rfl, s1.seq hS, hlen2, _, _, rfl, rfl, ?_⟩
            have hcut : cutV (ns.map V.int) (some (((ks1.flatMap enc).length : Int) + 2)) (some (((ks1.flatMap enc).length : Int) + 2 + ((given c).length : Nat))) = nv (given c) := by
              have e1 : ns.map V.int = ((ks1.flatMap enc).map V.int ++ [V.int (kindN c : Nat), V.int ((given c).length : Nat)]) ++ (nv (given c) ++ (ks3.flatMap enc).map V.int) := by
                rw [ens2, ee, List.map_append, List.map_append, List.map_cons, List.map_cons, toZ_nv, List.append_assoc]
                rfl
              rw [e1]
              refine cut_mid ?_ ?_
              · rw [List.length_append, List.length_map]
                show _ = ((_ + 2 : Nat) : Int)
                omega
              · rw [List.length_append, List.length_map, nv_len]
                show _ = ((_ + 2 + _ : Nat) : Int)
                omega
            have hfo : ((((ks1 ++ [c]).flatMap enc).length : Nat) : Int) = ((ks1.flatMap enc).length : Int) + 2 + ((given c).length : Nat) := by
              rw [eat, elen]
              omega
            refine ⟨_, rfl, _, rfl, _, rfl, _, rfl, _, rfl, _, rfl, _, rfl, a, _, rfl, s1.seq hS, fun g hg => ?_⟩
            rw [hcut]
            have sg : Same H1 (upd H1 g (.lst (nv (given c)))) := same_new hg
            have gg : (upd H1 g (.lst (nv (given c)))) g = some (.lst (nv (given c))) := upd_same
            revert sg gg
            generalize upd H1 g (.lst (nv (given c))) = Hg
            intro sg gg
            have tg := sg _ _ ht
            refine ⟨x, lA, rA, g, f, c, rfl, hF.same sg, gg, hsm c hcm, fun H2 r lA' rA' F2 M2 sep er h64 => ?_⟩
            have ht2 := M2.rest t _ tg tx tl tr
            have rt : r ≠ t := Ne.symm (sep t _ tg tx tl tr)
            have keep : Same H H2 := fun b o e => M2.rest b o (sg _ _ (s1 _ _ e)) (ne_of_none e nx) (ne_of_none e nl) (ne_of_none e nr)
            have nl' : H lA' = none := by
              rcases M2.l with e | e
              · rw [e]; exact nl
              · exact s1.free (sg.free e)
            have nr' : H rA' = none := by
              rcases M2.r with e | e
              · rw [e]; exact nr
              · exact s1.free (sg.free e)
            have tl' : t ≠ lA' := by
              rcases M2.l with e | e
              · rw [e]; exact tl
              · exact ne_of_none tg e
            have tr' : t ≠ rA' := by
              rcases M2.r with e | e
              · rw [e]; exact tr
              · exact ne_of_none tg e
            refine ⟨_, rfl, .inl ⟨rfl, _, SqL.of ht2⟩, _, rfl, r, _, rfl, .inl (SqL.of er), t, _, _, rfl, rfl, ht2, (by rw [List.length_map]; exact Nat.lt_of_le_of_lt hol (by decide)), ?_⟩
            refine ⟨_, rfl, .inl ⟨rfl, _, SqL.of upd_same⟩, _, rfl, t, r, _, _, rfl, rfl, upd_same, (by rw [upd_ne rt]; exact er), ?_, ?_⟩
            · rw [List.length_append, List.length_map, List.length_map]
              exact Nat.le_trans (Nat.add_le_add (Nat.add_le_add_right hol _) h64) (by show 2600 + 1 + 64 ≤ sizeLine; decide)
            have up : ∀ b o, H2 b = some o → b ≠ t → (upd (upd H2 t (.lst (out.map V.int ++ [V.int (((Sw98Neutral.out (Sw98.step f c).2).map V.int).length : Nat)]))) t (.lst (out.map V.int ++ [V.int (((Sw98Neutral.out (Sw98.step f c).2).map V.int).length : Nat)] ++ (Sw98Neutral.out (Sw98.step f c).2).map V.int))) b = some o := fun b o e n => by
              rw [upd_ne n, upd_ne n]
              exact e
            refine ⟨_, rfl, ⟨ks1 ++ [c], ks3, (Sw98.step f c).1, lA', rA', out ++ (((Sw98Neutral.out (Sw98.step f c).2).length : Int) :: Sw98Neutral.out (Sw98.step f c).2), some (.int (kindN c : Nat)), some (.int (((ks1.flatMap enc).length : Int) + 2)), some (.int (((ks1.flatMap enc).length : Int) + 2 + ((given c).length : Nat))), some (.ref r), ?_, ?_, F2.updT up (Ne.symm tx) (Ne.symm tl') (Ne.symm tr') ht2, ?_, ?_, ?_, (fun b o e => up b o (keep b o e) (ne_of_none e nt)), nl', nr', tl', tr'⟩, ?_⟩
            · rw [List.append_assoc]
              exact eks
            · rw [hfo]
              rfl
            · rw [upd_same, List.map_append, List.map_cons, List.length_map, List.append_assoc]
              rfl
            · rw [← epl, List.append_assoc]
              rfl
            · rw [List.length_append, List.length_cons, List.length_append, List.length_singleton]
              omega
            · show 3000 - Int.toNat (((ks1.flatMap enc).length : Int) + 2 + ((given c).length : Nat)) < 3000 - Int.toNat ((ks1.flatMap enc).length : Int)
              rw [← hfo, Int.toNat_natCast, Int.toNat_natCast, eat, elen]
              omega
      · have e : ¬ (((ks1.flatMap enc).length : Nat) : Int) < (((ns.map V.int).length : Nat) : Int) := fun z => e (decide_eq_true z)
        rw [List.length_map] at e
        have : ks2 = [] := by
          cases ks2 with
          | nil => rfl
          | cons c ks3 =>
            exfalso
            rw [ens, eks, List.flatMap_append, List.flatMap_cons, List.length_append, List.length_append] at e
            have : 0 < (enc c).length := by
              by_cases q : kindN c < 4
              · rw [(enc_low q).1]
                exact Nat.succ_pos _
              · rw [enc_high q]
                exact Nat.succ_pos _
            omega
        subst this
        have ep : out = PySw98.answers ns := by
          rw [epl0, ← epl]
          show out = out ++ []
          rw [List.append_nil]
        refine ⟨_, rfl, k H1 t ?_⟩
        rw [ht, ep]
    · rintro σ H1 Q1 Q2 hQ ⟨v, e1, u, e2, p, ys, e3, e4, i, j, e5, e6, b, e7, z⟩
      exact ⟨v, e1, u, e2, p, ys, e3, e4, i, j, e5, e6, b, e7, hQ _ _ z⟩
end
end Fr
set_option Elab.async false
set_option linter.all false
namespace Fr
open PySem PySem.Spec PyProof.Rows L2
open PySem.W (Codec)
set_option maxRecDepth 100000
set_option maxHeartbeats 4000000
theorem sqN {K : PySem.W.Frag} {aN : Addr} {t1 t2 t3 t4 : Tok} {od : Option Addr} {n : Nat} {sl : Array (Option Value)} (h : K.lookup aN = some ⟨.type "tuple", od, .seq #[.int 1 t1, .int 4 t2, .int 2 t3, .int 0 t4] n, sl⟩) (H : Hp) : SqT K H aN nbT :=
  .inr ⟨_, _, n, h, rfl, rfl, (by show 4 ≤ sizeLine; decide), .cons ⟨t1, rfl⟩ (.cons ⟨t2, rfl⟩ (.cons ⟨t3, rfl⟩ (.cons ⟨t4, rfl⟩ .nil)))⟩
theorem all_mk {P : Program} {w : World} {K : PySem.W.Frag} {h : Heap} {mg : Str → Option Value} {fa : Addr} (X : K.In h) (G : h.Ns mainGlobals mg) (hfa : mg "answers" = some (.ref fa))
    {u0 : Tok}
    {u1 : Tok}
    {u2 : Tok}
    {u3 : Tok}
    {u4 : Tok}
    {u5 : Tok}
    {u6 : Tok}
    {u7 : Tok}
    {u8 : Tok}
    {u9 : Tok}
    {u10 : Tok}
    {u11 : Tok}
    {u12 : Tok}
    {u13 : Tok}
    {u14 : Tok}
    {u15 : Tok}
    {u16 : Tok}
    {aN : Addr} {tN1 tN2 tN3 tN4 : Tok} {odN : Option Addr} {nN : Nat} {slN : Array (Option Value)}
    {CA CR CB CC CF : Addr}
    {fExt : Addr} {odExt anExt : Option Addr} {slExt : Array (Option Value)} {ocExt kVExt dcExt pmExt cdExt ctExt : Value}
    {fMks : Addr} {odMks anMks : Option Addr} {slMks : Array (Option Value)} {ocMks kVMks dcMks pmMks cdMks ctMks : Value}
    {fSts : Addr} {odSts anSts : Option Addr} {slSts : Array (Option Value)} {ocSts kVSts dcSts pmSts cdSts ctSts : Value}
    {fGrp : Addr} {odGrp anGrp : Option Addr} {slGrp : Array (Option Value)} {ocGrp kVGrp dcGrp pmGrp cdGrp ctGrp : Value}
    {fChf : Addr} {odChf anChf : Option Addr} {slChf : Array (Option Value)} {ocChf kVChf dcChf pmChf cdChf ctChf : Value}
    {fPai : Addr} {odPai anPai : Option Addr} {slPai : Array (Option Value)} {ocPai kVPai dcPai pmPai cdPai ctPai : Value}
    {fRis : Addr} {odRis anRis : Option Addr} {slRis : Array (Option Value)} {ocRis kVRis dcRis pmRis cdRis ctRis : Value}
    {fRef : Addr} {odRef anRef : Option Addr} {slRef : Array (Option Value)} {ocRef kVRef dcRef pmRef cdRef ctRef : Value}
    {fAns : Addr} {odAns anAns : Option Addr} {slAns : Array (Option Value)} {ocAns kVAns dcAns pmAns cdAns ctAns : Value}
    {fAof : Addr} {odAof anAof : Option Addr} {slAof : Array (Option Value)} {ocAof kVAof dcAof pmAof cdAof ctAof : Value}
    {fAwl : Addr} {odAwl anAwl : Option Addr} {slAwl : Array (Option Value)} {ocAwl kVAwl dcAwl pmAwl cdAwl ctAwl : Value}
    {fAnI : Addr} {odAnI anAnI : Option Addr} {slAnI : Array (Option Value)} {ocAnI kVAnI dcAnI pmAnI cdAnI ctAnI : Value}
    {fRoI : Addr} {odRoI anRoI : Option Addr} {slRoI : Array (Option Value)} {ocRoI kVRoI dcRoI pmRoI cdRoI ctRoI : Value}
    {fBuI : Addr} {odBuI anBuI : Option Addr} {slBuI : Array (Option Value)} {ocBuI kVBuI dcBuI pmBuI cdBuI ctBuI : Value}
    {fCw : Addr} {odCw anCw : Option Addr} {slCw : Array (Option Value)} {ocCw kVCw dcCw pmCw cdCw ctCw : Value}
    {fChI : Addr} {odChI anChI : Option Addr} {slChI : Array (Option Value)} {ocChI kVChI dcChI pmChI cdChI ctChI : Value}
    {fOff : Addr} {odOff anOff : Option Addr} {slOff : Array (Option Value)} {ocOff kVOff dcOff pmOff cdOff ctOff : Value}
    {fFoI : Addr} {odFoI anFoI : Option Addr} {slFoI : Array (Option Value)} {ocFoI kVFoI dcFoI pmFoI cdFoI ctFoI : Value}
    {fBeg : Addr} {odBeg anBeg : Option Addr} {slBeg : Array (Option Value)} {ocBeg kVBeg dcBeg pmBeg cdBeg ctBeg : Value}
    {fRoa : Addr} {odRoa anRoa : Option Addr} {slRoa : Array (Option Value)} {ocRoa kVRoa dcRoa pmRoa cdRoa ctRoa : Value}
    {fLoa : Addr} {odLoa anLoa : Option Addr} {slLoa : Array (Option Value)} {ocLoa kVLoa dcLoa pmLoa cdLoa ctLoa : Value}
    {fBst : Addr} {odBst anBst : Option Addr} {slBst : Array (Option Value)} {ocBst kVBst dcBst pmBst cdBst ctBst : Value}
    {fChe : Addr} {odChe anChe : Option Addr} {slChe : Array (Option Value)} {ocChe kVChe dcChe pmChe cdChe ctChe : Value}
    {fAlo : Addr} {odAlo anAlo : Option Addr} {slAlo : Array (Option Value)} {ocAlo kVAlo dcAlo pmAlo cdAlo ctAlo : Value}
    {fSha : Addr} {odSha anSha : Option Addr} {slSha : Array (Option Value)} {ocSha kVSha dcSha pmSha cdSha ctSha : Value}
    {fHas : Addr} {odHas anHas : Option Addr} {slHas : Array (Option Value)} {ocHas kVHas dcHas pmHas cdHas ctHas : Value}
    {fLan : Addr} {odLan anLan : Option Addr} {slLan : Array (Option Value)} {ocLan kVLan dcLan pmLan cdLan ctLan : Value}
    {fLfr : Addr} {odLfr anLfr : Option Addr} {slLfr : Array (Option Value)} {ocLfr kVLfr dcLfr pmLfr cdLfr ctLfr : Value}
    {fEvs : Addr} {odEvs anEvs : Option Addr} {slEvs : Array (Option Value)} {ocEvs kVEvs dcEvs pmEvs cdEvs ctEvs : Value}
    (q0 : PySem.W.nsIn K mainGlobals "GATE" = some (some (.int 0 u0)))
    (q1 : PySem.W.nsIn K mainGlobals "MOST_PLACES" = some (some (.int 7 u1)))
    (q2 : PySem.W.nsIn K mainGlobals "MOST_ROADS" = some (some (.int 9 u2)))
    (q3 : PySem.W.nsIn K mainGlobals "MOST_LANDINGS" = some (some (.int 4 u3)))
    (q4 : PySem.W.nsIn K mainGlobals "MOST_LOADS" = some (some (.int 1000 u4)))
    (q5 : PySem.W.nsIn K mainGlobals "MOST_COST" = some (some (.int 100000 u5)))
    (q6 : PySem.W.nsIn K mainGlobals "OUT_OF_BOUNDS" = some (some (.int (-1) u6)))
    (q7 : PySem.W.nsIn K mainGlobals "NO_SUCH" = some (some (.int (-2) u7)))
    (q8 : PySem.W.nsIn K mainGlobals "NOT_THE_COST" = some (some (.int (-3) u8)))
    (q9 : PySem.W.nsIn K mainGlobals "TOO_MANY" = some (some (.int (-5) u9)))
    (q10 : PySem.W.nsIn K mainGlobals "NOT_JOINED" = some (some (.int (-6) u10)))
    (q11 : PySem.W.nsIn K mainGlobals "BEGINS" = some (some (.int 0 u11)))
    (q12 : PySem.W.nsIn K mainGlobals "ROAD" = some (some (.int 1 u12)))
    (q13 : PySem.W.nsIn K mainGlobals "LOAD" = some (some (.int 2 u13)))
    (q14 : PySem.W.nsIn K mainGlobals "BEST" = some (some (.int 3 u14)))
    (q15 : PySem.W.nsIn K mainGlobals "CHECK" = some (some (.int 4 u15)))
    (q16 : PySem.W.nsIn K mainGlobals "ALONE" = some (some (.int 5 u16)))
    (z0 : PySem.W.nsIn K mainGlobals "range" = some none)
    (z1 : PySem.W.nsIn K mainGlobals "sum" = some none)
    (z2 : PySem.W.nsIn K mainGlobals "zip" = some none)
    (z3 : PySem.W.nsIn K mainGlobals "len" = some none)
    (z4 : PySem.W.nsIn K mainGlobals "all" = some none)
    (z5 : PySem.W.nsIn K mainGlobals "enumerate" = some none)
    (z6 : PySem.W.nsIn K mainGlobals "reversed" = some none)
    (nb : PySem.W.nsIn K mainGlobals "NUMBERS_BEHIND" = some (some (.ref aN)))
    (nl : K.lookup aN = some ⟨.type "tuple", odN, .seq #[.int 1 tN1, .int 4 tN2, .int 2 tN3, .int 0 tN4] nN, slN⟩)
    (aCA : PySem.W.nsIn K mainGlobals "Answer" = some (some (.ref CA)))
    (pgCA : PySem.W.plainGet K CA Str.empty = true)
    (hdCA : PySem.W.hasDictIn K CA = true)
    (poCA : PySem.W.plainOver K CA = true)
    (saCA : PySem.W.findIn K (.ref CA) "__setattr__" = some (some (.builtin "object.__setattr__")))
    (mkCA : PySem.W.makesIn K CA = true)
    (kcCA : PySem.W.keepIn K (.ref CA) = true)
    (nCA_number : PySem.W.findIn K (.ref CA) "number" = some none)
    (nCA_rows : PySem.W.findIn K (.ref CA) "rows" = some none)
    (aCR : PySem.W.nsIn K mainGlobals "Road" = some (some (.ref CR)))
    (pgCR : PySem.W.plainGet K CR Str.empty = true)
    (hdCR : PySem.W.hasDictIn K CR = true)
    (poCR : PySem.W.plainOver K CR = true)
    (saCR : PySem.W.findIn K (.ref CR) "__setattr__" = some (some (.builtin "object.__setattr__")))
    (mkCR : PySem.W.makesIn K CR = true)
    (kcCR : PySem.W.keepIn K (.ref CR) = true)
    (nCR_a : PySem.W.findIn K (.ref CR) "a" = some none)
    (nCR_b : PySem.W.findIn K (.ref CR) "b" = some none)
    (nCR_build : PySem.W.findIn K (.ref CR) "build" = some none)
    (nCR_carry : PySem.W.findIn K (.ref CR) "carry" = some none)
    (aCB : PySem.W.nsIn K mainGlobals "BuiltSet" = some (some (.ref CB)))
    (pgCB : PySem.W.plainGet K CB Str.empty = true)
    (hdCB : PySem.W.hasDictIn K CB = true)
    (poCB : PySem.W.plainOver K CB = true)
    (saCB : PySem.W.findIn K (.ref CB) "__setattr__" = some (some (.builtin "object.__setattr__")))
    (mkCB : PySem.W.makesIn K CB = true)
    (kcCB : PySem.W.keepIn K (.ref CB) = true)
    (nCB_numbers : PySem.W.findIn K (.ref CB) "numbers" = some none)
    (nCB_build : PySem.W.findIn K (.ref CB) "build" = some none)
    (nCB_marks : PySem.W.findIn K (.ref CB) "marks" = some none)
    (aCC : PySem.W.nsIn K mainGlobals "Cheapest" = some (some (.ref CC)))
    (pgCC : PySem.W.plainGet K CC Str.empty = true)
    (hdCC : PySem.W.hasDictIn K CC = true)
    (poCC : PySem.W.plainOver K CC = true)
    (saCC : PySem.W.findIn K (.ref CC) "__setattr__" = some (some (.builtin "object.__setattr__")))
    (mkCC : PySem.W.makesIn K CC = true)
    (kcCC : PySem.W.keepIn K (.ref CC) = true)
    (nCC_cost : PySem.W.findIn K (.ref CC) "cost" = some none)
    (nCC_how_many : PySem.W.findIn K (.ref CC) "how_many" = some none)
    (nCC_lowest : PySem.W.findIn K (.ref CC) "lowest" = some none)
    (aCF : PySem.W.nsIn K mainGlobals "Forest" = some (some (.ref CF)))
    (pgCF : PySem.W.plainGet K CF Str.empty = true)
    (hdCF : PySem.W.hasDictIn K CF = true)
    (poCF : PySem.W.plainOver K CF = true)
    (saCF : PySem.W.findIn K (.ref CF) "__setattr__" = some (some (.builtin "object.__setattr__")))
    (mkCF : PySem.W.makesIn K CF = true)
    (kcCF : PySem.W.keepIn K (.ref CF) = true)
    (nCF_loads : PySem.W.findIn K (.ref CF) "loads" = some none)
    (nCF_roads : PySem.W.findIn K (.ref CF) "roads" = some none)
    (aExt : PySem.W.nsIn K mainGlobals "extend_ways" = some (some (.ref fExt)))
    (lExt : K.lookup fExt = some ⟨ocExt, odExt, .func (PySem.W.fnOf "extend_ways" "extend_ways" (defArgs sExt) (defBody sExt) (defScope sExt) .none kVExt dcExt pmExt anExt cdExt ctExt), slExt⟩)
    (cExt : PySem.W.codeIn K cdExt "extend_ways" = true)
    (kExt : PySem.W.keepIn K (.ref fExt) = true)
    (aMks : PySem.W.nsIn K mainGlobals "place_marks" = some (some (.ref fMks)))
    (lMks : K.lookup fMks = some ⟨ocMks, odMks, .func (PySem.W.fnOf "place_marks" "place_marks" (defArgs sMks) (defBody sMks) (defScope sMks) .none kVMks dcMks pmMks anMks cdMks ctMks), slMks⟩)
    (cMks : PySem.W.codeIn K cdMks "place_marks" = true)
    (kMks : PySem.W.keepIn K (.ref fMks) = true)
    (aSts : PySem.W.nsIn K mainGlobals "sets_lowest_first" = some (some (.ref fSts)))
    (lSts : K.lookup fSts = some ⟨ocSts, odSts, .func (PySem.W.fnOf "sets_lowest_first" "sets_lowest_first" (defArgs sSts) (defBody sSts) (defScope sSts) .none kVSts dcSts pmSts anSts cdSts ctSts), slSts⟩)
    (cSts : PySem.W.codeIn K cdSts "sets_lowest_first" = true)
    (kSts : PySem.W.keepIn K (.ref fSts) = true)
    (aGrp : PySem.W.nsIn K mainGlobals "groups_earliest_first" = some (some (.ref fGrp)))
    (lGrp : K.lookup fGrp = some ⟨ocGrp, odGrp, .func (PySem.W.fnOf "groups_earliest_first" "groups_earliest_first" (defArgs sGrp) (defBody sGrp) (defScope sGrp) .none kVGrp dcGrp pmGrp anGrp cdGrp ctGrp), slGrp⟩)
    (cGrp : PySem.W.codeIn K cdGrp "groups_earliest_first" = true)
    (kGrp : PySem.W.keepIn K (.ref fGrp) = true)
    (aChf : PySem.W.nsIn K mainGlobals "cheapest_for" = some (some (.ref fChf)))
    (lChf : K.lookup fChf = some ⟨ocChf, odChf, .func (PySem.W.fnOf "cheapest_for" "cheapest_for" (defArgs sChf) (defBody sChf) (defScope sChf) .none kVChf dcChf pmChf anChf cdChf ctChf), slChf⟩)
    (cChf : PySem.W.codeIn K cdChf "cheapest_for" = true)
    (kChf : PySem.W.keepIn K (.ref fChf) = true)
    (aPai : PySem.W.nsIn K mainGlobals "paid_together" = some (some (.ref fPai)))
    (lPai : K.lookup fPai = some ⟨ocPai, odPai, .func (PySem.W.fnOf "paid_together" "paid_together" (defArgs sPai) (defBody sPai) (defScope sPai) .none kVPai dcPai pmPai anPai cdPai ctPai), slPai⟩)
    (cPai : PySem.W.codeIn K cdPai "paid_together" = true)
    (kPai : PySem.W.keepIn K (.ref fPai) = true)
    (aRis : PySem.W.nsIn K mainGlobals "rise" = some (some (.ref fRis)))
    (lRis : K.lookup fRis = some ⟨ocRis, odRis, .func (PySem.W.fnOf "rise" "rise" (defArgs sRis) (defBody sRis) (defScope sRis) .none kVRis dcRis pmRis anRis cdRis ctRis), slRis⟩)
    (cRis : PySem.W.codeIn K cdRis "rise" = true)
    (kRis : PySem.W.keepIn K (.ref fRis) = true)
    (aRef : PySem.W.nsIn K mainGlobals "refusal" = some (some (.ref fRef)))
    (lRef : K.lookup fRef = some ⟨ocRef, odRef, .func (PySem.W.fnOf "refusal" "refusal" (defArgs sRef) (defBody sRef) (defScope sRef) .none kVRef dcRef pmRef anRef cdRef ctRef), slRef⟩)
    (cRef : PySem.W.codeIn K cdRef "refusal" = true)
    (kRef : PySem.W.keepIn K (.ref fRef) = true)
    (aAns : PySem.W.nsIn K mainGlobals "answers" = some (some (.ref fAns)))
    (lAns : K.lookup fAns = some ⟨ocAns, odAns, .func (PySem.W.fnOf "answers" "answers" (defArgs sAns) (defBody sAns) (defScope sAns) .none kVAns dcAns pmAns anAns cdAns ctAns), slAns⟩)
    (cAns : PySem.W.codeIn K cdAns "answers" = true)
    (kAns : PySem.W.keepIn K (.ref fAns) = true)
    (aAof : PySem.W.nsIn K mainGlobals "answer_of" = some (some (.ref fAof)))
    (lAof : K.lookup fAof = some ⟨ocAof, odAof, .func (PySem.W.fnOf "answer_of" "answer_of" (defArgs sAof) (defBody sAof) (defScope sAof) .none kVAof dcAof pmAof anAof cdAof ctAof), slAof⟩)
    (cAof : PySem.W.codeIn K cdAof "answer_of" = true)
    (kAof : PySem.W.keepIn K (.ref fAof) = true)
    (aAwl : PySem.W.nsIn K mainGlobals "answer_with_lists" = some (some (.ref fAwl)))
    (lAwl : K.lookup fAwl = some ⟨ocAwl, odAwl, .func (PySem.W.fnOf "answer_with_lists" "answer_with_lists" (defArgs sAwl) (defBody sAwl) (defScope sAwl) .none kVAwl dcAwl pmAwl anAwl cdAwl ctAwl), slAwl⟩)
    (cAwl : PySem.W.codeIn K cdAwl "answer_with_lists" = true)
    (kAwl : PySem.W.keepIn K (.ref fAwl) = true)
    (aAnI : PySem.W.findIn K (.ref CA) "__init__" = some (some (.ref fAnI)))
    (iAnI : PySem.W.isFn K (.ref fAnI) = true)
    (lAnI : K.lookup fAnI = some ⟨ocAnI, odAnI, .func (PySem.W.fnOf "__init__" "Answer.__init__" (defArgs sAnI) (defBody sAnI) (defScope sAnI) .none kVAnI dcAnI pmAnI anAnI cdAnI ctAnI), slAnI⟩)
    (cAnI : PySem.W.codeIn K cdAnI "Answer.__init__" = true)
    (kAnI : PySem.W.keepIn K (.ref fAnI) = true)
    (aRoI : PySem.W.findIn K (.ref CR) "__init__" = some (some (.ref fRoI)))
    (iRoI : PySem.W.isFn K (.ref fRoI) = true)
    (lRoI : K.lookup fRoI = some ⟨ocRoI, odRoI, .func (PySem.W.fnOf "__init__" "Road.__init__" (defArgs sRoI) (defBody sRoI) (defScope sRoI) .none kVRoI dcRoI pmRoI anRoI cdRoI ctRoI), slRoI⟩)
    (cRoI : PySem.W.codeIn K cdRoI "Road.__init__" = true)
    (kRoI : PySem.W.keepIn K (.ref fRoI) = true)
    (aBuI : PySem.W.findIn K (.ref CB) "__init__" = some (some (.ref fBuI)))
    (iBuI : PySem.W.isFn K (.ref fBuI) = true)
    (lBuI : K.lookup fBuI = some ⟨ocBuI, odBuI, .func (PySem.W.fnOf "__init__" "BuiltSet.__init__" (defArgs sBuI) (defBody sBuI) (defScope sBuI) .none kVBuI dcBuI pmBuI anBuI cdBuI ctBuI), slBuI⟩)
    (cBuI : PySem.W.codeIn K cdBuI "BuiltSet.__init__" = true)
    (kBuI : PySem.W.keepIn K (.ref fBuI) = true)
    (aCw : PySem.W.findIn K (.ref CB) "cost_with" = some (some (.ref fCw)))
    (iCw : PySem.W.isFn K (.ref fCw) = true)
    (lCw : K.lookup fCw = some ⟨ocCw, odCw, .func (PySem.W.fnOf "cost_with" "BuiltSet.cost_with" (defArgs sCw) (defBody sCw) (defScope sCw) .none kVCw dcCw pmCw anCw cdCw ctCw), slCw⟩)
    (cCw : PySem.W.codeIn K cdCw "BuiltSet.cost_with" = true)
    (kCw : PySem.W.keepIn K (.ref fCw) = true)
    (aChI : PySem.W.findIn K (.ref CC) "__init__" = some (some (.ref fChI)))
    (iChI : PySem.W.isFn K (.ref fChI) = true)
    (lChI : K.lookup fChI = some ⟨ocChI, odChI, .func (PySem.W.fnOf "__init__" "Cheapest.__init__" (defArgs sChI) (defBody sChI) (defScope sChI) .none kVChI dcChI pmChI anChI cdChI ctChI), slChI⟩)
    (cChI : PySem.W.codeIn K cdChI "Cheapest.__init__" = true)
    (kChI : PySem.W.keepIn K (.ref fChI) = true)
    (aOff : PySem.W.findIn K (.ref CC) "offer" = some (some (.ref fOff)))
    (iOff : PySem.W.isFn K (.ref fOff) = true)
    (lOff : K.lookup fOff = some ⟨ocOff, odOff, .func (PySem.W.fnOf "offer" "Cheapest.offer" (defArgs sOff) (defBody sOff) (defScope sOff) .none kVOff dcOff pmOff anOff cdOff ctOff), slOff⟩)
    (cOff : PySem.W.codeIn K cdOff "Cheapest.offer" = true)
    (kOff : PySem.W.keepIn K (.ref fOff) = true)
    (aFoI : PySem.W.findIn K (.ref CF) "__init__" = some (some (.ref fFoI)))
    (iFoI : PySem.W.isFn K (.ref fFoI) = true)
    (lFoI : K.lookup fFoI = some ⟨ocFoI, odFoI, .func (PySem.W.fnOf "__init__" "Forest.__init__" (defArgs sFoI) (defBody sFoI) (defScope sFoI) .none kVFoI dcFoI pmFoI anFoI cdFoI ctFoI), slFoI⟩)
    (cFoI : PySem.W.codeIn K cdFoI "Forest.__init__" = true)
    (kFoI : PySem.W.keepIn K (.ref fFoI) = true)
    (aBeg : PySem.W.findIn K (.ref CF) "begins" = some (some (.ref fBeg)))
    (iBeg : PySem.W.isFn K (.ref fBeg) = true)
    (lBeg : K.lookup fBeg = some ⟨ocBeg, odBeg, .func (PySem.W.fnOf "begins" "Forest.begins" (defArgs sBeg) (defBody sBeg) (defScope sBeg) .none kVBeg dcBeg pmBeg anBeg cdBeg ctBeg), slBeg⟩)
    (cBeg : PySem.W.codeIn K cdBeg "Forest.begins" = true)
    (kBeg : PySem.W.keepIn K (.ref fBeg) = true)
    (aRoa : PySem.W.findIn K (.ref CF) "road" = some (some (.ref fRoa)))
    (iRoa : PySem.W.isFn K (.ref fRoa) = true)
    (lRoa : K.lookup fRoa = some ⟨ocRoa, odRoa, .func (PySem.W.fnOf "road" "Forest.road" (defArgs sRoa) (defBody sRoa) (defScope sRoa) .none kVRoa dcRoa pmRoa anRoa cdRoa ctRoa), slRoa⟩)
    (cRoa : PySem.W.codeIn K cdRoa "Forest.road" = true)
    (kRoa : PySem.W.keepIn K (.ref fRoa) = true)
    (aLoa : PySem.W.findIn K (.ref CF) "load" = some (some (.ref fLoa)))
    (iLoa : PySem.W.isFn K (.ref fLoa) = true)
    (lLoa : K.lookup fLoa = some ⟨ocLoa, odLoa, .func (PySem.W.fnOf "load" "Forest.load" (defArgs sLoa) (defBody sLoa) (defScope sLoa) .none kVLoa dcLoa pmLoa anLoa cdLoa ctLoa), slLoa⟩)
    (cLoa : PySem.W.codeIn K cdLoa "Forest.load" = true)
    (kLoa : PySem.W.keepIn K (.ref fLoa) = true)
    (aBst : PySem.W.findIn K (.ref CF) "best" = some (some (.ref fBst)))
    (iBst : PySem.W.isFn K (.ref fBst) = true)
    (lBst : K.lookup fBst = some ⟨ocBst, odBst, .func (PySem.W.fnOf "best" "Forest.best" (defArgs sBst) (defBody sBst) (defScope sBst) .none kVBst dcBst pmBst anBst cdBst ctBst), slBst⟩)
    (cBst : PySem.W.codeIn K cdBst "Forest.best" = true)
    (kBst : PySem.W.keepIn K (.ref fBst) = true)
    (aChe : PySem.W.findIn K (.ref CF) "check" = some (some (.ref fChe)))
    (iChe : PySem.W.isFn K (.ref fChe) = true)
    (lChe : K.lookup fChe = some ⟨ocChe, odChe, .func (PySem.W.fnOf "check" "Forest.check" (defArgs sChe) (defBody sChe) (defScope sChe) .none kVChe dcChe pmChe anChe cdChe ctChe), slChe⟩)
    (cChe : PySem.W.codeIn K cdChe "Forest.check" = true)
    (kChe : PySem.W.keepIn K (.ref fChe) = true)
    (aAlo : PySem.W.findIn K (.ref CF) "alone" = some (some (.ref fAlo)))
    (iAlo : PySem.W.isFn K (.ref fAlo) = true)
    (lAlo : K.lookup fAlo = some ⟨ocAlo, odAlo, .func (PySem.W.fnOf "alone" "Forest.alone" (defArgs sAlo) (defBody sAlo) (defScope sAlo) .none kVAlo dcAlo pmAlo anAlo cdAlo ctAlo), slAlo⟩)
    (cAlo : PySem.W.codeIn K cdAlo "Forest.alone" = true)
    (kAlo : PySem.W.keepIn K (.ref fAlo) = true)
    (aSha : PySem.W.findIn K (.ref CF) "shares" = some (some (.ref fSha)))
    (iSha : PySem.W.isFn K (.ref fSha) = true)
    (lSha : K.lookup fSha = some ⟨ocSha, odSha, .func (PySem.W.fnOf "shares" "Forest.shares" (defArgs sSha) (defBody sSha) (defScope sSha) .none kVSha dcSha pmSha anSha cdSha ctSha), slSha⟩)
    (cSha : PySem.W.codeIn K cdSha "Forest.shares" = true)
    (kSha : PySem.W.keepIn K (.ref fSha) = true)
    (aHas : PySem.W.findIn K (.ref CF) "has_place" = some (some (.ref fHas)))
    (iHas : PySem.W.isFn K (.ref fHas) = true)
    (lHas : K.lookup fHas = some ⟨ocHas, odHas, .func (PySem.W.fnOf "has_place" "Forest.has_place" (defArgs sHas) (defBody sHas) (defScope sHas) .none kVHas dcHas pmHas anHas cdHas ctHas), slHas⟩)
    (cHas : PySem.W.codeIn K cdHas "Forest.has_place" = true)
    (kHas : PySem.W.keepIn K (.ref fHas) = true)
    (aLan : PySem.W.findIn K (.ref CF) "landings" = some (some (.ref fLan)))
    (iLan : PySem.W.isFn K (.ref fLan) = true)
    (lLan : K.lookup fLan = some ⟨ocLan, odLan, .func (PySem.W.fnOf "landings" "Forest.landings" (defArgs sLan) (defBody sLan) (defScope sLan) .none kVLan dcLan pmLan anLan cdLan ctLan), slLan⟩)
    (cLan : PySem.W.codeIn K cdLan "Forest.landings" = true)
    (kLan : PySem.W.keepIn K (.ref fLan) = true)
    (aLfr : PySem.W.findIn K (.ref CF) "loads_from" = some (some (.ref fLfr)))
    (iLfr : PySem.W.isFn K (.ref fLfr) = true)
    (lLfr : K.lookup fLfr = some ⟨ocLfr, odLfr, .func (PySem.W.fnOf "loads_from" "Forest.loads_from" (defArgs sLfr) (defBody sLfr) (defScope sLfr) .none kVLfr dcLfr pmLfr anLfr cdLfr ctLfr), slLfr⟩)
    (cLfr : PySem.W.codeIn K cdLfr "Forest.loads_from" = true)
    (kLfr : PySem.W.keepIn K (.ref fLfr) = true)
    (aEvs : PySem.W.findIn K (.ref CF) "every_set" = some (some (.ref fEvs)))
    (iEvs : PySem.W.isFn K (.ref fEvs) = true)
    (lEvs : K.lookup fEvs = some ⟨ocEvs, odEvs, .func (PySem.W.fnOf "every_set" "Forest.every_set" (defArgs sEvs) (defBody sEvs) (defScope sEvs) .none kVEvs dcEvs pmEvs anEvs cdEvs ctEvs), slEvs⟩)
    (cEvs : PySem.W.codeIn K cdEvs "Forest.every_set" = true)
    (kEvs : PySem.W.keepIn K (.ref fEvs) = true) :
    ∃ fd : FuncData, (∀ (s : Shared) (us : List Value), us.length = (["calls"] : List Str).length → BindsTo s fd ⟨us, []⟩ ((["calls"] : List Str).zip us)) ∧ ∀ base : Heap, K.In base → base.Ns mainGlobals mg → FnOk P w K mg base CX0 8 fa fd ["calls"] (spAns K) := by
  have e := hfa.symm.trans (PySem.W.mg_of X G aAns)
  cases e
  have FExt := fun_mk (st := sExt) lExt cExt kExt
  have bExt := FExt.binds (ps := ["marks", "nearer", "farther", "carry"]) fun _ _ _ _ _ _ us hl => match us, hl with | [_, _, _, _], _ => rfl
  have mExt := PySem.W.mg_of X G aExt
  have FMks := fun_mk (st := sMks) lMks cMks kMks
  have bMks := FMks.binds (ps := ["built", "places"]) fun _ _ _ _ _ _ us hl => match us, hl with | [_, _], _ => rfl
  have mMks := PySem.W.mg_of X G aMks
  have FSts := fun_mk (st := sSts) lSts cSts kSts
  have bSts := FSts.binds (ps := ["how_many"]) fun _ _ _ _ _ _ us hl => match us, hl with | [_], _ => rfl
  have mSts := PySem.W.mg_of X G aSts
  have FGrp := fun_mk (st := sGrp) lGrp cGrp kGrp
  have bGrp := FGrp.binds (ps := ["landings"]) fun _ _ _ _ _ _ us hl => match us, hl with | [_], _ => rfl
  have mGrp := PySem.W.mg_of X G aGrp
  have FChf := fun_mk (st := sChf) lChf cChf kChf
  have bChf := FChf.binds (ps := ["loads", "sets"]) fun _ _ _ _ _ _ us hl => match us, hl with | [_, _], _ => rfl
  have mChf := PySem.W.mg_of X G aChf
  have FPai := fun_mk (st := sPai) lPai cPai kPai
  have bPai := FPai.binds (ps := ["group", "paid"]) fun _ _ _ _ _ _ us hl => match us, hl with | [_, _], _ => rfl
  have mPai := PySem.W.mg_of X G aPai
  have FRis := fun_mk (st := sRis) lRis cRis kRis
  have bRis := FRis.binds (ps := ["numbers"]) fun _ _ _ _ _ _ us hl => match us, hl with | [_], _ => rfl
  have mRis := PySem.W.mg_of X G aRis
  have FRef := fun_mk (st := sRef) lRef cRef kRef
  have bRef := FRef.binds (ps := ["number"]) fun _ _ _ _ _ _ us hl => match us, hl with | [_], _ => rfl
  have mRef := PySem.W.mg_of X G aRef
  have FAns := fun_mk (st := sAns) lAns cAns kAns
  have bAns := FAns.binds (ps := ["calls"]) fun _ _ _ _ _ _ us hl => match us, hl with | [_], _ => rfl
  have mAns := PySem.W.mg_of X G aAns
  have FAof := fun_mk (st := sAof) lAof cAof kAof
  have bAof := FAof.binds (ps := ["forest", "kind", "given"]) fun _ _ _ _ _ _ us hl => match us, hl with | [_, _, _], _ => rfl
  have mAof := PySem.W.mg_of X G aAof
  have FAwl := fun_mk (st := sAwl) lAwl cAwl kAwl
  have bAwl := FAwl.binds (ps := ["answer"]) fun _ _ _ _ _ _ us hl => match us, hl with | [_], _ => rfl
  have mAwl := PySem.W.mg_of X G aAwl
  have FAnI := fun_mk (st := sAnI) lAnI cAnI kAnI
  have bAnI := FAnI.binds (ps := ["self", "number", "rows"]) fun _ _ _ _ _ _ us hl => match us, hl with | [_, _, _], _ => rfl
  have MAnI : Mk K CA fAnI := ⟨mkCA, aAnI, iAnI, kcCA⟩
  have FRoI := fun_mk (st := sRoI) lRoI cRoI kRoI
  have bRoI := FRoI.binds (ps := ["self", "a", "b", "build", "carry"]) fun _ _ _ _ _ _ us hl => match us, hl with | [_, _, _, _, _], _ => rfl
  have MRoI : Mk K CR fRoI := ⟨mkCR, aRoI, iRoI, kcCR⟩
  have FBuI := fun_mk (st := sBuI) lBuI cBuI kBuI
  have bBuI := FBuI.binds (ps := ["self", "numbers", "roads", "places"]) fun _ _ _ _ _ _ us hl => match us, hl with | [_, _, _, _], _ => rfl
  have MBuI : Mk K CB fBuI := ⟨mkCB, aBuI, iBuI, kcCB⟩
  have FCw := fun_mk (st := sCw) lCw cCw kCw
  have bCw := FCw.binds (ps := ["self", "loads"]) fun _ _ _ _ _ _ us hl => match us, hl with | [_, _], _ => rfl
  have mCw : Meth K CB "cost_with" fCw := ⟨aCw, iCw, kCw⟩
  have FChI := fun_mk (st := sChI) lChI cChI kChI
  have bChI := FChI.binds (ps := ["self"]) fun _ _ _ _ _ _ us hl => match us, hl with | [_], _ => rfl
  have MChI : Mk K CC fChI := ⟨mkCC, aChI, iChI, kcCC⟩
  have FOff := fun_mk (st := sOff) lOff cOff kOff
  have bOff := FOff.binds (ps := ["self", "cost", "chosen"]) fun _ _ _ _ _ _ us hl => match us, hl with | [_, _, _], _ => rfl
  have mOff : Meth K CC "offer" fOff := ⟨aOff, iOff, kOff⟩
  have FFoI := fun_mk (st := sFoI) lFoI cFoI kFoI
  have bFoI := FFoI.binds (ps := ["self"]) fun _ _ _ _ _ _ us hl => match us, hl with | [_], _ => rfl
  have MFoI : Mk K CF fFoI := ⟨mkCF, aFoI, iFoI, kcCF⟩
  have FBeg := fun_mk (st := sBeg) lBeg cBeg kBeg
  have bBeg := FBeg.binds (ps := ["self", "places"]) fun _ _ _ _ _ _ us hl => match us, hl with | [_, _], _ => rfl
  have mBeg : Meth K CF "begins" fBeg := ⟨aBeg, iBeg, kBeg⟩
  have FRoa := fun_mk (st := sRoa) lRoa cRoa kRoa
  have bRoa := FRoa.binds (ps := ["self", "a", "b", "build", "carry"]) fun _ _ _ _ _ _ us hl => match us, hl with | [_, _, _, _, _], _ => rfl
  have mRoa : Meth K CF "road" fRoa := ⟨aRoa, iRoa, kRoa⟩
  have FLoa := fun_mk (st := sLoa) lLoa cLoa kLoa
  have bLoa := FLoa.binds (ps := ["self", "i", "n"]) fun _ _ _ _ _ _ us hl => match us, hl with | [_, _, _], _ => rfl
  have mLoa : Meth K CF "load" fLoa := ⟨aLoa, iLoa, kLoa⟩
  have FBst := fun_mk (st := sBst) lBst cBst kBst
  have bBst := FBst.binds (ps := ["self"]) fun _ _ _ _ _ _ us hl => match us, hl with | [_], _ => rfl
  have mBst : Meth K CF "best" fBst := ⟨aBst, iBst, kBst⟩
  have FChe := fun_mk (st := sChe) lChe cChe kChe
  have bChe := FChe.binds (ps := ["self", "numbers"]) fun _ _ _ _ _ _ us hl => match us, hl with | [_, _], _ => rfl
  have mChe : Meth K CF "check" fChe := ⟨aChe, iChe, kChe⟩
  have FAlo := fun_mk (st := sAlo) lAlo cAlo kAlo
  have bAlo := FAlo.binds (ps := ["self", "group"]) fun _ _ _ _ _ _ us hl => match us, hl with | [_, _], _ => rfl
  have mAlo : Meth K CF "alone" fAlo := ⟨aAlo, iAlo, kAlo⟩
  have FSha := fun_mk (st := sSha) lSha cSha kSha
  have bSha := FSha.binds (ps := ["self", "paid"]) fun _ _ _ _ _ _ us hl => match us, hl with | [_, _], _ => rfl
  have mSha : Meth K CF "shares" fSha := ⟨aSha, iSha, kSha⟩
  have FHas := fun_mk (st := sHas) lHas cHas kHas
  have bHas := FHas.binds (ps := ["self", "i"]) fun _ _ _ _ _ _ us hl => match us, hl with | [_, _], _ => rfl
  have mHas : Meth K CF "has_place" fHas := ⟨aHas, iHas, kHas⟩
  have FLan := fun_mk (st := sLan) lLan cLan kLan
  have bLan := FLan.binds (ps := ["self"]) fun _ _ _ _ _ _ us hl => match us, hl with | [_], _ => rfl
  have mLan : Meth K CF "landings" fLan := ⟨aLan, iLan, kLan⟩
  have FLfr := fun_mk (st := sLfr) lLfr cLfr kLfr
  have bLfr := FLfr.binds (ps := ["self", "group"]) fun _ _ _ _ _ _ us hl => match us, hl with | [_, _], _ => rfl
  have mLfr : Meth K CF "loads_from" fLfr := ⟨aLfr, iLfr, kLfr⟩
  have FEvs := fun_mk (st := sEvs) lEvs cEvs kEvs
  have bEvs := FEvs.binds (ps := ["self"]) fun _ _ _ _ _ _ us hl => match us, hl with | [_], _ => rfl
  have mEvs : Meth K CF "every_set" fEvs := ⟨aEvs, iEvs, kEvs⟩
  have CCA : Cls K CA := ⟨pgCA, hdCA, poCA, saCA⟩
  have gCA := PySem.W.mg_of X G aCA
  have CCR : Cls K CR := ⟨pgCR, hdCR, poCR, saCR⟩
  have gCR := PySem.W.mg_of X G aCR
  have CCB : Cls K CB := ⟨pgCB, hdCB, poCB, saCB⟩
  have gCB := PySem.W.mg_of X G aCB
  have CCC : Cls K CC := ⟨pgCC, hdCC, poCC, saCC⟩
  have gCC := PySem.W.mg_of X G aCC
  have CCF : Cls K CF := ⟨pgCF, hdCF, poCF, saCF⟩
  have gCF := PySem.W.mg_of X G aCF
  have T0 : Txt K mg CR := ⟨CCR, nCR_a, nCR_b, nCR_build, nCR_carry, ⟨_, PySem.W.mg_of X G q0⟩, PySem.W.mg_none_of X G z0, PySem.W.mg_none_of X G z1, PySem.W.mg_none_of X G z2, PySem.W.mg_none_of X G z3, PySem.W.mg_none_of X G z4, PySem.W.mg_none_of X G z5, PySem.W.mg_none_of X G z6⟩
  have TB : TxtB K mg CB := ⟨CCB, nCB_numbers, nCB_build, nCB_marks, gCB⟩
  have TC : TxtC K mg CC := ⟨CCC, nCC_cost, nCC_how_many, nCC_lowest, gCC⟩
  have TA : TxtA K mg CA := ⟨CCA, nCA_number, nCA_rows, gCA⟩
  have T : TxtF K mg CR CF := ⟨CCF, nCF_loads, nCF_roads, gCF, gCR, ⟨_, PySem.W.mg_of X G q1⟩, ⟨_, PySem.W.mg_of X G q2⟩, ⟨_, PySem.W.mg_of X G q3⟩, ⟨_, PySem.W.mg_of X G q4⟩, ⟨_, PySem.W.mg_of X G q5⟩, ⟨_, PySem.W.mg_of X G q6⟩, ⟨_, PySem.W.mg_of X G q7⟩, ⟨_, PySem.W.mg_of X G q9⟩, ⟨_, PySem.W.mg_of X G q10⟩, ⟨_, PySem.W.mg_of X G q8⟩⟩
  have TK : TxtK mg := ⟨⟨_, PySem.W.mg_of X G q11⟩, ⟨_, PySem.W.mg_of X G q12⟩, ⟨_, PySem.W.mg_of X G q13⟩, ⟨_, PySem.W.mg_of X G q14⟩, ⟨_, PySem.W.mg_of X G q15⟩, ⟨_, PySem.W.mg_of X G q16⟩⟩
  refine ⟨PySem.W.fnOf "answers" "answers" (defArgs sAns) (defBody sAns) (defScope sAns) .none kVAns dcAns pmAns anAns cdAns ctAns, fun s us hu => match us, hu with | [_], _ => .of_eq rfl, fun base _ _ => ?_⟩
  have GMks : FnOk P w K mg base CX0 2 fMks _ _ (spMks CR) := ok_mks FMks T0 FExt bExt mExt
  have GBuI : FnOk P w K mg base CX0 3 fBuI _ _ (spBuI CR CB) := ok_buI FBuI T0 TB GMks kMks bMks mMks
  have GCw : FnOk P w K mg base CX0 1 fCw _ _ (spCw CB) := ok_cw FCw T0 TB
  have GSts : FnOk P w K mg base CX0 1 fSts _ _ spSts := ok_sts FSts T0
  have GChI : FnOk P w K mg base CX0 1 fChI _ _ (spChI CC CB) := ok_chI FChI TC
  have GOff : FnOk P w K mg base CX0 1 fOff _ _ (spOff CC CB) := ok_off FOff TC
  have GChf : FnOk P w K mg base CX0 3 fChf _ _ (spChf CC CB) := ok_chf FChf TC TB MChI GChI bChI GOff bOff mOff GCw bCw mCw
  have GRoI : FnOk P w K mg base CX0 1 fRoI _ _ (spRoI CR) := ok_roI FRoI T0
  have GFoI : FnOk P w K mg base CX0 1 fFoI _ _ (spFoI CR CF) := ok_foI FFoI T
  have GHas : FnOk P w K mg base CX0 1 fHas _ _ (spHas CR CF) := ok_has FHas T T0
  have GLan : FnOk P w K mg base CX0 1 fLan _ _ (spLan CR CF) := ok_lan FLan T T0
  have GLfr : FnOk P w K mg base CX0 1 fLfr _ _ (spLfr CR CF) := ok_lfr FLfr T T0
  have GEvs : FnOk P w K mg base CX0 5 fEvs _ _ (spEvs CR CF CB) := ok_evs FEvs T T0 TB GSts kSts bSts mSts MBuI GBuI bBuI
  have GBeg : FnOk P w K mg base CX0 1 fBeg _ _ (spBeg CR CF) := ok_beg FBeg T
  have GRoa : FnOk P w K mg base CX0 3 fRoa _ _ (spRoa CR CF) := ok_roa FRoa T T0 GHas bHas mHas MRoI GRoI bRoI
  have GLoa : FnOk P w K mg base CX0 2 fLoa _ _ (spLoa CR CF) := ok_loa FLoa T T0 GHas bHas mHas GLan bLan mLan
  have GAnI : FnOk P w K mg base CX0 1 fAnI _ _ (spAnI CA) := ok_anI FAnI TA
  have GAwl : FnOk P w K mg base CX0 1 fAwl _ _ (spAwl CA) := ok_awl FAwl TA T0
  have GRef : FnOk P w K mg base CX0 3 fRef _ _ (spRef CA) := ok_ref FRef TA MAnI GAnI bAnI
  have GRis : FnOk P w K mg base CX0 1 fRis _ _ spRis := ok_ris FRis T0
  have GPai : FnOk P w K mg base CX0 1 fPai _ _ spPai := ok_pai FPai T0
  have GGrp : FnOk P w K mg base CX0 1 fGrp _ _ spGrp := ok_grp FGrp T0
  have GBst : FnOk P w K mg base CX0 6 fBst _ _ (spBst CR CF CA) := ok_bst FBst T TC TB TA GChf kChf bChf mChf GEvs bEvs mEvs GRef kRef bRef mRef MAnI GAnI bAnI
  have GChe : FnOk P w K mg base CX0 5 fChe _ _ (spChe CR CF CA) := ok_che FChe T T0 TB TA GRis kRis bRis mRis MBuI GBuI bBuI GCw bCw mCw GRef kRef bRef mRef MAnI GAnI bAnI
  have GAlo : FnOk P w K mg base CX0 6 fAlo _ _ (spAlo CR CF CA) := ok_alo FAlo T T0 TC TB TA GRis kRis bRis mRis GLan bLan mLan GLfr bLfr mLfr GChf kChf bChf mChf GEvs bEvs mEvs GRef kRef bRef mRef MAnI GAnI bAnI
  have GSha : FnOk P w K mg base CX0 6 fSha _ _ (spSha CR CF CA) := ok_sha FSha T T0 TC TB TA GLan bLan mLan GLfr bLfr mLfr GPai kPai bPai mPai GGrp kGrp bGrp mGrp GChf kChf bChf mChf GEvs bEvs mEvs GRef kRef bRef mRef MAnI GAnI bAnI
  have GAof : FnOk P w K mg base CX0 7 fAof _ _ (spAof CR CF) := ok_aof FAof T TK GBeg bBeg mBeg GRoa bRoa mRoa GLoa bLoa mLoa GBst bBst mBst GChe bChe mChe GAlo bAlo mAlo GSha bSha mSha GAwl kAwl bAwl mAwl
  exact ok_ans FAns T T0 (PySem.W.mg_of X G nb) (sqN nl) MFoI GFoI bFoI GAof kAof bAof mAof
end Fr
open PySem PySem.W PyProof.Rows
set_option maxRecDepth 100000 in
set_option maxHeartbeats 0 in
theorem PySem.Challenge.cw_forestroads_s01_answers_holds : PySem.Challenge.rw_forestroads_s01_answers.Holds := by
  w_on; k_headS; (case hw => exact ⟨[.list [.int 3]], by decide +kernel, by decide +kernel⟩)
  k_fillS
  refine L2.walk_specK (r := PySem.Challenge.rw_forestroads_s01_answers) (k := 8) (CX := L2.CX0) (ps := ["calls"]) (sp := Fr.spAns) (by decide +kernel) rfl rfl ⟨rfl, by decide, by decide⟩ (fun w h Y => PySem.W.kIn_of Y) ?F ?S (fun _ _ _ _ z => z)
  case F =>
    intro w mg fa h Y KX G hmg
    refine' Fr.all_mk KX G hmg ?q0 ?q1 ?q2 ?q3 ?q4 ?q5 ?q6 ?q7 ?q8 ?q9 ?q10 ?q11 ?q12 ?q13 ?q14 ?q15 ?q16 ?z0 ?z1 ?z2 ?z3 ?z4 ?z5 ?z6 ?nb ?nl ?aCA ?pgCA ?hdCA ?poCA ?saCA ?mkCA ?kcCA ?nCA_number ?nCA_rows ?aCR ?pgCR ?hdCR ?poCR ?saCR ?mkCR ?kcCR ?nCR_a ?nCR_b ?nCR_build ?nCR_carry ?aCB ?pgCB ?hdCB ?poCB ?saCB ?mkCB ?kcCB ?nCB_numbers ?nCB_build ?nCB_marks ?aCC ?pgCC ?hdCC ?poCC ?saCC ?mkCC ?kcCC ?nCC_cost ?nCC_how_many ?nCC_lowest ?aCF ?pgCF ?hdCF ?poCF ?saCF ?mkCF ?kcCF ?nCF_loads ?nCF_roads ?aExt ?lExt ?cExt ?kExt ?aMks ?lMks ?cMks ?kMks ?aSts ?lSts ?cSts ?kSts ?aGrp ?lGrp ?cGrp ?kGrp ?aChf ?lChf ?cChf ?kChf ?aPai ?lPai ?cPai ?kPai ?aRis ?lRis ?cRis ?kRis ?aRef ?lRef ?cRef ?kRef ?aAns ?lAns ?cAns ?kAns ?aAof ?lAof ?cAof ?kAof ?aAwl ?lAwl ?cAwl ?kAwl ?aAnI ?iAnI ?lAnI ?cAnI ?kAnI ?aRoI ?iRoI ?lRoI ?cRoI ?kRoI ?aBuI ?iBuI ?lBuI ?cBuI ?kBuI ?aCw ?iCw ?lCw ?cCw ?kCw ?aChI ?iChI ?lChI ?cChI ?kChI ?aOff ?iOff ?lOff ?cOff ?kOff ?aFoI ?iFoI ?lFoI ?cFoI ?kFoI ?aBeg ?iBeg ?lBeg ?cBeg ?kBeg ?aRoa ?iRoa ?lRoa ?cRoa ?kRoa ?aLoa ?iLoa ?lLoa ?cLoa ?kLoa ?aBst ?iBst ?lBst ?cBst ?kBst ?aChe ?iChe ?lChe ?cChe ?kChe ?aAlo ?iAlo ?lAlo ?cAlo ?kAlo ?aSha ?iSha ?lSha ?cSha ?kSha ?aHas ?iHas ?lHas ?cHas ?kHas ?aLan ?iLan ?lLan ?cLan ?kLan ?aLfr ?iLfr ?lLfr ?cLfr ?kLfr ?aEvs ?iEvs ?lEvs ?cEvs ?kEvs
    (case q0 => k_is); (case q1 => k_is); (case q2 => k_is); (case q3 => k_is); (case q4 => k_is); (case q5 => k_is); (case q6 => k_is); (case q7 => k_is)
    (case q8 => k_is); (case q9 => k_is); (case q10 => k_is); (case q11 => k_is); (case q12 => k_is); (case q13 => k_is); (case q14 => k_is); (case q15 => k_is)
    (case q16 => k_is); (case z0 => k_is); (case z1 => k_is); (case z2 => k_is); (case z3 => k_is); (case z4 => k_is); (case z5 => k_is); (case z6 => k_is)
    (case nb => k_is); (case nl => k_is); (case aCA => k_is); (case pgCA => k_is); (case hdCA => k_is); (case poCA => k_is); (case saCA => k_is); (case mkCA => k_is)
    (case kcCA => k_is); (case nCA_number => k_is); (case nCA_rows => k_is); (case aCR => k_is); (case pgCR => k_is); (case hdCR => k_is); (case poCR => k_is); (case saCR => k_is)
    (case mkCR => k_is); (case kcCR => k_is); (case nCR_a => k_is); (case nCR_b => k_is); (case nCR_build => k_is); (case nCR_carry => k_is); (case aCB => k_is); (case pgCB => k_is)
    (case hdCB => k_is); (case poCB => k_is); (case saCB => k_is); (case mkCB => k_is); (case kcCB => k_is); (case nCB_numbers => k_is); (case nCB_build => k_is); (case nCB_marks => k_is)
    (case aCC => k_is); (case pgCC => k_is); (case hdCC => k_is); (case poCC => k_is); (case saCC => k_is); (case mkCC => k_is); (case kcCC => k_is); (case nCC_cost => k_is)
    (case nCC_how_many => k_is); (case nCC_lowest => k_is); (case aCF => k_is); (case pgCF => k_is); (case hdCF => k_is); (case poCF => k_is); (case saCF => k_is); (case mkCF => k_is)
    (case kcCF => k_is); (case nCF_loads => k_is); (case nCF_roads => k_is); (case aExt => k_is); (case lExt => k_is); (case cExt => k_is); (case kExt => k_is); (case aMks => k_is)
    (case lMks => k_is); (case cMks => k_is); (case kMks => k_is); (case aSts => k_is); (case lSts => k_is); (case cSts => k_is); (case kSts => k_is); (case aGrp => k_is)
    (case lGrp => k_is); (case cGrp => k_is); (case kGrp => k_is); (case aChf => k_is); (case lChf => k_is); (case cChf => k_is); (case kChf => k_is); (case aPai => k_is)
    (case lPai => k_is); (case cPai => k_is); (case kPai => k_is); (case aRis => k_is); (case lRis => k_is); (case cRis => k_is); (case kRis => k_is); (case aRef => k_is)
    (case lRef => k_is); (case cRef => k_is); (case kRef => k_is); (case aAns => k_is); (case lAns => k_is); (case cAns => k_is); (case kAns => k_is); (case aAof => k_is)
    (case lAof => k_is); (case cAof => k_is); (case kAof => k_is); (case aAwl => k_is); (case lAwl => k_is); (case cAwl => k_is); (case kAwl => k_is); (case aAnI => k_is)
    (case iAnI => k_is); (case lAnI => k_is); (case cAnI => k_is); (case kAnI => k_is); (case aRoI => k_is); (case iRoI => k_is); (case lRoI => k_is); (case cRoI => k_is)
    (case kRoI => k_is); (case aBuI => k_is); (case iBuI => k_is); (case lBuI => k_is); (case cBuI => k_is); (case kBuI => k_is); (case aCw => k_is); (case iCw => k_is)
    (case lCw => k_is); (case cCw => k_is); (case kCw => k_is); (case aChI => k_is); (case iChI => k_is); (case lChI => k_is); (case cChI => k_is); (case kChI => k_is)
    (case aOff => k_is); (case iOff => k_is); (case lOff => k_is); (case cOff => k_is); (case kOff => k_is); (case aFoI => k_is); (case iFoI => k_is); (case lFoI => k_is)
    (case cFoI => k_is); (case kFoI => k_is); (case aBeg => k_is); (case iBeg => k_is); (case lBeg => k_is); (case cBeg => k_is); (case kBeg => k_is); (case aRoa => k_is)
    (case iRoa => k_is); (case lRoa => k_is); (case cRoa => k_is); (case kRoa => k_is); (case aLoa => k_is); (case iLoa => k_is); (case lLoa => k_is); (case cLoa => k_is)
    (case kLoa => k_is); (case aBst => k_is); (case iBst => k_is); (case lBst => k_is); (case cBst => k_is); (case kBst => k_is); (case aChe => k_is); (case iChe => k_is)
    (case lChe => k_is); (case cChe => k_is); (case kChe => k_is); (case aAlo => k_is); (case iAlo => k_is); (case lAlo => k_is); (case cAlo => k_is); (case kAlo => k_is)
    (case aSha => k_is); (case iSha => k_is); (case lSha => k_is); (case cSha => k_is); (case kSha => k_is); (case aHas => k_is); (case iHas => k_is); (case lHas => k_is)
    (case cHas => k_is); (case kHas => k_is); (case aLan => k_is); (case iLan => k_is); (case lLan => k_is); (case cLan => k_is); (case kLan => k_is); (case aLfr => k_is)
    (case iLfr => k_is); (case lLfr => k_is); (case cLfr => k_is); (case kLfr => k_is); (case aEvs => k_is); (case iEvs => k_is); (case lEvs => k_is); (case cEvs => k_is)
    (case kEvs => k_is)
  case S =>
    intro K H xs a hO hwi hask hx
    cases hx with
    | cons h1 h2 =>
      cases h2
      cases h1 with
      | lst hs ha =>
        have e := L2.ints_dw a.1 _ ha
        subst e
        have q : ((Codec.inLen 0 2000 a.1 && a.1.all (Codec.inInt 0 4294967295)) && true) = true := hwi
        rw [Bool.and_eq_true, Bool.and_eq_true] at q
        exact ⟨_, a.1, rfl, hs, (Codec.inNat_iff.mp q.1.1).2, hask, fun H' p hp => .lst (L2.SqL.of hp) (L2.dw_ints _)⟩
#print axioms PySem.Challenge.cw_forestroads_s01_answers_holds

import PyProof.Rows.All
import Wide.All
import OpenK.AllK
import Wide.FinOn
import PyProof.EqAt
import PyProof.EqKinds
import PyProof.TupleCall
import KE.BitLaws
import Open.SpecLaws
import KE.OsHead
import KE.OsGo
import PySem.Challenge.RW_statereader_s01_answers
section
section
set_option Elab.async false
set_option linter.all false
set_option maxRecDepth 100000
/-! THE HAND LAYER, for ints, bools, texts, own classes, lists, tuples, dicts, comprehensions, walks over dicts, enumerate, zip, reversed, texts, calls, loops. Paste it whole ahead of your own text; what your proof does not reach may be deleted. -/
namespace L2
open PySem PySem.Spec PyProof.Rows

/-- a key: an int or a str -/
abbrev Key := Sum Int Str
def keyIs : Key → Value → Bool
  | .inl k, v => Value.isInt k v
  | .inr x, v => Value.isStrOf x v
def keyH (w : World) : Key → Int
  | .inl k => hashInt k
  | .inr x => hashStr w x
theorem keyIs_shape : ∀ {k : Key} {v : Value}, keyIs k v = true → (∃ i t, k = Sum.inl i ∧ v = Value.int i t) ∨ (∃ x t, k = Sum.inr x ∧ v = Value.str x t)
  | .inl i, v, h => by
    obtain ⟨t, e⟩ := Value.isInt_shape (k := i) (v := v) h
    exact .inl ⟨i, t, rfl, e⟩
  | .inr x, v, h => by
    obtain ⟨t, e⟩ := Value.isStrOf_shape (x := x) (v := v) h
    exact .inr ⟨x, t, rfl, e⟩
theorem key_ll (a b : Int) : decide ((Sum.inl a : Key) = Sum.inl b) = (a == b) := by
  by_cases e : a = b
  · subst e; simp
  · have h : ¬ (Sum.inl a : Key) = Sum.inl b := fun q => e (Sum.inl.inj q)
    rw [decide_eq_false h]
    exact (beq_eq_false_iff_ne.mpr e).symm
theorem key_rr (a b : Str) : decide ((Sum.inr a : Key) = Sum.inr b) = decide (a = b) := by
  by_cases e : a = b
  · subst e; simp
  · have h : ¬ (Sum.inr a : Key) = Sum.inr b := fun q => e (Sum.inr.inj q)
    rw [decide_eq_false h, decide_eq_false e]
theorem key_lr (a : Int) (b : Str) : decide ((Sum.inl a : Key) = Sum.inr b) = false := decide_eq_false (fun q => nomatch q)
theorem key_rl (a : Str) (b : Int) : decide ((Sum.inr a : Key) = Sum.inl b) = false := decide_eq_false (fun q => nomatch q)

def mixKind (prog : Program) (w : World) : PySem.KeyKind prog w Key where
  is := keyIs
  hash := keyH w
  inj := fun v a b ha hb => by
    rcases keyIs_shape ha with ⟨i, t, rfl, rfl⟩ | ⟨x, t, rfl, rfl⟩
    · rcases keyIs_shape hb with ⟨j, u, rfl, e⟩ | ⟨y, u, rfl, e⟩
      · injection e with e1 _; rw [e1]
      · exact nomatch e
    · rcases keyIs_shape hb with ⟨j, u, rfl, e⟩ | ⟨y, u, rfl, e⟩
      · exact nomatch e
      · injection e with e1 _; rw [e1]
  byValue := fun k v h => by
    rcases keyIs_shape h with ⟨i, t, rfl, rfl⟩ | ⟨x, t, rfl, rfl⟩ <;> rfl
  pyHash := fun hv h => by
    rcases keyIs_shape hv with ⟨i, t, rfl, rfl⟩ | ⟨x, t, rfl, rfl⟩
    · exact wpAny_pyHash_int h
    · exact wpAny_pyHash_str h
  eqBool := fun hu hv h => by
    rcases keyIs_shape hu with ⟨i, t, rfl, rfl⟩ | ⟨x, t, rfl, rfl⟩
    · rcases keyIs_shape hv with ⟨j, u, rfl, rfl⟩ | ⟨y, u, rfl, rfl⟩
      · rw [key_ll] at h; exact wpAny_eqBool_int h
      · rw [key_lr] at h; exact SeqAt.EqAt.int_str i t y u _ _ _ _ h
    · rcases keyIs_shape hv with ⟨j, u, rfl, rfl⟩ | ⟨y, u, rfl, rfl⟩
      · rw [key_rl] at h; exact SeqAt.EqAt.str_int x t j u _ _ _ _ h
      · rw [key_rr] at h; exact wpAny_eqBool_str h
  «strs» := fun k x t v h => by
    rcases keyIs_shape h with ⟨i, u, rfl, e⟩ | ⟨y, u, rfl, e⟩
    · exact nomatch e
    · injection e with e1 _
      subst e1
      cases v <;> rfl

end L2

namespace L2
open PySem PySem.Spec PyProof.Rows

/-- a value, without the heap -/
inductive V where
  | non | bl (b : Bool) | int (i : Int) | str (x : Str) | byt (b : Array UInt8) | flt (b : UInt64) | ref (a : Addr) | ty (n : String)
  deriving DecidableEq

def RelV : V → Value → Prop
  | .non, u => u = Value.none
  | .bl b, u => u = Value.bool b
  | .int i, u => ∃ t, u = Value.int i t
  | .str x, u => ∃ t, u = Value.str x t
  | .byt b, u => ∃ t, u = Value.bytes b t
  | .flt b, u => ∃ t, u = Value.float b t
  | .ref a, u => u = Value.ref a
  | .ty n, u => u = Value.type n

abbrev Vals : List V → List Value → Prop := Paired RelV
theorem Vals.length {xs : List V} {us : List Value} (r : Vals xs us) : xs.length = us.length := Paired.length r
theorem Vals.get : ∀ {xs : List V} {us : List Value} {i : Nat} {x : V}, Vals xs us → xs[i]? = some x → ∃ u, us[i]? = some u ∧ RelV x u
  | _, _, _, _, .nil, e => by simp at e
  | _, _, 0, _, .cons r _, e => by simp at e; subst e; exact ⟨_, rfl, r⟩
  | _, _, i + 1, x, .cons _ t, e => by
    obtain ⟨u, h1, h2⟩ := Vals.get (i := i) (x := x) t (by simpa using e)
    exact ⟨u, by simpa using h1, h2⟩
theorem Vals.set {x : V} {u : Value} (r : RelV x u) : ∀ {xs : List V} {us : List Value} (i : Nat), Vals xs us → Vals (xs.set i x) (us.set i u)
  | _, _, _, .nil => .nil
  | _, _, 0, .cons _ t => .cons r t
  | _, _, i + 1, .cons q t => .cons q (Vals.set r i t)
theorem Vals.append : ∀ {xs ys : List V} {us ws : List Value}, Vals xs us → Vals ys ws → Vals (xs ++ ys) (us ++ ws)
  | _, _, _, _, .nil, s => s
  | _, _, _, _, .cons r t, s => .cons r (Vals.append t s)
theorem Vals.take : ∀ {xs : List V} {us : List Value} (n : Nat), Vals xs us → Vals (xs.take n) (us.take n)
  | _, _, 0, _ => .nil
  | _, _, _ + 1, .nil => .nil
  | _, _, n + 1, .cons r t => .cons r (Vals.take n t)
theorem Vals.drop : ∀ {xs : List V} {us : List Value} (n : Nat), Vals xs us → Vals (xs.drop n) (us.drop n)
  | _, _, 0, r => r
  | _, _, _ + 1, .nil => .nil
  | _, _, n + 1, .cons _ t => Vals.drop n t
theorem Vals.none_of : ∀ {xs : List V} {us : List Value} {i : Nat}, Vals xs us → xs[i]? = none → us[i]? = none := fun {xs us i} r e => by
  have h1 := r.length
  have h2 : xs.length ≤ i := List.getElem?_eq_none_iff.mp e
  exact List.getElem?_eq_none_iff.mpr (by omega)

def RelO : Option V → Option Value → Prop
  | some v, some u => RelV v u
  | none, none => True
  | _, _ => False
def KV {κ : Type} : List (κ × V) → List (κ × Value) → Prop := Paired fun (p : κ × V) (q : κ × Value) => p.1 = q.1 ∧ RelV p.2 q.2

/-- a key of a dict (00_mix): an int or a text -/
def kV : Key → V
  | .inl i => .int i
  | .inr x => .str x

/-- what stands at a tracked address -/
inductive HO where
  /-- a list -/
  | lst (xs : List V)
  /-- a tuple (never changes) -/
  | tup (xs : List V)
  /-- a dict whose keys are ints and texts; one whose keys are tuples of ints and texts (the empty one is both) -/
  | dK (kvs : List (Key × V)) | dT (kvs : List (List Key × V))
  /-- a set of ints: its members, its size -/
  | set (S : Int → Bool) (n : Nat)
  /-- an instance of the class at C, its dict at dx, its attributes -/
  | ins (C dx : Addr) (fs : List (Str × V))
  /-- the dict of the instance at x -/
  | own (x : Addr)
  /-- the dict of an exception -/
  | xd (fs : List (Str × V))
  /-- a bound method, f of x -/
  | met (f x : Addr)
  /-- a range object lo, lo + 1, .. below hi -/
  | rng (lo hi : Int)
  /-- a thing that is known to the object (the script; a dict while a loop walks it): read, never written while it is so -/
  | frz (o : Obj) (u : HO)
  /-- a code object's table -/
  | tbl (ps : Array Value)
  /-- any other thing, by what is true of its one object (a def of one's own: SetO a S n := HO.ext fun h => ..) -/
  | ext (φ : Heap → Prop)

abbrev Hp := Addr → Option HO
def upd (H : Hp) (a : Addr) (o : HO) : Hp := fun b => if b = a then some o else H b
theorem upd_same {H : Hp} {a : Addr} {o : HO} : upd H a o a = some o := by unfold upd; rw [if_pos rfl]
theorem upd_ne {H : Hp} {a b : Addr} {o : HO} (h : b ≠ a) : upd H a o b = H b := by unfold upd; rw [if_neg h]
/-- two objects of different content stand apart -/
theorem ne_of {H : Hp} {a b : Addr} {o u : HO} (h : H a = some o) (h' : H b = some u) (d : o ≠ u) : a ≠ b := by
  intro e; subst e; rw [h] at h'; exact d (Option.some.inj h')
theorem ne_of_none {H : Hp} {a b : Addr} {o : HO} (h : H a = some o) (h' : H b = none) : a ≠ b := by
  intro e; subst e; rw [h] at h'; cases h'

section
variable (P : Program) (w : World)
def ObjOk (H : Hp) (h : Heap) (a : Addr) : HO → Prop
  | .lst xs => xs.length ≤ sizeLine ∧ ∃ (its : List Value) (n : Nat), Vals xs its ∧ h.get? a = some { cls := .type "list", data := .seq its.toArray n }
  | .tup xs => xs.length ≤ sizeLine ∧ ∃ its : List Value, Vals xs its ∧ IsTup h a its.toArray
  | .dK kvs => kvs.length ≤ sizeLine ∧ (a == sysModules) = false ∧ ∃ vs, KV kvs vs ∧ h.DictOf (mixKind P w) a vs
  | .dT kvs => kvs.length ≤ sizeLine ∧ (a == sysModules) = false ∧ ∃ xs : List (List Key × Addr × Value),
      Paired (fun (p : List Key × V) (q : List Key × Addr × Value) => p.1 = q.1 ∧ H q.2.1 = some (.tup (p.1.map kV)) ∧ RelV p.2 q.2.2) kvs xs ∧
      ∃ o es ep, h.get? a = some o ∧ o.ExactDict ∧ o.data = .dict es ep ∧ es.toList = xs.map (entryOfKey (tupleKind (mixKind P w))) ∧ (xs.map (·.1)).Nodup
  | .set S n => h.SetOf (intKind P w) a S n
  | .ins C dx fs => H dx = some (.own a) ∧ fs.length ≤ 1000 ∧ dx ≠ a ∧ h.get? a = some (PySem.W.instObj C dx) ∧
      ∃ mA, h.Ns1 dx mA ∧ (∀ f, RelO (fs.lookup f) (mA f)) ∧ PySem.Within mA (fs.map (·.1))
  | .own _ => ∃ o, h.get? a = some o
  | .xd fs => ∃ mA, h.Ns1 a mA ∧ ∀ f, RelO (fs.lookup f) (mA f)
  | .rng lo hi => ∃ t u v, h.get? a = some { cls := .type "range", data := .fields #[.int lo t, .int hi u, .int 1 v] }
  | .frz o u => h.get? a = some o ∧ ObjOk H h a u
  | .tbl ps => h.get? a = some { cls := .none, data := .fields ps }
  | .met f x => h.get? a = some (PySem.W.methodObj (.ref f) (.ref x))
  | .ext φ => φ h ∧ (∃ o, h.get? a = some o) ∧ ∀ h1 h2 : Heap, φ h1 → (∀ o, h1.get? a = some o → h2.get? a = some o) → φ h2
/-- the abstract heap is held -/
def HOk (H : Hp) (h : Heap) : Prop := ∀ a o, H a = some o → ObjOk P w H h a o
end

section
variable {P : Program} {w : World} {H H' : Hp} {h h' : Heap} {a : Addr} {o : HO}
theorem ObjOk.lt (x : ObjOk P w H h a o) : a < h.objs.size := by
  cases o with
  | lst xs => obtain ⟨_, _, _, _, e⟩ := x; exact Heap.lt_size e
  | tup xs => obtain ⟨_, _, _, p⟩ := x; exact p.lt
  | dK kvs => obtain ⟨_, _, _, _, o, _, _, e, _⟩ := x; exact Heap.lt_size e
  | dT kvs => obtain ⟨_, _, _, _, o, _, _, e, _⟩ := x; exact Heap.lt_size e
  | set S n => obtain ⟨o, _, _, _, e, _⟩ := x; exact Heap.lt_size e
  | ins C dx fs => obtain ⟨_, _, _, e, _⟩ := x; exact Heap.lt_size e
  | own y => obtain ⟨_, e⟩ := x; exact Heap.lt_size e
  | xd fs => obtain ⟨_, ⟨_, _, _, e, _⟩, _⟩ := x; exact Heap.lt_size e
  | rng lo hi => obtain ⟨_, _, _, e⟩ := x; exact Heap.lt_size e
  | frz ob u => obtain ⟨e, _⟩ := x; exact Heap.lt_size e
  | tbl ps => exact Heap.lt_size (show h.get? a = some _ from x)
  | met f y => exact Heap.lt_size (show h.get? a = some _ from x)
  | ext φ => obtain ⟨_, ⟨_, e⟩, _⟩ := x; exact Heap.lt_size e
theorem Paired.mapP {α β : Type} {F G : α → β → Prop} : ∀ {l₁ : List α} {l₂ : List β}, Paired F l₁ l₂ → (∀ a b, F a b → G a b) → Paired G l₁ l₂
  | _, _, .nil, _ => .nil
  | _, _, .cons r t, f => .cons (f _ _ r) (Paired.mapP t f)
/-- what an object's description leans on: its own object, its own dict, the tuples -/
theorem ObjOk.stay (x : ObjOk P w H h a o) (k : ∀ b u, (b = a ∨ H b = some (.own a)) → h.get? b = some u → h'.get? b = some u)
    (ho : ∀ b, H b = some (.own a) → H' b = some (.own a)) (ht : ∀ b xs, H b = some (.tup xs) → H' b = some (.tup xs)) : ObjOk P w H' h' a o := by
  induction o with
  | lst xs => obtain ⟨z, its, n, r, e⟩ := x; exact ⟨z, its, n, r, k _ _ (.inl rfl) e⟩
  | tup xs => obtain ⟨z, its, r, ob, e, c⟩ := x; exact ⟨z, its, r, ob, k _ _ (.inl rfl) e, c⟩
  | dK kvs => obtain ⟨z, y, vs, r, ob, es, ep, e, c⟩ := x; exact ⟨z, y, vs, r, ob, es, ep, k _ _ (.inl rfl) e, c⟩
  | dT kvs =>
    obtain ⟨z, y, xs, r, ob, es, ep, e, c⟩ := x
    exact ⟨z, y, xs, Paired.mapP r fun p q z => ⟨z.1, ht _ _ z.2.1, z.2.2⟩, ob, es, ep, k _ _ (.inl rfl) e, c⟩
  | set S n => obtain ⟨ob, es, ep, t, e, c⟩ := x; exact ⟨ob, es, ep, t, k _ _ (.inl rfl) e, c⟩
  | ins C dx fs =>
    obtain ⟨d, z, ne, e, mA, ⟨od, es, ep, e2, c⟩, r⟩ := x
    exact ⟨ho _ d, z, ne, k _ _ (.inl rfl) e, mA, ⟨od, es, ep, k _ _ (.inr d) e2, c⟩, r⟩
  | own y => obtain ⟨ob, e⟩ := x; exact ⟨ob, k _ _ (.inl rfl) e⟩
  | xd fs => obtain ⟨mA, ⟨od, es, ep, e, c⟩, r⟩ := x; exact ⟨mA, ⟨od, es, ep, k _ _ (.inl rfl) e, c⟩, r⟩
  | rng lo hi => obtain ⟨t, u, v, e⟩ := x; exact ⟨t, u, v, k _ _ (.inl rfl) e⟩
  | frz ob u ih => obtain ⟨e, q⟩ := x; exact ⟨k _ _ (.inl rfl) e, ih q⟩
  | tbl ps =>
    have e : h.get? a = some { cls := .none, data := .fields ps } := x
    show h'.get? a = some { cls := .none, data := .fields ps }
    exact k a _ (.inl rfl) e
  | met f y =>
    have e : h.get? a = some (PySem.W.methodObj (.ref f) (.ref y)) := x
    show h'.get? a = some (PySem.W.methodObj (.ref f) (.ref y))
    exact k a _ (.inl rfl) e
  | ext φ => obtain ⟨p, ⟨o, e⟩, st⟩ := x; exact ⟨st _ _ p fun o q => k _ _ (.inl rfl) q, ⟨o, k _ _ (.inl rfl) e⟩, st⟩
theorem HOk.lt (x : HOk P w H h) (e : H a = some o) : a < h.objs.size := (x a o e).lt
theorem HOk.fresh (x : HOk P w H h) (e : h.objs.size ≤ a) : H a = none := by
  cases q : H a with
  | none => rfl
  | some u => exact absurd (Nat.lt_of_lt_of_le (x.lt q) e) (Nat.lt_irrefl _)
/-- every object of the heap is kept -/
theorem HOk.kept (x : HOk P w H h) (k : ∀ b u, h.get? b = some u → h'.get? b = some u) : HOk P w H h' := fun a o e =>
  (x a o e).stay (fun b u _ q => k b u q) (fun _ q => q) fun _ _ q => q
/-- a new object is laid and tracked -/
theorem HOk.laid (x : HOk P w H h) (k : ∀ b u, h.get? b = some u → h'.get? b = some u) (hp : h.objs.size ≤ a) (new : ObjOk P w (upd H a o) h' a o) : HOk P w (upd H a o) h' := fun b u e => by
  have hn := x.fresh hp
  by_cases hb : b = a
  · subst hb; rw [upd_same] at e; cases e; exact new
  · rw [upd_ne hb] at e
    exact (x b u e).stay (fun c v _ q => k c v q) (fun c q => by rw [upd_ne (ne_of_none q hn)]; exact q) fun c xs q => by rw [upd_ne (ne_of_none q hn)]; exact q
end

/-- what may be read as u: it is u, or a known u -/
def Rd (H : Hp) (a : Addr) (u : HO) : Prop := H a = some u ∨ ∃ o, H a = some (.frz o u)
theorem Rd.of {H : Hp} {a : Addr} {u : HO} (h : H a = some u) : Rd H a u := .inl h
theorem Rd.ok {P : Program} {w : World} {H : Hp} {h : Heap} {a : Addr} {u : HO} (r : Rd H a u) (x : HOk P w H h) : ObjOk P w H h a u := by
  rcases r with r | ⟨o, r⟩
  · exact x a u r
  · obtain ⟨_, q⟩ := x a _ r
    exact q
/-- what may be written -/
def Mut : Option HO → Prop
  | some (.lst _) => True
  | some (.dK _) => True
  | some (.dT _) => True
  | some (.set _ _) => True
  | some (.ins _ _ _) => True
  | some (.ext _) => True
  | _ => False
section
variable {P : Program} {w : World} {H : Hp} {h h' : Heap} {x e : Addr} {o' : HO}
/-- the object at e is changed: x itself, or the dict of the instance x -/
theorem HOk.write (ok : HOk P w H h) (mu : Mut (H x)) (he : e = x ∨ H e = some (.own x)) (k : ∀ b u, b ≠ e → h.get? b = some u → h'.get? b = some u) (heo : ∃ u, h'.get? e = some u)
    (new : ObjOk P w (upd H x o') h' x o') : HOk P w (upd H x o') h' := fun b u q => by
  have nown : ∀ c y, H c = some (.own y) → c ≠ x := fun c y r z => by subst z; rw [r] at mu; exact mu
  have ntup : ∀ c xs, H c = some (.tup xs) → c ≠ x := fun c xs r z => by subst z; rw [r] at mu; exact mu
  by_cases hb : b = x
  · subst hb; rw [upd_same] at q; cases q; exact new
  · rw [upd_ne hb] at q
    by_cases hbe : b = e
    · have q' : H b = some (.own x) := by
        rcases he with z | z
        · exact absurd (hbe.trans z) hb
        · rw [hbe]; exact z
      rw [q] at q'; cases q'
      obtain ⟨v, hv⟩ := heo
      exact ⟨v, by rw [hbe]; exact hv⟩
    · refine (ok b u q).stay (fun c v hc r => k c v ?_ r) (fun c r => by rw [upd_ne (nown c b r)]; exact r) fun c xs r => by rw [upd_ne (ntup c xs r)]; exact r
      rcases hc with rfl | hc
      · exact hbe
      · rintro rfl
        rcases he with z | z
        · exact nown c b hc z
        · rw [hc] at z; cases z; exact hb rfl
end

/-! ### kept unless tracked; of the frames at fs (the callers') the slots may change (an exception that passes writes there); of the records at ex (iterators) nothing is said -/
structure Un (fs ex : List Addr) (H H' : Hp) (h h' : Heap) : Prop where
  keep : ∀ b o, h.get? b = some o → H b = none → b ∉ fs → b ∉ ex → h'.get? b = some o
  slot : ∀ b o, h.get? b = some o → H b = none → b ∈ fs → b ∉ ex → ∃ sl, h'.get? b = some { o with slots := sl }
  free : ∀ b o, h.get? b = some o → H b = none → b ∉ ex → H' b = none
  there : ∀ b o, h.get? b = some o → b ∉ ex → ∃ o', h'.get? b = some o'
  tups : ∀ b xs, H b = some (.tup xs) → H' b = some (.tup xs)
  frzs : ∀ b o u, H b = some (.frz o u) → H' b = some (.frz o u)
  tbls : ∀ b ps, H b = some (.tbl ps) → ∃ more, H' b = some (.tbl (ps ++ more))
section
variable {fs fs' ex ex' : List Addr} {H H1 H2 : Hp} {h h1 h2 h' : Heap} {a x e : Addr} {o : HO}
theorem Un.any (u : Un fs ex H H1 h h1) {b : Addr} {ob : Obj} (q : h.get? b = some ob) (n : H b = none) (hx : b ∉ ex) : ∃ sl, h1.get? b = some { ob with slots := sl } := by
  by_cases hb : b ∈ fs
  · exact u.slot b ob q n hb hx
  · exact ⟨ob.slots, u.keep b ob q n hb hx⟩
theorem Un.trans (a : Un fs ex H H1 h h1) (b : Un fs ex H1 H2 h1 h2) : Un fs ex H H2 h h2 where
  keep := fun c ob q n hc hx => b.keep c ob (a.keep c ob q n hc hx) (a.free c ob q n hx) hc hx
  slot := fun c ob q n hc hx => by
    obtain ⟨sl, e1⟩ := a.slot c ob q n hc hx
    obtain ⟨sl', e2⟩ := b.slot c _ e1 (a.free c ob q n hx) hc hx
    exact ⟨sl', e2⟩
  free := fun c ob q n hx => by
    obtain ⟨o', e1⟩ := a.there c ob q hx
    exact b.free c o' e1 (a.free c ob q n hx) hx
  there := fun c ob q hx => by
    obtain ⟨o', e1⟩ := a.there c ob q hx
    exact b.there c o' e1 hx
  tups := fun c xs q => b.tups c xs (a.tups c xs q)
  frzs := fun c ob xs q => b.frzs c ob xs (a.frzs c ob xs q)
  tbls := fun c ps q => by
    obtain ⟨m1, e1⟩ := a.tbls c ps q
    obtain ⟨m2, e2⟩ := b.tbls c _ e1
    exact ⟨m1 ++ m2, by rw [e2, Array.append_assoc]⟩
theorem Un.kept (k : ∀ b u, h.get? b = some u → h'.get? b = some u) : Un fs ex H H h h' :=
  ⟨fun b ob q _ _ _ => k b ob q, fun b ob q _ _ _ => ⟨ob.slots, k b ob q⟩, fun _ _ _ n _ => n, fun b ob q _ => ⟨ob, k b ob q⟩, fun _ _ q => q, fun _ _ _ q => q, fun _ ps q => ⟨#[], by rw [q]; simp⟩⟩
theorem Un.refl : Un fs ex H H h h := Un.kept fun _ _ q => q
theorem Un.laid (k : ∀ b u, h.get? b = some u → h'.get? b = some u) (hp : h.objs.size ≤ a) (hn : H a = none) : Un fs ex H (upd H a o) h h' where
  keep := fun b u q _ _ _ => k b u q
  slot := fun b u q _ _ _ => ⟨u.slots, k b u q⟩
  free := fun b u q n _ => by rw [upd_ne (Nat.ne_of_lt (Nat.lt_of_lt_of_le (Heap.lt_size q) hp))]; exact n
  there := fun b u q _ => ⟨u, k b u q⟩
  tups := fun b xs q => by rw [upd_ne (ne_of_none q hn)]; exact q
  frzs := fun b u xs q => by rw [upd_ne (ne_of_none q hn)]; exact q
  tbls := fun b ps q => ⟨#[], by rw [upd_ne (ne_of_none q hn), q]; simp⟩
theorem Un.write (mu : Mut (H x)) (he : e = x ∨ H e = some (.own x)) (k : ∀ b u, b ≠ e → h.get? b = some u → h'.get? b = some u) (heo : ∃ u, h'.get? e = some u) : Un fs ex H (upd H x o) h h' := by
  have hx : ∀ b, H b = none → b ≠ x := fun b n z => by subst z; rw [n] at mu; exact mu
  have hb : ∀ b, H b = none → b ≠ e := fun b n z => by
    subst z
    rcases he with r | r
    · exact hx b n r
    · rw [n] at r; cases r
  have hm : ∀ b u, H b = some u → ¬ Mut (some u) → b ≠ x := fun b u q nm z => by subst z; rw [q] at mu; exact nm mu
  refine ⟨fun b u q n _ _ => k b u (hb b n) q, fun b u q n _ _ => ⟨u.slots, k b u (hb b n) q⟩, fun b u q n _ => by rw [upd_ne (hx b n)]; exact n, fun b u q _ => ?_,
    fun b xs q => by rw [upd_ne (hm b _ q fun z => z)]; exact q, fun b u xs q => by rw [upd_ne (hm b _ q fun z => z)]; exact q, fun b ps q => ⟨#[], by rw [upd_ne (hm b _ q fun z => z), q]; simp⟩⟩
  by_cases hbe : b = e
  · subst hbe; exact heo
  · exact ⟨u, k b u hbe q⟩
theorem Un.mono (u : Un fs ex H H1 h h1) (hs : ∀ b ∈ fs, b ∈ fs') (hx : ∀ b ∈ ex, b ∈ ex') : Un fs' ex' H H1 h h1 :=
  ⟨fun b ob q n hb he => u.keep b ob q n (fun z => hb (hs b z)) fun z => he (hx b z), fun _ _ q n _ he => u.any q n fun z => he (hx _ z), fun b ob q n he => u.free b ob q n fun z => he (hx b z), fun b ob q he => u.there b ob q fun z => he (hx b z), u.tups, u.frzs, u.tbls⟩
end

/-! ### the heap without what is tracked -/
def trk (h : Heap) (H : Hp) : List Addr := (List.range h.objs.size).filter fun a => (H a).isSome
def hidT (h : Heap) (H : Hp) : Heap := PySem.W.hideAll h (trk h H)
theorem hidT_size (h : Heap) (H : Hp) : (hidT h H).objs.size = h.objs.size := PySem.W.hideAll_size _ _
theorem hidT_get {h : Heap} {H : Hp} {b : Addr} {o : Obj} (e : h.get? b = some o) (n : H b = none) : (hidT h H).get? b = some o :=
  PySem.W.hideAll_get _ e fun hm => by
    have q : (H b).isSome = true := (List.mem_filter.mp hm).2
    rw [n] at q; simp at q
theorem of_hidT {h : Heap} {H : Hp} {b : Addr} {o : Obj} (e : (hidT h H).get? b = some o) : h.get? b = some o ∧ H b = none := by
  have e' : h.get? b = some o := PySem.W.of_hideAll (trk h H) e
  refine ⟨e', ?_⟩
  cases q : H b with
  | none => rfl
  | some x =>
    have hm : b ∈ trk h H := List.mem_filter.mpr ⟨List.mem_range.mpr (Heap.lt_size e'), by simp [q]⟩
    have z : (hidT h H).get? b = none := PySem.W.hideAll_none (trk h H) hm
    rw [z] at e; cases e

/-! ### OpenK's ledger, filled with every new object but one -/
def allNews (g h : Heap) (L : Addr) : List (Addr × Obj) := (List.range h.objs.size).filterMap fun a => if a = L ∨ (g.get? a).isSome = true then none else (h.get? a).map fun o => (a, o)
def rest (g h : Heap) (L d : Addr) : List (Addr × Obj) := (allNews g h L).filter fun p => decide (p.1 ≠ d)
end L2

namespace L2
open PySem PySem.Spec PyProof.Rows

/-- the module's facts, over the base: the heap at the law's entry without what is tracked there -/
structure Mod (K : PySem.W.Frag) (mg : Str → Option Value) (base : Heap) : Prop where
  kin : K.In base
  glob : base.Ns mainGlobals mg
  blt : ∃ mb, base.Ns builtinsNs mb ∧ ∀ x : Str, x ≠ "__name__" → mb x = bootBuiltins x
  nolimit : base.NoLimit

/-- the context: a def's body (or a comprehension's block) running. base: fixed through the whole law; s₀, H₀: the entry; outer: the frames whose slots others may change (a def's callers); stack: all frames that run;
   ex: iterators that were made ahead of the entry and are walked here (a comprehension's); fn: the names whose cells were made at the entry (a def: all; a comprehension's block: its own); calm: not within an except suite; pn: pins that every state bears; xe: what is wanted of an exception that leaves the code -/
structure Cx where
  prog : Program
  w : World
  K : PySem.W.Frag
  mg : Str → Option Value
  base : Heap
  A : Around
  N : List Str
  s_0 : Shared
  H_0 : Hp
  env : Env
  outer : List Env
  stack : List Env
  ex : List Addr
  fn : Str → Bool
  calm : Bool
  pn : List (Addr × Obj)
  xe : Value → Shared → Prop
/-- the callers' frames -/
def frs (l : List Env) : List Addr := l.filterMap (·.frame)
abbrev Cx.fs (X : Cx) : List Addr := frs X.outer

def Vis (sc : Scope) (x : Str) : Prop := sc.names.lookup x = some .local ∨ sc.names.lookup x = some .cell ∨ sc.names.lookup x = some .free
def Loc (sc : Scope) (x : Str) : Prop := sc.names.lookup x = some .local ∨ sc.names.lookup x = some .cell
def Look (env : Env) (h : Heap) (m : Str → Option Value) (x : Str) (u : Value) : Prop :=
  (env.kindOf x = some .local ∧ m x = some u) ∨ ((env.kindOf x = some .cell ∨ env.kindOf x = some .free) ∧ ∃ c, env.cells.lookup x = some c ∧ h.IsCell c (some u))

structure Cx.Ok (X : Cx) : Prop where
  mod : Mod X.K X.mg X.base
  kind : X.env.scope.kind = .function
  glob : X.env.globals = mainGlobals
  blt : X.env.builtins = builtinsNs
  above : X.s_0.heap.objs.size ≤ X.env.locals
  inj : ∀ x y c, X.env.cells.lookup x = some c → X.env.cells.lookup y = some c → x = y
  has : ∀ x, (X.env.kindOf x = some .cell ∨ X.env.kindOf x = some .free) → ∃ c, X.env.cells.lookup x = some c
  cab : ∀ x c, X.fn x = true → X.env.cells.lookup x = some c → X.s_0.heap.objs.size ≤ c
  hd : X.calm = true → X.A.handled = none
  frames : X.A.frames = some X.stack
  stk : X.stack = X.outer ∨ (X.stack = X.env :: X.outer ∧ X.env.frame = some X.env.locals)
  exf : ∀ b ∈ X.ex, b ≠ X.env.locals ∧ ∀ x c, X.env.cells.lookup x = some c → c ≠ b
  bs : ∀ b o, X.base.get? b = some o → X.s_0.heap.get? b = some o ∧ X.H_0 b = none
  bsz : X.base.objs.size ≤ X.s_0.heap.objs.size
  noex : ∀ b o, X.base.get? b = some o → b ∉ X.ex
  exfs : ∀ b ∈ X.ex, b ∉ X.fs
  funs : X.s_0.heap.FunFrames X.base X.outer
  frf : ∀ b ∈ X.fs, X.H_0 b = none

structure Inv (X : Cx) (pins : List (Addr × Obj)) (σ : List (Option V)) (H : Hp) (s : Shared) : Prop where
  ok : X.Ok
  os : s.os = X.s_0.os
  bare : AllBare s.gens
  base : Un X.fs X.ex X.H_0 H X.s_0.heap s.heap
  loc : ∃ m, s.heap.Ns X.env.locals m ∧ ∀ (i : Nat) (x : Str) (v : V), X.N[i]? = some x → σ[i]? = some (some v) → Vis X.env.scope x → ∃ u, RelV v u ∧ Look X.env s.heap m x u
  cell : ∀ x c, X.env.cells.lookup x = some c → ∃ v, s.heap.IsCell c v
  free : H X.env.locals = none
  freeC : ∀ x c, X.env.cells.lookup x = some c → H c = none
  pin : ∀ p ∈ X.pn ++ pins, s.heap.get? p.1 = some p.2 ∧ H p.1 = none ∧ p.1 ≠ X.env.locals ∧ p.1 ∉ X.fs ∧ ∀ v, p.2.data ≠ .cell v
  hok : HOk X.prog X.w H s.heap
  len : σ.length = X.N.length

section
variable {X : Cx} {pins : List (Addr × Obj)} {σ : List (Option V)} {H H' : Hp} {s : Shared} {h' : Heap}

theorem Cx.Ok.nofr (ok : X.Ok) {b : Addr} {o : Obj} (e : X.base.get? b = some o) : b ∉ X.fs := fun hb => by
  have := (ok.funs.mem hb).1
  rw [e] at this; cases this
theorem Inv.bs (I : Inv X pins σ H s) : ∀ b o, X.base.get? b = some o → s.heap.get? b = some o ∧ H b = none := fun b o e =>
  ⟨I.base.keep b o (I.ok.bs b o e).1 (I.ok.bs b o e).2 (I.ok.nofr e) (I.ok.noex b o e), I.base.free b o (I.ok.bs b o e).1 (I.ok.bs b o e).2 (I.ok.noex b o e)⟩
theorem Inv.bk (I : Inv X pins σ H s) : ∀ b o, X.base.get? b = some o → s.heap.get? b = some o := fun b o e => (I.bs b o e).1
theorem Inv.mod (I : Inv X pins σ H s) : Mod X.K X.mg X.base := I.ok.mod
theorem Inv.kIn (I : Inv X pins σ H s) : X.K.In s.heap := I.ok.mod.kin.keeps I.bk
theorem Inv.nolimit (I : Inv X pins σ H s) : s.heap.NoLimit := I.ok.mod.nolimit.keeps I.bk
/-- the frame over the base: for OpenK's rules (K.In X.base is I.mod.kin) -/
theorem Inv.fr (I : Inv X pins σ H s) : ∃ m, Fr X.base X.env.locals s.heap m :=
  let ⟨m, hn, _⟩ := I.loc
  ⟨m, hn, I.bk, Nat.le_trans I.ok.bsz I.ok.above⟩
theorem Inv.lt (I : Inv X pins σ H s) : X.env.locals < s.heap.objs.size := let ⟨_, hn, _⟩ := I.loc; hn.lt
theorem Inv.sz (I : Inv X pins σ H s) : X.s_0.heap.objs.size ≤ s.heap.objs.size := Nat.le_trans I.ok.above (Nat.le_of_lt I.lt)
theorem Inv.nofs (I : Inv X pins σ H s) {a : Addr} (h : s.heap.objs.size ≤ a) : a ∉ X.fs := fun hb => by
  obtain ⟨_, o, ho, _⟩ := I.ok.funs.mem hb
  exact absurd (Nat.lt_of_lt_of_le (Heap.lt_size ho) (Nat.le_trans I.sz h)) (Nat.lt_irrefl _)
theorem Inv.cne (I : Inv X pins σ H s) : ∀ x c, X.env.cells.lookup x = some c → c ≠ X.env.locals := fun x c e z => by
  obtain ⟨v, o, ho, hd⟩ := I.cell x c e
  obtain ⟨m, ⟨o', es, ep, ho', hd', _⟩, _⟩ := I.loc
  rw [z, ho'] at ho; cases ho; rw [hd'] at hd; cases hd
theorem Inv.funs (I : Inv X pins σ H s) : s.heap.FunFrames X.base X.outer := by
  have all : ∀ (l : List Env), (∀ b ∈ frs l, b ∈ X.fs) → X.s_0.heap.FunFrames X.base l → s.heap.FunFrames X.base l := by
    intro l
    induction l with
    | nil => intro _ _; trivial
    | cons env r ih =>
      intro hs hl
      obtain ⟨hk, ⟨L, o, hf, hn, ho, hd⟩, hr⟩ := hl
      have hL : L ∈ X.fs := hs L (by unfold frs; rw [List.filterMap_cons, hf]; exact List.mem_cons_self)
      obtain ⟨sl, e⟩ := I.base.slot L o ho (I.ok.frf L hL) hL fun z => I.ok.exfs L z hL
      exact ⟨hk, ⟨L, _, hf, hn, e, hd⟩, ih (fun b hb => hs b (by unfold frs; rw [List.filterMap_cons, hf]; exact List.mem_cons_of_mem _ hb)) hr⟩
  exact all X.outer (fun _ hb => hb) I.ok.funs

/-- the frames that run, for a call -/
theorem Inv.stack (I : Inv X pins σ H s) : s.heap.FunFrames X.base X.stack := by
  rcases I.ok.stk with e | ⟨e, hf⟩
  · rw [e]; exact I.funs
  · rw [e]
    obtain ⟨m, hn, _⟩ := I.loc
    refine .cons (by rw [I.ok.kind]; decide) hf hn ?_ I.funs
    exact Heap.get?_none_of_le (Nat.le_trans I.ok.bsz I.ok.above)
theorem Inv.stkSub (I : Inv X pins σ H s) : ∀ b ∈ frs X.stack, b ∈ X.env.locals :: X.fs := fun b hb => by
  rcases I.ok.stk with e | ⟨e, hf⟩
  · rw [e] at hb; exact List.mem_cons_of_mem _ hb
  · rw [e] at hb
    unfold frs at hb
    rw [List.filterMap_cons, hf] at hb
    exact hb
theorem Inv.stkFree (I : Inv X pins σ H s) : ∀ b ∈ frs X.stack, H b = none := fun b hb => by
  rcases List.mem_cons.mp (I.stkSub b hb) with e | hb
  · rw [e]; exact I.free
  · obtain ⟨_, o, ho, _⟩ := I.ok.funs.mem hb
    exact I.base.free b o ho (I.ok.frf b hb) fun z => I.ok.exfs b z hb

/-- THE STEP: the untracked objects but the frame and the records at ch are kept (the callers' frames up to slots), the frame's map is kept, the new abstract heap is held -/
theorem Inv.step {g' : Array GenState} {t' : Nat} {d' : Drawn} {ch : List Addr} (I : Inv X pins σ H s)
    (hch : ∀ b ∈ ch, (b ∈ X.ex ∨ X.s_0.heap.objs.size ≤ b) ∧ b ≠ X.env.locals ∧ (∀ x c, X.env.cells.lookup x = some c → c ≠ b) ∧ ∀ p ∈ X.pn ++ pins, p.1 ≠ b)
    (keep : ∀ b o, b ≠ X.env.locals → b ∉ X.fs → b ∉ ch → s.heap.get? b = some o → H b = none → h'.get? b = some o)
    (slot : ∀ b o, b ≠ X.env.locals → b ∈ X.fs → b ∉ ch → s.heap.get? b = some o → H b = none → ∃ sl, h'.get? b = some { o with slots := sl }) (free : ∀ b o, b ∉ ch → s.heap.get? b = some o → H b = none → H' b = none)
    (there : ∀ b o, b ∉ ch → s.heap.get? b = some o → ∃ o', h'.get? b = some o')
    (tups : ∀ b xs, H b = some (.tup xs) → H' b = some (.tup xs)) (frzs : ∀ b o u, H b = some (.frz o u) → H' b = some (.frz o u)) (tbls : ∀ b ps, H b = some (.tbl ps) → ∃ more, H' b = some (.tbl (ps ++ more)))
    (ns : ∀ m, s.heap.Ns X.env.locals m → h'.Ns X.env.locals m) (hok : HOk X.prog X.w H' h') (hg : AllBare g') :
    Inv X pins σ H' { s with heap := h', gens := g', drawn := d', toks := t' } := by
  have neL : ∀ b o, X.s_0.heap.get? b = some o → b ≠ X.env.locals := fun b o e => Nat.ne_of_lt (Nat.lt_of_lt_of_le (Heap.lt_size e) I.ok.above)
  have neC : ∀ b o, X.s_0.heap.get? b = some o → b ∉ X.ex → b ∉ ch := fun b o e hx hb => by
    rcases (hch b hb).1 with z | z
    · exact hx z
    · exact absurd (Nat.lt_of_lt_of_le (Heap.lt_size e) z) (Nat.lt_irrefl _)
  have cellK : ∀ x c, X.env.cells.lookup x = some c → ∀ v, s.heap.IsCell c v → h'.IsCell c v := fun x c e v ⟨o, ho, hd⟩ => by
    have nch : c ∉ ch := fun z => (hch c z).2.2.1 x c e rfl
    by_cases hc : c ∈ X.fs
    · obtain ⟨sl, q⟩ := slot c o (I.cne x c e) hc nch ho (I.freeC x c e)
      exact ⟨_, q, hd⟩
    · exact ⟨o, keep c o (I.cne x c e) hc nch ho (I.freeC x c e), hd⟩
  refine ⟨I.ok, I.os, hg, ⟨fun b o e n hb hx => ?_, fun b o e n hb hx => ?_, fun b o e n hx => ?_, fun b o e hx => ?_, fun b xs e => tups b xs (I.base.tups b xs e), fun b o xs e => frzs b o xs (I.base.frzs b o xs e), fun b ps e => ?_⟩, ?_, fun x c e => ?_, ?_, fun x c e => ?_, fun p hp => ?_, hok, I.len⟩
  · exact keep b o (neL b o e) hb (neC b o e hx) (I.base.keep b o e n hb hx) (I.base.free b o e n hx)
  · obtain ⟨sl, e1⟩ := I.base.slot b o e n hb hx
    obtain ⟨sl', e2⟩ := slot b _ (neL b o e) hb (neC b o e hx) e1 (I.base.free b o e n hx)
    exact ⟨sl', e2⟩
  · obtain ⟨o', e1⟩ := I.base.there b o e hx
    exact free b o' (neC b o e hx) e1 (I.base.free b o e n hx)
  · obtain ⟨o', e1⟩ := I.base.there b o e hx
    exact there b o' (neC b o e hx) e1
  · obtain ⟨m1, e1⟩ := I.base.tbls b ps e
    obtain ⟨m2, e2⟩ := tbls b _ e1
    exact ⟨m1 ++ m2, by rw [e2, Array.append_assoc]⟩
  · obtain ⟨m, hn, hl⟩ := I.loc
    refine ⟨m, ns m hn, fun i x v e1 e2 e3 => ?_⟩
    obtain ⟨u, r, l⟩ := hl i x v e1 e2 e3
    refine ⟨u, r, ?_⟩
    rcases l with l | ⟨k, c, e, z⟩
    · exact .inl l
    · exact .inr ⟨k, c, e, cellK x c e _ z⟩
  · obtain ⟨v, z⟩ := I.cell x c e
    exact ⟨v, cellK x c e v z⟩
  · obtain ⟨m, ⟨o, _, _, ho, _⟩, _⟩ := I.loc
    exact free _ o (fun z => (hch _ z).2.1 rfl) ho I.free
  · obtain ⟨v, o, ho, hd⟩ := I.cell x c e
    exact free c o (fun z => (hch c z).2.2.1 x c e rfl) ho (I.freeC x c e)
  · obtain ⟨e, n, ne, nf, d⟩ := I.pin p hp
    have nch : p.1 ∉ ch := fun z => (hch p.1 z).2.2.2 p hp rfl
    exact ⟨keep p.1 p.2 ne nf nch e n, free p.1 p.2 nch e n, ne, nf, d⟩
/-- .. where the frame's own object is kept too -/
theorem Inv.un {t' : Nat} (I : Inv X pins σ H s) (u : Un X.fs [] H H' s.heap h') (hok : HOk X.prog X.w H' h') : Inv X pins σ H' { s with heap := h', toks := t' } := by
  obtain ⟨m, ⟨o, es, ep, ho, r⟩, _⟩ := id I.loc
  obtain ⟨sl, hL⟩ := u.any ho I.free (by simp)
  exact I.step (g' := s.gens) (d' := s.drawn) (ch := []) (fun _ z => nomatch z) (fun b o _ hb _ e n => u.keep b o e n hb (by simp)) (fun b o _ hb _ e n => u.slot b o e n hb (by simp)) (fun b o _ e n => u.free b o e n (by simp)) (fun b o _ e => u.there b o e (by simp)) u.tups u.frzs u.tbls (fun m' hm => by
    obtain ⟨o', es', ep', ho', r'⟩ := hm
    rw [ho] at ho'; cases ho'
    exact ⟨_, es', ep', hL, r'⟩) hok I.bare
/-- behind a call (or a comprehension's block): the slots of this frame may have changed too, the records at ch may have turned -/
theorem Inv.call {g' : Array GenState} {t' : Nat} {d' : Drawn} {ch : List Addr} (I : Inv X pins σ H s) (u : Un (frs X.stack) ch H H' s.heap h') (hok : HOk X.prog X.w H' h') (hg : AllBare g')
    (hch : ∀ b ∈ ch, (b ∈ X.ex ∨ X.s_0.heap.objs.size ≤ b) ∧ b ≠ X.env.locals ∧ (∀ x c, X.env.cells.lookup x = some c → c ≠ b) ∧ ∀ p ∈ X.pn ++ pins, p.1 ≠ b) :
    Inv X pins σ H' { s with heap := h', gens := g', drawn := d', toks := t' } := by
  obtain ⟨m, ⟨o, es, ep, ho, r⟩, _⟩ := id I.loc
  obtain ⟨sl, hL⟩ := u.any ho I.free fun z => (hch _ z).2.1 rfl
  exact I.step (ch := ch) hch (fun b o hL hb hc e n => u.keep b o e n (fun z => (List.mem_cons.mp (I.stkSub b z)).elim hL hb) hc) (fun b o _ _ hc e n => u.any e n hc) (fun b o hc e n => u.free b o e n hc) (fun b o hc e => u.there b o e hc) u.tups u.frzs u.tbls (fun m' hm => by
    obtain ⟨o', es', ep', ho', r'⟩ := hm
    rw [ho] at ho'; cases ho'
    exact ⟨_, es', ep', hL, r'⟩) hok hg
/-- an untracked record of ours (an iterator) has turned -/
theorem Inv.turned {t' : Nat} {it : Addr} (I : Inv X pins σ H s) (k : ∀ b o, b ≠ it → s.heap.get? b = some o → h'.get? b = some o) (hn : H it = none) (hL : it ≠ X.env.locals)
    (h1 : it ∈ X.ex ∨ X.s_0.heap.objs.size ≤ it) (h2 : ∀ x c, X.env.cells.lookup x = some c → c ≠ it) (h3 : ∀ p ∈ X.pn ++ pins, p.1 ≠ it) : Inv X pins σ H { s with heap := h', toks := t' } := by
  have nit : ∀ b u, H b = some u → b ≠ it := fun b u e z => by rw [z, hn] at e; cases e
  refine I.step (g' := s.gens) (d' := s.drawn) (ch := [it]) (fun b hb => ?_) (fun b o _ _ hc e _ => k b o (fun z => hc (by simp [z])) e) (fun b o _ _ hc e _ => ⟨o.slots, k b o (fun z => hc (by simp [z])) e⟩) (fun _ _ _ _ n => n)
    (fun b o hc e => ⟨o, k b o (fun z => hc (by simp [z])) e⟩) (fun _ _ e => e) (fun _ _ _ e => e) (fun b ps e => ⟨#[], by rw [e]; simp⟩) (fun m hm => ?_) (fun b u e => ?_) I.bare
  · have e : b = it := by simpa using hb
    subst e
    exact ⟨h1, hL, h2, h3⟩
  · obtain ⟨o, es, ep, ho, r⟩ := hm
    exact ⟨o, es, ep, k _ o (Ne.symm hL) ho, r⟩
  · refine (I.hok b u e).stay (fun c v hc q => k c v ?_ q) (fun _ q => q) fun _ _ q => q
    rcases hc with z | z
    · rw [z]; exact nit b u e
    · exact nit c _ z
theorem Inv.tok (I : Inv X pins σ H s) (t : Nat) : Inv X pins σ H { s with toks := t } := I.un (h' := s.heap) (t' := t) Un.refl I.hok
/-- all objects kept -/
theorem Inv.kept {t' : Nat} (I : Inv X pins σ H s) (k : ∀ b u, s.heap.get? b = some u → h'.get? b = some u) : Inv X pins σ H { s with heap := h', toks := t' } := I.un (Un.kept k) (I.hok.kept k)
/-- a new object laid and tracked -/
theorem Inv.laid {a : Addr} {o : HO} {t' : Nat} (I : Inv X pins σ H s) (k : ∀ b u, s.heap.get? b = some u → h'.get? b = some u) (hp : s.heap.objs.size ≤ a) (new : ObjOk X.prog X.w (upd H a o) h' a o) :
    Inv X pins σ (upd H a o) { s with heap := h', toks := t' } := I.un (Un.laid k hp (I.hok.fresh hp)) (I.hok.laid k hp new)
/-- an object written -/
theorem Inv.write {x e : Addr} {o : HO} {t' : Nat} (I : Inv X pins σ H s) (mu : Mut (H x)) (he : e = x ∨ H e = some (.own x)) (k : ∀ b u, b ≠ e → s.heap.get? b = some u → h'.get? b = some u) (heo : ∃ u, h'.get? e = some u)
    (new : ObjOk X.prog X.w (upd H x o) h' x o) : Inv X pins σ (upd H x o) { s with heap := h', toks := t' } := I.un (Un.write mu he k heo) (I.hok.write mu he k heo new)
/-- forgetting slots, pins -/
theorem Inv.weak {σ' : List (Option V)} (I : Inv X pins σ H s) (hl : σ'.length = σ.length) (w : ∀ (i : Nat) v, σ'[i]? = some (some v) → σ[i]? = some (some v)) : Inv X pins σ' H s :=
  ⟨I.ok, I.os, I.bare, I.base, let ⟨m, hn, hl'⟩ := I.loc; ⟨m, hn, fun i x v e1 e2 e3 => hl' i x v e1 (w i v e2) e3⟩, I.cell, I.free, I.freeC, I.pin, I.hok, hl.trans I.len⟩
theorem Inv.pins_of {pins' : List (Addr × Obj)} (I : Inv X pins σ H s) (h : ∀ p ∈ pins', s.heap.get? p.1 = some p.2 ∧ H p.1 = none ∧ p.1 ≠ X.env.locals ∧ p.1 ∉ X.fs ∧ ∀ v, p.2.data ≠ .cell v) : Inv X pins' σ H s :=
  ⟨I.ok, I.os, I.bare, I.base, I.loc, I.cell, I.free, I.freeC, fun p hp => (List.mem_append.mp hp).elim (fun z => I.pin p (List.mem_append_left _ z)) (h p), I.hok, I.len⟩

theorem nodup_ix {N : List Str} (hN : N.Nodup) {i j : Nat} {x : Str} (a : N[i]? = some x) (b : N[j]? = some x) : i = j := by
  obtain ⟨h1, e1⟩ := List.getElem?_eq_some_iff.mp a
  obtain ⟨h2, e2⟩ := List.getElem?_eq_some_iff.mp b
  exact (List.getElem_inj hN).mp (e1.trans e2.symm)

/-- a name is stored; what changed -/
theorem store_ok2 {M : Model} {A : Around} {E : Value → Shared → Prop} {i : Nat} {x : Str} {v : V} {u : Value} {Q : Unit → Shared → Prop} (I : Inv X pins σ H s) (hN : X.N.Nodup) (hi : X.N[i]? = some x) (hx : Loc X.env.scope x) (r : RelV v u)
    (h : ∀ s', Inv X pins (σ.set i (some v)) H s' → (∃ a, Heap.SameBut a s.heap s'.heap ∧ (a = X.env.locals ∨ X.env.cells.lookup x = some a)) → Q () s') (hf : X.fn x = true ∨ X.env.scope.names.lookup x = some .local := by first | exact .inl rfl | exact .inr rfl | assumption) : wpAny M A (storeName X.env x u) Q E s := by
  obtain ⟨m, hn, hl⟩ := id I.loc
  have hcls : (X.env.scope.kind == .class || (X.env.scope.kind == .module && X.env.locals != X.env.globals)) = false := by rw [I.ok.kind]; rfl
  have hiσ : i < σ.length := by rw [I.len]; exact (List.getElem?_eq_some_iff.mp hi).1
  have cne := I.cne
  have tracked : ∀ {a : Addr} {h' : Heap}, (∃ o, s.heap.get? a = some o ∧ H a = none) → Heap.SameBut a s.heap h' → HOk X.prog X.w H h' := fun {a h'} ha hs b ob e => by
    obtain ⟨_, _, hfree⟩ := ha
    refine (I.hok b ob e).stay (fun c w' hc q => (hs.2 c ?_).trans q) (fun _ q => q) fun _ _ q => q
    rintro rfl
    rcases hc with rfl | hc
    · rw [hfree] at e; cases e
    · rw [hfree] at hc; cases hc
  rcases hx with hk | hk
  · refine wpAny_storeName_local hk hn (fun h' hn' hs => ?_) hcls
    obtain ⟨oL, _, _, hoL, _⟩ := id hn
    refine h _ ⟨I.ok, I.os, I.bare, ⟨fun b o e n hb hx => ?_, fun b o e n hb hx => ?_, I.base.free, fun b o e hx => ?_, I.base.tups, I.base.frzs, I.base.tbls⟩, ⟨_, hn', fun j y v' e1 e2 e3 => ?_⟩, fun y c e => ?_, I.free, I.freeC, fun p hp => ?_, tracked ⟨oL, hoL, I.free⟩ hs, by simpa using I.len⟩ ⟨_, hs, .inl rfl⟩
    · exact (hs.2 b (Nat.ne_of_lt (Nat.lt_of_lt_of_le (Heap.lt_size e) I.ok.above))).trans (I.base.keep b o e n hb hx)
    · obtain ⟨sl, e1⟩ := I.base.slot b o e n hb hx
      exact ⟨sl, (hs.2 b (Nat.ne_of_lt (Nat.lt_of_lt_of_le (Heap.lt_size e) I.ok.above))).trans e1⟩
    · obtain ⟨o', e1⟩ := I.base.there b o e hx
      exact ⟨o', (hs.2 b (Nat.ne_of_lt (Nat.lt_of_lt_of_le (Heap.lt_size e) I.ok.above))).trans e1⟩
    · by_cases hj : j = i
      · subst hj
        rw [hi] at e1; cases e1
        rw [List.getElem?_set_self hiσ] at e2
        cases e2
        exact ⟨u, r, .inl ⟨hk, by simp⟩⟩
      · rw [List.getElem?_set_ne (Ne.symm hj)] at e2
        obtain ⟨u', r', q⟩ := hl j y v' e1 e2 e3
        refine ⟨u', r', ?_⟩
        rcases q with ⟨k, e⟩ | ⟨k, c, e, z⟩
        · refine .inl ⟨k, ?_⟩
          have : y ≠ x := fun e => hj (nodup_ix hN e1 (e ▸ hi))
          simp [this, e]
        · exact .inr ⟨k, c, e, z.sameBut hs (cne y c e)⟩
    · obtain ⟨w', z⟩ := I.cell y c e
      exact ⟨w', z.sameBut hs (cne y c e)⟩
    · obtain ⟨e, n, ne, nf, d⟩ := I.pin p hp
      exact ⟨(hs.2 p.1 ne).trans e, n, ne, nf, d⟩
  · have hfn : X.fn x = true := by
      rcases hf with z | z
      · exact z
      · rw [z] at hk; cases hk
    obtain ⟨c, hc⟩ := I.ok.has x (.inl hk)
    obtain ⟨w', z⟩ := I.cell x c hc
    refine wpAny_storeName_cell I.ok.kind hk hc z (fun h' hc' hs => ?_)
    obtain ⟨oc, hoc, hocd⟩ := id z
    refine h { s with heap := h' } ⟨I.ok, I.os, I.bare, ⟨fun b o e n hb hx => ?_, fun b o e n hb hx => ?_, I.base.free, fun b o e hx => ?_, I.base.tups, I.base.frzs, I.base.tbls⟩, ⟨m, hn.sameBut hs (Ne.symm (cne x c hc)), fun j y v' e1 e2 e3 => ?_⟩, fun y c' e => ?_, I.free, I.freeC, fun p hp => ?_, tracked ⟨oc, hoc, I.freeC x c hc⟩ hs, by simpa using I.len⟩ ⟨c, hs, .inr hc⟩
    · exact (hs.2 b (Nat.ne_of_lt (Nat.lt_of_lt_of_le (Heap.lt_size e) (I.ok.cab x c hfn hc)))).trans (I.base.keep b o e n hb hx)
    · obtain ⟨sl, e1⟩ := I.base.slot b o e n hb hx
      exact ⟨sl, (hs.2 b (Nat.ne_of_lt (Nat.lt_of_lt_of_le (Heap.lt_size e) (I.ok.cab x c hfn hc)))).trans e1⟩
    · obtain ⟨o', e1⟩ := I.base.there b o e hx
      exact ⟨o', (hs.2 b (Nat.ne_of_lt (Nat.lt_of_lt_of_le (Heap.lt_size e) (I.ok.cab x c hfn hc)))).trans e1⟩
    · by_cases hj : j = i
      · subst hj
        rw [hi] at e1; cases e1
        rw [List.getElem?_set_self hiσ] at e2
        cases e2
        exact ⟨u, r, .inr ⟨.inl hk, c, hc, hc'⟩⟩
      · rw [List.getElem?_set_ne (Ne.symm hj)] at e2
        obtain ⟨u', r', q⟩ := hl j y v' e1 e2 e3
        refine ⟨u', r', ?_⟩
        rcases q with q | ⟨k, c', e, z'⟩
        · exact .inl q
        · refine .inr ⟨k, c', e, z'.sameBut hs ?_⟩
          rintro rfl
          exact hj (nodup_ix hN e1 (I.ok.inj _ _ _ e hc ▸ hi))
    · by_cases hcc : c' = c
      · subst hcc; exact ⟨_, hc'⟩
      · obtain ⟨w2, z2⟩ := I.cell y c' e
        exact ⟨w2, z2.sameBut hs hcc⟩
    · obtain ⟨e, n, ne, nf, d⟩ := I.pin p hp
      refine ⟨(hs.2 p.1 ?_).trans e, n, ne, nf, d⟩
      intro q
      rw [q, hoc] at e
      have q' : oc = p.2 := Option.some.inj e
      exact d w' (by rw [← q']; exact hocd)
theorem store_ok {M : Model} {A : Around} {E : Value → Shared → Prop} {i : Nat} {x : Str} {v : V} {u : Value} {Q : Unit → Shared → Prop} (I : Inv X pins σ H s) (hN : X.N.Nodup) (hi : X.N[i]? = some x) (hx : Loc X.env.scope x) (r : RelV v u)
    (h : ∀ s', Inv X pins (σ.set i (some v)) H s' → Q () s') (hf : X.fn x = true ∨ X.env.scope.names.lookup x = some .local := by first | exact .inl rfl | exact .inr rfl | assumption) : wpAny M A (storeName X.env x u) Q E s :=
  store_ok2 I hN hi hx r (fun s' I' _ => h s' I') hf
/-- behind a call or a block, the state as it is -/
theorem Inv.call' {s' : Shared} {ch : List Addr} (I : Inv X pins σ H s) (ho : s'.os = s.os) (u : Un (frs X.stack) ch H H' s.heap s'.heap) (hok : HOk X.prog X.w H' s'.heap) (hg : AllBare s'.gens)
    (hch : ∀ b ∈ ch, (b ∈ X.ex ∨ X.s_0.heap.objs.size ≤ b) ∧ b ≠ X.env.locals ∧ (∀ x c, X.env.cells.lookup x = some c → c ≠ b) ∧ ∀ p ∈ X.pn ++ pins, p.1 ≠ b) : Inv X pins σ H' s' := by
  obtain ⟨h', g', d', t', o'⟩ := s'
  have e : o' = s.os := ho
  subst e
  exact I.call (g' := g') (t' := t') (d' := d') u hok hg hch
end

/-! ### the judgements -/
/-- an exception: its class, its own dict's address (where it has one), the abstract heap behind it -/
abbrev XK := Value → Option Addr → Hp → Prop
abbrev St := List (Option V)
abbrev VK := V → Hp → Prop
/-- an expression's reading; a test's; an argument list's -/
abbrev TE := St → Hp → VK → Prop
abbrev TT := St → Hp → (Bool → Hp → Prop) → Prop
abbrev TA := St → Hp → (List V → Hp → Prop) → Prop
/-- what is wanted behind a statement -/
structure Ends where
  nx : St → Hp → Prop
  rt : VK
  bk : St → Hp → Prop := fun _ _ => False
  ct : St → Hp → Prop := fun _ _ => False
abbrev TS := Ends → St → Hp → Prop

def EP (X : Cx) (pins : List (Addr × Obj)) (σ : St) (Q : VK) (u : Value) (s' : Shared) : Prop := ∃ v H', Inv X pins σ H' s' ∧ RelV v u ∧ Q v H'
def TP (X : Cx) (pins : List (Addr × Obj)) (σ : St) (Q : Bool → Hp → Prop) (b : Bool) (s' : Shared) : Prop := ∃ H', Inv X pins σ H' s' ∧ Q b H'
def AP (X : Cx) (pins : List (Addr × Obj)) (σ : St) (Q : List V → Hp → Prop) (us : List Value) (s' : Shared) : Prop := ∃ vs H', Inv X pins σ H' s' ∧ Vals vs us ∧ Q vs H'
def SP (X : Cx) (pins : List (Addr × Obj)) (D : Ends) (f : Flow) (s' : Shared) : Prop :=
  match f with
  | .next => ∃ σ' H', Inv X pins σ' H' s' ∧ D.nx σ' H'
  | .brk => ∃ σ' H', Inv X pins σ' H' s' ∧ D.bk σ' H'
  | .cont => ∃ σ' H', Inv X pins σ' H' s' ∧ D.ct σ' H'
  | .ret u => ∃ v σ' H', Inv X pins σ' H' s' ∧ RelV v u ∧ D.rt v H'

def PE (X : Cx) (e : Expr) (t : TE) : Prop :=
  ∀ (pins : List (Addr × Obj)) (s : Shared) (σ : St) (H : Hp) (Q : VK), Inv X pins σ H s → t σ H Q → wpAny (model X.prog X.w) X.A (eval e X.env) (EP X pins σ Q) X.xe s
def PT (X : Cx) (e : Expr) (t : TT) : Prop :=
  ∀ (pins : List (Addr × Obj)) (s : Shared) (σ : St) (H : Hp) (Q : Bool → Hp → Prop), Inv X pins σ H s → t σ H Q → wpAny (model X.prog X.w) X.A (isTrue e X.env (eval e X.env)) (TP X pins σ Q) X.xe s
/-- a test whatever its 'whole' is (and, or) -/
def PW (X : Cx) (e : Expr) (t : TT) : Prop :=
  ∀ (whole : Sem Value) (pins : List (Addr × Obj)) (s : Shared) (σ : St) (H : Hp) (Q : Bool → Hp → Prop), Inv X pins σ H s → t σ H Q → wpAny (model X.prog X.w) X.A (isTrue e X.env whole) (TP X pins σ Q) X.xe s
theorem PW.pt {X : Cx} {e : Expr} {t : TT} (h : PW X e t) : PT X e t := h _
/-- an argument list (no star), from the left -/
def PA (X : Cx) (es : List Expr) (t : TA) : Prop :=
  ∀ (pos : Pos) (pins : List (Addr × Obj)) (s : Shared) (σ : St) (H : Hp) (Q : List V → Hp → Prop), Inv X pins σ H s → t σ H Q → wpAny (model X.prog X.w) X.A (spliced (backTo pos (starEach es X.env))) (AP X pins σ Q) X.xe s
def PS (X : Cx) (st : Stmt) (t : TS) : Prop :=
  ∀ (pins : List (Addr × Obj)) (s : Shared) (σ : St) (H : Hp) (D : Ends), Inv X pins σ H s → t D σ H → wpAny (model X.prog X.w) X.A (exec st X.env) (SP X pins D) X.xe s
def PSs (X : Cx) (st : List Stmt) (t : TS) : Prop :=
  ∀ (pins : List (Addr × Obj)) (s : Shared) (σ : St) (H : Hp) (D : Ends), Inv X pins σ H s → t D σ H → wpAny (model X.prog X.w) X.A (execs st X.env) (SP X pins D) X.xe s
/-- weaken the end -/
theorem thn {α : Type} {t : Sem α} {Q Q' : α → Shared → Prop} {M : Model} {A : Around} {E : Value → Shared → Prop} {s : Shared} (h : wpAny M A t Q E s) (hQ : ∀ a s, Q a s → Q' a s) : wpAny M A t Q' E s := wpAny_mono h hQ fun _ _ x => x
end L2

namespace L2
open PySem PySem.Spec PyProof.Rows
section
variable {X : Cx}

/-- two expressions in a row -/
theorem bin {a b : Expr} {ta tb : TE} (ha : PE X a ta) (hb : PE X b tb) {pins : List (Addr × Obj)} {s : Shared} {σ : St} {H : Hp} {R : V → V → Hp → Prop} (I : Inv X pins σ H s) (h : ta σ H fun x H1 => tb σ H1 fun y H2 => R x y H2)
    {α : Type} {Q : α → Shared → Prop} {f : Value → Value → Sem α}
    (hf : ∀ v u s2 x y H2, Inv X pins σ H2 s2 → RelV x v → RelV y u → R x y H2 → wpAny (model X.prog X.w) X.A (f v u) Q X.xe s2) :
    wpAny (model X.prog X.w) X.A (eval a X.env) (fun v s₁ => wpAny (model X.prog X.w) X.A (eval b X.env) (fun u s₂ => wpAny (model X.prog X.w) X.A (f v u) Q X.xe s₂) X.xe s₁) X.xe s := by
  refine thn (ha pins s σ H _ I h) fun v s1 ⟨x, H1, I1, r1, q1⟩ => ?_
  refine thn (hb pins s1 σ H1 _ I1 q1) fun u s2 ⟨y, H2, I2, r2, q2⟩ => ?_
  exact hf v u s2 x y H2 I2 r1 r2 q2

/-! ### names and constants -/
def tVar (i : Nat) : TE := fun σ H Q => ∃ v, σ[i]? = some (some v) ∧ Q v H
def tC (v : V) : TE := fun _ H Q => Q v H
theorem pe_var {i : Nat} {x : Str} {pos : Pos} (hN : X.N[i]? = some x) (hv : Vis X.env.scope x) (hd : (x == ("__debug__" : Str)) = false := by decide) (hcd : (x == ("__classdict__" : Str)) = false := by decide) : PE X (.Name x pos) (tVar i) := by
  intro pins s σ H Q I h
  obtain ⟨v, e, h⟩ := h
  obtain ⟨m, hn, hl⟩ := I.loc
  obtain ⟨u, r, l⟩ := hl i x v hN e hv
  have fin : EP X pins σ Q u s := ⟨v, H, I, r, h⟩
  rcases l with ⟨hk, hm⟩ | ⟨hk, c, hc, hcell⟩
  · exact wpAny_Name (wpAny_loadName_local I.ok.kind hk hn hm fin) hd
  · rcases hk with hk | hk
    · exact wpAny_Name (wpAny_loadName_cell I.ok.kind hk hc hcell fin) hd
    · exact wpAny_Name (wpAny_loadName_free I.ok.kind hk hc hcell fin hcd) hd
theorem pe_int {i j pos} : PE X (.Constant (.int i) j pos) (tC (.int i)) := fun _ _ _ H _ I h => wpAny_Constant_int ⟨.int i, H, I.tok _, ⟨_, rfl⟩, h⟩
theorem pe_str {x j pos} : PE X (.Constant (.str x) j pos) (tC (.str x)) := fun _ _ _ H _ I h => Calls.Constant_str ⟨.str x, H, I.tok _, ⟨_, rfl⟩, h⟩

/-- a global name of the def -/
def Gl (X : Cx) (x : Str) : Prop := X.env.kindOf x = some .globalImplicit
theorem ld_glob {E : Value → Shared → Prop} {pins : List (Addr × Obj)} {s : Shared} {σ : St} {H : Hp} {x : Str} {u : Value} {pos : Pos} {Q : Value → Shared → Prop} (I : Inv X pins σ H s) (hg : Gl X x) (hm : X.mg x = some u) (h : Q u s)
    (hd : (x == ("__debug__" : Str)) = false := by decide) : wpAny (model X.prog X.w) X.A (eval (.Name x pos) X.env) Q E s :=
  Calls.Name_function_global I.ok.kind hg (Calls.loadGlobal_global (by rw [I.ok.glob]; exact I.mod.glob.keeps I.bk) hm h) hd
theorem ld_blt {E : Value → Shared → Prop} {pins : List (Addr × Obj)} {s : Shared} {σ : St} {H : Hp} {x : Str} {u : Value} {pos : Pos} {Q : Value → Shared → Prop} (I : Inv X pins σ H s) (hg : Gl X x) (hm : X.mg x = none) (hv : bootBuiltins x = some u) (h : Q u s)
    (hn : x ≠ "__name__" := by decide) (hd : (x == ("__debug__" : Str)) = false := by decide) : wpAny (model X.prog X.w) X.A (eval (.Name x pos) X.env) Q E s := by
  obtain ⟨mb, h1, h2⟩ := I.mod.blt
  exact Calls.Name_function_global I.ok.kind hg (Calls.loadGlobal_builtin (by rw [I.ok.glob]; exact I.mod.glob.keeps I.bk) hm (by rw [I.ok.blt]; exact h1.keeps I.bk) ((h2 x hn).trans hv) h) hd
/-- a module's constant, a class, a function, as a value -/
theorem pe_glob {x : Str} {v : V} {u : Value} {pos : Pos} (hg : Gl X x) (hm : X.mg x = some u) (r : RelV v u) (hd : (x == ("__debug__" : Str)) = false := by decide) : PE X (.Name x pos) (tC v) :=
  fun _ _ _ H _ I h => ld_glob I hg hm ⟨v, H, I, r, h⟩ hd
/-! ### arithmetic -/
/-- two ints -/
def t2I (ta tb : TE) (k : Int → Int → Hp → Prop) : St → Hp → Prop := fun σ H => ta σ H fun x H1 => tb σ H1 fun y H2 => ∃ i j, x = .int i ∧ y = .int j ∧ k i j H2
variable {a b : Expr} {ta tb : TE} {pos : Pos}
/-! ### comparisons -/
def PC (X : Cx) (op : CmpOp) (a b : Expr) (t : TE) : Prop :=
  ∀ (pins : List (Addr × Obj)) (s : Shared) (σ : St) (H : Hp) (Q : VK), Inv X pins σ H s → t σ H Q →
    wpAny (model X.prog X.w) X.A (eval a X.env) (fun v s₁ => wpAny (model X.prog X.w) X.A (eval b X.env) (fun u s₂ => wpAny (model X.prog X.w) X.A (compareOp op v u) (EP X pins σ Q) X.xe s₂) X.xe s₁) X.xe s
theorem nobehind (b : Expr) {op : CmpOp} (h : op ≠ .In) (h2 : op ≠ .NotIn) : behindInMarks op b = false := by
  have e1 : (op == CmpOp.In) = false := by cases op <;> first | rfl | exact absurd rfl h
  have e2 : (op == CmpOp.NotIn) = false := by cases op <;> first | rfl | exact absurd rfl h2
  cases b <;> simp [behindInMarks, e1, e2]
def tCmp (p : Int → Int → Bool) (ta tb : TE) : TE := fun σ H Q => t2I ta tb (fun i j H2 => Q (.bl (p i j)) H2) σ H
abbrev tLt : TE → TE → TE := tCmp fun i j => decide (i < j)
abbrev tGt : TE → TE → TE := tCmp fun i j => decide (j < i)
abbrev tEqI : TE → TE → TE := tCmp fun i j => decide (i = j)
abbrev tNeI : TE → TE → TE := tCmp fun i j => !decide (i = j)
/-- a comparison of two ints, by its rule -/
theorem pc_int {op : CmpOp} {p : Int → Int → Bool} (ha : PE X a ta) (hb : PE X b tb)
    (rule : ∀ (i j : Int) (t u : Tok) (Q : Value → Shared → Prop) (s : Shared), Q (.bool (p i j)) s → wpAny (model X.prog X.w) X.A (compareOp op (.int i t) (.int j u)) Q X.xe s) : PC X op a b (tCmp p ta tb) := by
  intro pins s σ H Q I h
  refine bin ha hb I h fun v u s2 x y H2 I2 rx ry q => ?_
  obtain ⟨i, j, rfl, rfl, q⟩ := q
  obtain ⟨t, rfl⟩ := rx
  obtain ⟨t', rfl⟩ := ry
  exact rule i j t t' _ s2 ⟨.bl _, H2, I2, rfl, q⟩
theorem pc_lt (ha : PE X a ta) (hb : PE X b tb) : PC X .Lt a b (tLt ta tb) := pc_int ha hb fun _ _ _ _ _ _ h => lt_int h
theorem pc_gt (ha : PE X a ta) (hb : PE X b tb) : PC X .Gt a b (tGt ta tb) := pc_int ha hb fun _ _ _ _ _ _ h => gt_int h
theorem pc_eqI (ha : PE X a ta) (hb : PE X b tb) : PC X .Eq a b (tEqI ta tb) := pc_int ha hb fun _ _ _ _ _ _ h => eq_int (by rw [Bool.beq_eq_decide_eq]; exact h)
theorem pc_neI (ha : PE X a ta) (hb : PE X b tb) : PC X .NotEq a b (tNeI ta tb) := pc_int ha hb fun _ _ _ _ _ _ h => ne_int (by rw [bne, Bool.beq_eq_decide_eq]; exact h)
/-- a comparison as a value, as a test -/
def tB (t : TE) : TT := fun σ H Q => t σ H fun x H1 => ∃ c, x = .bl c ∧ Q c H1
theorem pe_cmp {op : CmpOp} {t : TE} (h : PC X op a b t) (h1 : behindInMarks op b = false := by first | exact nobehind _ (by decide) (by decide) | rfl) : PE X (.Compare a [op] [b] pos) t := fun pins s σ H Q I hw => wpAny_Compare1 (h pins s σ H Q I hw) h1
theorem pt_cmp {op : CmpOp} {t : TE} (h : PC X op a b t) (h1 : behindInMarks op b = false := by first | exact nobehind _ (by decide) (by decide) | rfl) : PT X (.Compare a [op] [b] pos) (tB t) := by
  intro pins s σ H Q I hw
  refine wpAny_isTrue_Compare1 (thn (h pins s σ H _ I hw) fun v s1 h1 => thn h1 fun u s2 h2 => thn h2 fun c s3 ⟨x, H1, I1, r1, q1⟩ => ?_) h1
  obtain ⟨d, rfl, q⟩ := q1
  cases r1
  exact wpAny_truthy_bool ⟨H1, I1, q⟩
/-- an expression whose value is a bool, as a test -/
theorem pt_val {e : Expr} {t : TE} (h : PE X e t) (he : ∀ whole, isTrue e X.env whole = (do let v ← whole; standAt e.pos; holding [v] (truthy v)) := by intro _; rfl) : PT X e (tB t) := by
  intro pins s σ H Q I hw
  refine isTrue_plain (thn (h pins s σ H _ I hw) fun v s1 ⟨x, H1, I1, r1, q1⟩ => ?_) (he _)
  obtain ⟨d, rfl, q⟩ := q1
  cases r1
  exact wpAny_truthy_bool ⟨H1, I1, q⟩

/-! ### and, or, not -/
variable {tA tB' : TT} {rest : List Expr}
def tOr (t u : TT) : TT := fun σ H Q => t σ H fun c H1 => if c = true then Q true H1 else u σ H1 Q
theorem pw_or1 (ha : PT X a tA) : PW X (.BoolOp .Or [a] pos) tA := by
  intro wh pins s σ H Q I h
  refine isTrue_or (thn (ha pins s σ H Q I h) fun c s1 e => ?_)
  cases c with
  | false => exact isTrue_or_nil e
  | true => exact e
theorem pw_or (ha : PT X a tA) (hb : PW X (.BoolOp .Or (b :: rest) pos) tB') : PW X (.BoolOp .Or (a :: b :: rest) pos) (tOr tA tB') := by
  intro wh pins s σ H Q I h
  refine isTrue_or (thn (ha pins s σ H _ I h) fun c s1 ⟨H1, I1, q1⟩ => ?_)
  cases c with
  | true => exact ⟨H1, I1, q1⟩
  | false => exact hb wh pins s1 σ H1 Q I1 q1
def tOrV (ta tb : TE) : TE := fun σ H Q => ta σ H fun x H1 => ∃ c, x = .bl c ∧ if c = true then Q (.bl true) H1 else tb σ H1 Q
theorem pe_one {op} {t : TE} (h : PE X a t) : PE X (.BoolOp op [a] pos) t := fun pins s σ H Q I hw => BoolOp_one (h pins s σ H Q I hw)
theorem pe_or (ha : PE X a ta) (hb : PE X (.BoolOp .Or (b :: rest) pos) tb) : PE X (.BoolOp .Or (a :: b :: rest) pos) (tOrV ta tb) := by
  intro pins s σ H Q I h
  refine BoolOp_or (thn (ha pins s σ H _ I h) fun v s1 ⟨x, H1, I1, r1, q1⟩ => ?_)
  obtain ⟨c, rfl, q1⟩ := q1
  cases r1
  refine wpAny_truthy_bool ?_
  cases c with
  | false => exact hb pins s1 σ H1 Q I1 q1
  | true => exact ⟨.bl true, H1, I1, rfl, q1⟩
end
end L2

namespace L2
open PySem PySem.Spec PyProof.Rows

/-! ### a list, a tuple that is read: tracked, frozen, or an object of the module -/
def SqL (K : PySem.W.Frag) (H : Hp) (a : Addr) (xs : List V) : Prop :=
  Rd H a (.lst xs) ∨
    ∃ (o : Obj) (its : Array Value) (n : Nat), K.lookup a = some o ∧ o.cls = .type "list" ∧ o.dict = none ∧ o.data = .seq its n ∧ its.size ≤ sizeLine ∧ Vals xs its.toList
def SqT (K : PySem.W.Frag) (H : Hp) (a : Addr) (xs : List V) : Prop :=
  Rd H a (.tup xs) ∨
    ∃ (o : Obj) (its : Array Value) (n : Nat), K.lookup a = some o ∧ o.cls = .type "tuple" ∧ o.data = .seq its n ∧ its.size ≤ sizeLine ∧ Vals xs its.toList
def absV : Value → Option V
  | .none => some .non
  | .bool b => some (.bl b)
  | .int i _ => some (.int i)
  | .str x _ => some (.str x)
  | .bytes b _ => some (.byt b)
  | .float b _ => some (.flt b)
  | .ref a => some (.ref a)
  | .type n => some (.ty n)
  | _ => none
theorem RelV.abs {x : V} {u : Value} (r : RelV x u) : absV u = some x := by
  cases x with
  | non => cases r; rfl
  | bl _ => cases r; rfl
  | int _ => obtain ⟨t, rfl⟩ := r; rfl
  | str _ => obtain ⟨t, rfl⟩ := r; rfl
  | byt _ => obtain ⟨t, rfl⟩ := r; rfl
  | flt _ => obtain ⟨t, rfl⟩ := r; rfl
  | ref _ => cases r; rfl
  | ty _ => cases r; rfl
theorem RelV.inj {x y : V} {u : Value} (r : RelV x u) (q : RelV y u) : x = y := Option.some.inj (r.abs.symm.trans q.abs)
theorem Vals.inj : ∀ {xs ys : List V} {us : List Value}, Vals xs us → Vals ys us → xs = ys
  | _, _, _, .nil, .nil => rfl
  | _, _, _, .cons r t, .cons r' t' => by rw [r.inj r', Vals.inj t t']
section
variable {X : Cx} {pins : List (Addr × Obj)} {σ : St} {H : Hp} {s : Shared} {a : Addr} {xs ys : List V}
theorem SqL.of {K : PySem.W.Frag} (h : H a = some (.lst xs)) : SqL K H a xs := .inl (.inl h)
theorem SqT.of {K : PySem.W.Frag} (h : H a = some (.tup xs)) : SqT K H a xs := .inl (.inl h)
theorem Inv.list (I : Inv X pins σ H s) (h : SqL X.K H a xs) : ∃ its : List Value, Vals xs its ∧ PlainL s.heap a its.toArray ∧ xs.length ≤ sizeLine := by
  rcases h with h | ⟨o, its, n, hk, hc, hd, hs, hz, r⟩
  · obtain ⟨z, its, n, r, e⟩ := h.ok I.hok
    exact ⟨its, r, ⟨_, n, e, rfl, rfl, rfl⟩, z⟩
  · refine ⟨its.toList, r, ⟨o, n, I.kIn a o hk, hc, hd, by simpa using hs⟩, ?_⟩
    have e := r.length
    simp only [Array.length_toList] at e
    omega
theorem Inv.tuple (I : Inv X pins σ H s) (h : SqT X.K H a xs) : ∃ its : List Value, Vals xs its ∧ IsTup s.heap a its.toArray ∧ xs.length ≤ sizeLine := by
  rcases h with h | ⟨o, its, n, hk, hc, hs, hz, r⟩
  · obtain ⟨z, its, r, p⟩ := h.ok I.hok
    exact ⟨its, r, p, z⟩
  · refine ⟨its.toList, r, ⟨o, I.kIn a o hk, hc, n, by simpa using hs⟩, ?_⟩
    have e := r.length
    simp only [Array.length_toList] at e
    omega
theorem Inv.list_inj (I : Inv X pins σ H s) (h : SqL X.K H a xs) (h' : SqL X.K H a ys) : xs = ys := by
  obtain ⟨its, r, ⟨o, n, e, _, _, d⟩, _⟩ := I.list h
  obtain ⟨its', r', ⟨o', n', e', _, _, d'⟩, _⟩ := I.list h'
  rw [e] at e'; cases e'
  rw [d] at d'
  injection d' with d1 _
  have : its = its' := by simpa using congrArg Array.toList d1
  subst this
  exact r.inj r'
end

/-! ### another wish about exceptions -/
abbrev Cx.wish (X : Cx) (E : Value → Shared → Prop) : Cx := { X with xe := E }
/-- no exception leaves -/
abbrev Cx.nox (X : Cx) : Cx := X.wish fun _ _ => False
theorem Cx.Ok.wish {X : Cx} (ok : X.Ok) (E : Value → Shared → Prop) : (X.wish E).Ok :=
  ⟨ok.mod, ok.kind, ok.glob, ok.blt, ok.above, ok.inj, ok.has, ok.cab, ok.hd, ok.frames, ok.stk, ok.exf, ok.bs, ok.bsz, ok.noex, ok.exfs, ok.funs, ok.frf⟩
theorem Cx.Ok.unwish {X : Cx} {E : Value → Shared → Prop} (ok : (X.wish E).Ok) : X.Ok :=
  ⟨ok.mod, ok.kind, ok.glob, ok.blt, ok.above, ok.inj, ok.has, ok.cab, ok.hd, ok.frames, ok.stk, ok.exf, ok.bs, ok.bsz, ok.noex, ok.exfs, ok.funs, ok.frf⟩
section
variable {X : Cx} {pins : List (Addr × Obj)} {σ : St} {H : Hp} {s : Shared} {E : Value → Shared → Prop}
theorem Inv.wish (I : Inv X pins σ H s) (E : Value → Shared → Prop) : Inv (X.wish E) pins σ H s := ⟨I.ok.wish E, I.os, I.bare, I.base, I.loc, I.cell, I.free, I.freeC, I.pin, I.hok, I.len⟩
theorem Inv.unwish (I : Inv (X.wish E) pins σ H s) : Inv X pins σ H s := ⟨I.ok.unwish, I.os, I.bare, I.base, I.loc, I.cell, I.free, I.freeC, I.pin, I.hok, I.len⟩
theorem SP.unwish {D : Ends} {f : Flow} {s' : Shared} (h : SP (X.wish E) pins D f s') : SP X pins D f s' := by
  cases f with
  | next => obtain ⟨σ', H', I, q⟩ := h; exact ⟨σ', H', I.unwish, q⟩
  | brk => obtain ⟨σ', H', I, q⟩ := h; exact ⟨σ', H', I.unwish, q⟩
  | cont => obtain ⟨σ', H', I, q⟩ := h; exact ⟨σ', H', I.unwish, q⟩
  | ret u => obtain ⟨v, σ', H', I, r, q⟩ := h; exact ⟨v, σ', H', I.unwish, r, q⟩
theorem PE.nox {e : Expr} {t : TE} (h : PE X.nox e t) : PE X e t := fun pins s σ H Q I hw =>
  wpAny_mono (h pins s σ H Q (I.wish _) hw) (fun _ _ ⟨v, H', I', r, q⟩ => ⟨v, H', I'.unwish, r, q⟩) fun _ _ z => False.elim z
theorem PT.nox {e : Expr} {t : TT} (h : PT X.nox e t) : PT X e t := fun pins s σ H Q I hw =>
  wpAny_mono (h pins s σ H Q (I.wish _) hw) (fun _ _ ⟨H', I', q⟩ => ⟨H', I'.unwish, q⟩) fun _ _ z => False.elim z
theorem PSs.nox {st : List Stmt} {t : TS} (h : PSs X.nox st t) : PSs X st t := fun pins s σ H D I hw =>
  wpAny_mono (h pins s σ H D (I.wish _) hw) (fun _ _ q => q.unwish) fun _ _ z => False.elim z
end

/-! ### blocks and small statements -/
section
variable {X : Cx} {st : Stmt} {rest : List Stmt} {t u : TS} {e : Expr} {te : TE} {pos : Pos}
def tNext : TS := fun D σ H => D.nx σ H
def tSeq (t u : TS) : TS := fun D σ H => t { D with nx := u D } σ H
theorem pss_nil : PSs X [] tNext := fun _ _ σ H _ I h => wpAny_execs_nil ⟨σ, H, I, h⟩
theorem pss_cons (h1 : PS X st t) (h2 : PSs X rest u) : PSs X (st :: rest) (tSeq t u) := by
  intro pins s σ H D I h
  refine wpAny_execs_cons (thn (h1 pins s σ H { D with nx := u D } I h) fun f s1 q => ?_)
  cases f with
  | next =>
    obtain ⟨σ', H', I', q⟩ := q
    exact h2 pins s1 σ' H' D I' q
  | ret v => exact q
  | brk => exact q
  | cont => exact q
theorem pss_one (h1 : PS X st t) : PSs X [st] t := by
  intro pins s σ H D I h
  refine wpAny_execs_cons (thn (h1 pins s σ H D I h) fun f s1 q => ?_)
  cases f with
  | next => exact wpAny_execs_nil q
  | ret v => exact q
  | brk => exact q
  | cont => exact q
/-- in a def's body nothing is shown -/
theorem Inv.quiet {pins : List (Addr × Obj)} {σ : St} {H : Hp} {s : Shared} (I : Inv X pins σ H s) : interactive X.env = false := by simp [interactive, I.ok.kind]
/-- an expression whose value is dropped -/
def tDrop (te : TE) : TS := fun D σ H => te σ H fun _ H1 => D.nx σ H1
theorem ps_expr (he : PE X e te) (hs : swapsWith e none pos.line X.env = pure false := by rfl) : PS X (.Expr e pos) (tDrop te) := by
  intro pins s σ H D I h
  exact wpAny_Expr_any (thn (he pins s σ H _ I h) fun v s1 ⟨x, H1, I1, r1, q1⟩ => ⟨σ, H1, I1, q1⟩) I.quiet hs
def tRet (te : TE) : TS := fun D σ H => te σ H D.rt
theorem ps_ret (he : PE X e te) : PS X (.Return (some e) pos) (tRet te) := by
  intro pins s σ H D I h
  exact wpAny_Return_some (thn (he pins s σ H _ I h) fun v s1 ⟨x, H1, I1, r1, q1⟩ => ⟨x, σ, H1, I1, r1, q1⟩)
def tIfS (c : TT) (t u : TS) : TS := fun D σ H => c σ H fun b H1 => if b = true then t D σ H1 else u D σ H1
theorem ps_if {c : Expr} {a b : List Stmt} {tc : TT} (hc : PT X c tc) (ha : PSs X a t) (hb : PSs X b u) : PS X (.If c a b pos) (tIfS tc t u) := by
  intro pins s σ H D I h
  refine wpAny_If (thn (hc pins s σ H _ I h) fun d s1 ⟨H1, I1, q1⟩ => ?_)
  cases d with
  | true => exact ha pins s1 σ H1 D I1 q1
  | false => exact hb pins s1 σ H1 D I1 q1
/-- code that the proof never comes to -/
def tNever : TS := fun _ _ _ => False
theorem ps_never : PS X st tNever := fun _ _ _ _ _ _ h => h.elim
end

/-! ### targets -/
abbrev TG := V → St → Hp → (St → Hp → Prop) → Prop
def PG (X : Cx) (target : Expr) (t : TG) : Prop :=
  ∀ (pins : List (Addr × Obj)) (s : Shared) (σ : St) (H : Hp) (v : V) (u : Value) (Q : St → Hp → Prop), Inv X pins σ H s → RelV v u → t v σ H Q →
    wpAny (model X.prog X.w) X.A (assign target X.env u) (fun _ s' => ∃ σ' H', Inv X pins σ' H' s' ∧ Q σ' H') X.xe s
section
variable {X : Cx} {pos : Pos}
def gName (i : Nat) : TG := fun v σ H Q => Q (σ.set i (some v)) H
theorem pg_name {i : Nat} {x : Str} (hN : X.N.Nodup) (hi : X.N[i]? = some x) (hx : Loc X.env.scope x) (hf : X.fn x = true ∨ X.env.scope.names.lookup x = some .local := by first | exact .inl rfl | exact .inr rfl | assumption) : PG X (.Name x pos) (gName i) := by
  intro pins s σ H v u Q I r h
  exact wpAny_assign_Name (store_ok I hN hi hx r (fun s' I' => ⟨_, H, I', h⟩) hf)
/-- target = value -/
def tAsg (te : TE) (g : TG) : TS := fun D σ H => te σ H fun x H1 => g x σ H1 D.nx
/-- name = value -/
theorem ps_set {i : Nat} {x : Str} {e : Expr} {te : TE} {pos' : Pos} (hN : X.N.Nodup) (hi : X.N[i]? = some x) (hx : Loc X.env.scope x) (he : PE X e te) (hs : swapsWith e (some (.Name x pos')) pos.line X.env = pure false := by rfl) (hf : X.fn x = true ∨ X.env.scope.names.lookup x = some .local := by first | exact .inl rfl | exact .inr rfl | assumption) :
    PS X (.Assign [.Name x pos'] e pos) (tAsg te (gName i)) := by
  intro pins s σ H D I h
  refine wpAny_Assign_Name (thn (he pins s σ H _ I h) fun v s1 ⟨y, H1, I1, r1, q1⟩ => ?_) hs
  exact store_ok I1 hN hi hx r1 (fun s2 I2 => ⟨_, H1, I2, q1⟩) hf
end

/-! ### while -/
section
variable {X : Cx} {pos : Pos}
/-- the invariant W with its measure -/
def tWhile (c : TT) (tb : TS) : TS := fun D σ H => ∃ W : Nat → St → Hp → Prop, (∃ m, W m σ H) ∧ ∀ m σ H, W m σ H →
  c σ H fun b H1 => if b = true then ∃ N : St → Hp → Prop, (∀ σ' H', N σ' H' → ∃ m', m' < m ∧ W m' σ' H') ∧ tb { D with nx := N, ct := N, bk := D.nx } σ H1 else D.nx σ H1
theorem ps_while {c : Expr} {body : List Stmt} {tc : TT} {tb : TS} (hp : PassesOwn (model X.prog X.w) X.A X.env X.xe) (hc : PT X c tc) (hb : PSs X body tb) : PS X (.While c body [] pos) (tWhile tc tb) := by
  intro pins s σ H D I h
  obtain ⟨W, ⟨m0, w0⟩, turn⟩ := h
  refine wpAny_While (codeAny_whileLoop (fun n s' => ∃ σ' H', Inv X pins σ' H' s' ∧ W n σ' H') ?_ m0 ⟨σ, H, I, w0⟩)
  rintro n s1 ⟨σ1, H1, I1, w1⟩
  refine wpAny_passesOwn hp (thn (hc pins s1 σ1 H1 _ I1 (turn n σ1 H1 w1)) fun b s2 ⟨H2, I2, q2⟩ => ?_)
  cases b with
  | true =>
    obtain ⟨N, hN, q2⟩ := q2
    rw [if_pos rfl]
    refine wpAny_passesOwn hp (thn (hb pins s2 σ1 H2 _ I2 q2) fun f s3 q3 => ?_)
    cases f with
    | next =>
      obtain ⟨σ3, H3, I3, n3⟩ := q3
      obtain ⟨m', hm, w3⟩ := hN σ3 H3 n3
      exact ⟨m', hm, σ3, H3, I3, w3⟩
    | cont =>
      obtain ⟨σ3, H3, I3, n3⟩ := q3
      obtain ⟨m', hm, w3⟩ := hN σ3 H3 n3
      exact ⟨m', hm, σ3, H3, I3, w3⟩
    | brk => exact q3
    | ret v => exact q3
  | false =>
    rw [if_neg Bool.false_ne_true]
    exact wpAny_execs_nil ⟨σ1, H2, I2, q2⟩
end

/-! ### what a loop or a comprehension walks -/
/-- at turn i: it yields x (the heap may grow), or it stops -/
structure It where
  go : Nat → Hp → Prop
  yld : Nat → Hp → V → Hp → Prop
  stop : Nat → Hp → Prop
/-- the iterator's own objects may turn: they are not the frame's, not pinned, younger than the entry (or a comprehension's own) -/
def FpOk (X : Cx) (pins : List (Addr × Obj)) (H : Hp) (b : Addr) : Prop :=
  H b = none ∧ b ≠ X.env.locals ∧ b ∉ X.fs ∧ (b ∈ X.ex ∨ X.s_0.heap.objs.size ≤ b) ∧ (∀ x c, X.env.cells.lookup x = some c → c ≠ b) ∧ ∀ p ∈ X.pn ++ pins, p.1 ≠ b
theorem Inv.fpOk {X : Cx} {pins : List (Addr × Obj)} {σ : St} {H H' : Hp} {s : Shared} {b : Addr} (I : Inv X pins σ H s) (hb : s.heap.objs.size ≤ b) (hn : H' b = none) : FpOk X pins H' b := by
  refine ⟨hn, Nat.ne_of_gt (Nat.lt_of_lt_of_le I.lt hb), I.nofs hb, .inr (Nat.le_trans I.sz hb), fun x c e z => ?_, fun p hp z => ?_⟩
  · obtain ⟨v, q⟩ := I.cell x c e
    exact absurd (Nat.lt_of_lt_of_le q.lt (by rw [z]; exact hb)) (Nat.lt_irrefl _)
  · exact absurd (Nat.lt_of_lt_of_le (Heap.lt_size (I.pin p hp).1) (by rw [z]; exact hb)) (Nat.lt_irrefl _)
structure Turn (P : Program) (w : World) (K : PySem.W.Frag) (tg : Expr) (J : It) (fp : List Addr) (it : Addr) (tn : Nat → Heap → Prop) : Prop where
  mem : it ∈ fp
  obj : ∀ i h, tn i h → ∀ b ∈ fp, ∃ o, h.get? b = some o ∧ ∀ v, o.data ≠ .cell v
  keep : ∀ i h h', tn i h → (∀ b ∈ fp, ∀ o, h.get? b = some o → h'.get? b = some o) → tn i h'
  item : ∀ (X : Cx), X.prog = P → X.w = w → X.K = K → X.calm = true → ∀ (i : Nat) (pins : List (Addr × Obj)) (s : Shared) (σ : St) (H : Hp) (E : Value → Shared → Prop), Inv X pins σ H s → (∀ b ∈ fp, FpOk X pins H b) → tn i s.heap → J.go i H →
    wpAny (model P w) X.A (pyNext (.ref it)) (fun r s1 => ∃ u, r = some u ∧
      wpAny (model P w) X.A (letOwnedTupleGo tg (.ref it) u) (fun _ s2 => ∃ x H', Inv X pins σ H' s2 ∧ RelV x u ∧ J.yld i H x H' ∧ tn (i + 1) s2.heap ∧ ∀ b ∈ fp, H' b = none) E s1) E s
  done : ∀ (X : Cx), X.prog = P → X.w = w → X.K = K → X.calm = true → ∀ (i : Nat) (pins : List (Addr × Obj)) (s : Shared) (σ : St) (H : Hp) (E : Value → Shared → Prop), Inv X pins σ H s → (∀ b ∈ fp, FpOk X pins H b) → tn i s.heap → J.stop i H →
    wpAny (model P w) X.A (pyNext (.ref it)) (fun r s1 => r = none ∧ Inv X pins σ H s1) E s
  self : ∀ (A : Around) (i : Nat) (s : Shared) (Q : Value → Shared → Prop) (E : Value → Shared → Prop), tn i s.heap → Q (.ref it) s → wpAny (model P w) A (pyIter (.ref it)) Q E s
abbrev TI := St → Hp → (It → Hp → Prop) → Prop
/-- an iterator has come -/
def PIE (X : Cx) (pins : List (Addr × Obj)) (σ : St) (tg : Expr) (R : It → Hp → Prop) (itv : Value) (s2 : Shared) : Prop :=
  ∃ (it : Addr) (fp : List Addr) (tn : Nat → Heap → Prop) (J : It) (H' : Hp), itv = .ref it ∧ Inv X pins σ H' s2 ∧ Turn X.prog X.w X.K tg J fp it tn ∧ tn 0 s2.heap ∧ (∀ b ∈ fp, FpOk X pins H' b) ∧ R J H'
def PI (X : Cx) (tg iter : Expr) (wi : TI) : Prop :=
  ∀ (pins : List (Addr × Obj)) (s : Shared) (σ : St) (H : Hp) (R : It → Hp → Prop), Inv X pins σ H s → wi σ H R →
    wpAny (model X.prog X.w) X.A (eval iter X.env) (fun v s1 => wpAny (model X.prog X.w) X.A (pyIter v) (PIE X pins σ tg R) X.xe s1) X.xe s

/-- the step ahead of the store is nothing for an iterator that keeps no tuple -/
theorem go_of {M : Model} {A : Around} {E : Value → Shared → Prop} {s : Shared} {tg : Expr} {it : Addr} {u : Value} {o : Obj} {n : String} {vs : Array Value} {Q : Unit → Shared → Prop} (ho : s.heap.get? it = some o) (hc : o.cls = .type n) (hd : o.data = .fields vs)
    (hn : ["enumerate", "zip", "dict_itemiterator", "dict_reverseitemiterator", "odict_iterator", "itertools.zip_longest", "itertools.pairwise"].contains n = false) (hQ : Q () s) : wpAny M A (letOwnedTupleGo tg (.ref it) u) Q E s := by
  unfold letOwnedTupleGo
  cases tg <;> first
    | exact wpAny_pure hQ
    | (cases u <;> first
        | exact wpAny_pure hQ
        | (refine wpAny_bind (wpAny_load ho ?_)
           rw [hc, hd]
           show wpAny M A (if (["enumerate", "zip", "dict_itemiterator", "dict_reverseitemiterator", "odict_iterator", "itertools.zip_longest", "itertools.pairwise"].contains n && vs[0]? == some (rawInt _)) = true then _ else _) Q E s
           rw [if_neg (by intro h; rw [hn, Bool.false_and] at h; cases h)]
           exact wpAny_pure hQ))

/-- the list at a, as it stands at each turn (a loop may append to it) -/
def Itl (K : PySem.W.Frag) (a : Addr) : It :=
  ⟨fun i H => ∃ xs x, SqL K H a xs ∧ xs[i]? = some x, fun i H x H' => H' = H ∧ ∀ xs, SqL K H a xs → xs[i]? = some x, fun i H => ∃ xs, SqL K H a xs ∧ xs.length ≤ i⟩
theorem turn_list {P : Program} {w : World} {K : PySem.W.Frag} {tg : Expr} (a it : Addr) : Turn P w K tg (Itl K a) [it] it (fun i h => h.IsListIter it a i) where
  mem := by simp
  obj := fun i h st b hb => by
    have e : b = it := by simpa using hb
    subst e
    obtain ⟨o, e, c, d⟩ := st
    exact ⟨o, e, fun v z => by rw [d] at z; cases z⟩
  keep := fun i h h' st k => st.at fun o e => k it (by simp) o e
  item := by
    intro X hP hw hK hc i pins s σ H E I hf st hg
    subst hP hw hK
    obtain ⟨xs, x, hq, hx⟩ := hg
    obtain ⟨its, rv, p, hz⟩ := I.list hq
    obtain ⟨u, hu, ru⟩ := rv.get hx
    obtain ⟨f0, f1, f2, f3, f4, f5⟩ := hf it (by simp)
    refine wpAny_pyNext_list_item st p.isList (x := u) (by simpa using hu) fun h' st' sb => ?_
    have I1 : Inv X pins σ H { s with heap := h' } := I.turned (t' := s.toks) (fun b o hb e => (sb.2 b hb).trans e) f0 f1 f3 f4 f5
    obtain ⟨o, e, c, d⟩ := id st'
    exact ⟨u, rfl, go_of (s := { s with heap := h' }) e c d (by decide) ⟨x, H, I1, ru, ⟨rfl, fun ys hy => by rw [I.list_inj hy hq]; exact hx⟩, st', fun b hb => (hf b hb).1⟩⟩
  done := by
    intro X hP hw hK hc i pins s σ H E I hf st hg
    subst hP hw hK
    obtain ⟨xs, hq, hx⟩ := hg
    obtain ⟨its, rv, p, hz⟩ := I.list hq
    obtain ⟨f0, f1, f2, f3, f4, f5⟩ := hf it (by simp)
    have hl := rv.length
    exact wpAny_pyNext_list_end (I.ok.hd hc) st p.isList (by simp; omega) fun h' eb => ⟨rfl, I.turned (t' := s.toks) (fun b o hb e => eb b o hb e) f0 f1 f3 f4 f5⟩
  self := fun _ _ _ _ _ st h => wpAny_pyIter_listiter st h
end L2

namespace L2
open PySem PySem.Spec PyProof.Rows
section
variable {X : Cx} {tg : Expr}
def iList (K : PySem.W.Frag) (tl : TE) : TI := fun σ H R => tl σ H fun x H1 => ∃ a, x = .ref a ∧ (∃ xs, SqL K H1 a xs) ∧ R (Itl K a) H1
theorem pi_list {l : Expr} {tl : TE} (hl : PE X l tl) : PI X tg l (iList X.K tl) := by
  intro pins s σ H R I h
  refine thn (hl pins s σ H _ I h) fun v s1 ⟨x, H1, I1, r1, q1⟩ => ?_
  obtain ⟨a, e, ⟨xs, hq⟩, q⟩ := q1
  subst e
  cases r1
  obtain ⟨its, rv, p, hz⟩ := I1.list hq
  refine wpAny_pyIter_list p.isList ?_
  refine ⟨s1.heap.objs.size, [s1.heap.objs.size], _, _, H1, rfl, I1.kept (t' := s1.toks) fun b o e => Heap.get?_push_of_some _ e, turn_list a _, ⟨_, Heap.get?_push_size _ rfl, rfl, rfl⟩, fun b hb => ?_, q⟩
  have e : b = s1.heap.objs.size := by simpa using hb
  subst e
  exact I1.fpOk (Nat.le_refl _) (I1.hok.fresh (Nat.le_refl _))
/-! ### for -/
/-- W: the invariant by the turn and a measure; N: what the body is to reach -/
def tFor (wi : TI) (g : TG) (tb : TS) : TS := fun D σ H => wi σ H fun J H1 => ∃ W : Nat → Nat → St → Hp → Prop, (∃ m, W 0 m σ H1) ∧ ∀ i m σ H, W i m σ H →
  (J.stop i H ∧ D.nx σ H) ∨ (J.go i H ∧ ∃ N : St → Hp → Prop, (∀ σ' H', N σ' H' → ∃ m', m' < m ∧ W (i + 1) m' σ' H') ∧ ∀ x H', J.yld i H x H' → g x σ H' fun σ2 H2 => tb { D with nx := N, ct := N, bk := D.nx } σ2 H2)
/-- the records at fp as they stand -/
def pinsAt (fp : List Addr) (h : Heap) : List (Addr × Obj) := fp.filterMap fun b => (h.get? b).map fun o => (b, o)
theorem mem_pinsAt {fp : List Addr} {h : Heap} {b : Addr} {o : Obj} (hb : b ∈ fp) (e : h.get? b = some o) : (b, o) ∈ pinsAt fp h := List.mem_filterMap.mpr ⟨b, hb, by rw [e]; rfl⟩
theorem of_pinsAt {fp : List Addr} {h : Heap} {p : Addr × Obj} (hp : p ∈ pinsAt fp h) : p.1 ∈ fp ∧ h.get? p.1 = some p.2 := by
  obtain ⟨b, hb, e⟩ := List.mem_filterMap.mp hp
  cases q : h.get? b with
  | none => rw [q] at e; cases e
  | some o =>
    rw [q] at e
    have e' : (b, o) = p := Option.some.inj e
    subst e'
    exact ⟨hb, q⟩
theorem Inv.pinned {pins : List (Addr × Obj)} {σ : St} {H : Hp} {s : Shared} {fp : List Addr} (I : Inv X pins σ H s) (hf : ∀ b ∈ fp, FpOk X pins H b) (ho : ∀ b ∈ fp, ∃ o, s.heap.get? b = some o ∧ ∀ v, o.data ≠ .cell v) : Inv X (pins ++ pinsAt fp s.heap) σ H s :=
  I.pins_of fun p hp => (List.mem_append.mp hp).elim (fun z => I.pin p (List.mem_append_right _ z)) fun z => by
    obtain ⟨hb, e⟩ := of_pinsAt z
    obtain ⟨f0, f1, f2, _⟩ := hf p.1 hb
    obtain ⟨o, e', d⟩ := ho p.1 hb
    rw [e] at e'; cases e'
    exact ⟨e, f0, f1, f2, d⟩
theorem Inv.unpinned {pins pl : List (Addr × Obj)} {σ : St} {H : Hp} {s : Shared} (I : Inv X (pins ++ pl) σ H s) : Inv X pins σ H s := I.pins_of fun p hp => I.pin p (List.mem_append_right _ (List.mem_append_left _ hp))
theorem ps_for {iter : Expr} {body : List Stmt} {wi : TI} {g : TG} {tb : TS} {pos : Pos} (hp : PassesOwn (model X.prog X.w) X.A X.env X.xe) (hc : X.calm = true) (hi : PI X tg iter wi) (hg : PG X tg g) (hb : PSs X body tb)
    (hs : ∀ x, foldedSetIterable iter X.env x = pure x := by intro _; rfl) : PS X (.For tg iter body [] pos) (tFor wi g tb) := by
  intro pins s σ H D I h
  refine wpAny_For (thn (hi pins s σ H _ I h) fun v s1 h1 => thn h1 fun itv s2 h2 => ?_) hs
  obtain ⟨it, fp, tn, J, H2, e, I2, T, st2, f2, W, ⟨m0, w0⟩, turn⟩ := h2
  subst e
  -- what stays true of the iterator's objects through the loop
  have stat : ∀ {H' : Hp}, (∀ b ∈ fp, H' b = none) → ∀ b ∈ fp, FpOk X pins H' b := fun hn b hb => ⟨hn b hb, (f2 b hb).2⟩
  refine codeAny_forLoop_any (fun n s' => ∃ i σ' H', Inv X pins σ' H' s' ∧ tn i s'.heap ∧ (∀ b ∈ fp, H' b = none) ∧ W i n σ' H') ?_ m0 ⟨0, σ, H2, I2, st2, fun b hb => (f2 b hb).1, w0⟩
  rintro n s3 ⟨i, σ3, H3, I3, st3, fr3, w3⟩
  rcases turn i n σ3 H3 w3 with ⟨stop, qn⟩ | ⟨go, N, hN, step⟩
  · refine wpAny_passesOwn hp (thn (T.done X rfl rfl rfl hc i pins s3 σ3 H3 X.xe I3 (stat fr3) st3 stop) fun r s4 ⟨hr, I4⟩ => ?_)
    subst hr
    exact wpAny_execs_nil ⟨σ3, H3, I4, qn⟩
  · refine wpAny_passesOwn hp (thn (T.item X rfl rfl rfl hc i pins s3 σ3 H3 X.xe I3 (stat fr3) st3 go) fun r s4 ⟨u, hr, h4⟩ => ?_)
    subst hr
    refine wpAny_passesOwn hp (thn h4 fun _ s5 ⟨x, H5, I5, r5, y5, st5, fr5⟩ => ?_)
    have I5' := I5.pinned (stat fr5) (T.obj _ _ st5)
    refine wpAny_passesOwn hp (thn (hg _ s5 σ3 H5 x u _ I5' r5 (step x H5 y5)) fun _ s6 ⟨σ6, H6, I6, q6⟩ => ?_)
    refine wpAny_passesOwn hp (thn (hb _ s6 σ6 H6 _ I6 q6) fun f s7 q7 => ?_)
    have again : ∀ {σ7 : St} {H7 : Hp}, Inv X (pins ++ pinsAt fp s5.heap) σ7 H7 s7 → N σ7 H7 → ∃ m, m < n ∧ ∃ i σ' H', Inv X pins σ' H' s7 ∧ tn i s7.heap ∧ (∀ b ∈ fp, H' b = none) ∧ W i m σ' H' := fun {σ7 H7} I7 n7 => by
      obtain ⟨m', hm, w7⟩ := hN σ7 H7 n7
      refine ⟨m', hm, i + 1, σ7, H7, I7.unpinned, T.keep _ _ _ st5 fun b hb o e => (I7.pin (b, o) (List.mem_append_right _ (List.mem_append_right _ (mem_pinsAt hb e)))).1, fun b hb => ?_, w7⟩
      obtain ⟨o, e, d⟩ := T.obj _ _ st5 b hb
      exact (I7.pin (b, o) (List.mem_append_right _ (List.mem_append_right _ (mem_pinsAt hb e)))).2.1
    cases f with
    | next => obtain ⟨σ7, H7, I7, n7⟩ := q7; exact again I7 n7
    | cont => obtain ⟨σ7, H7, I7, n7⟩ := q7; exact again I7 n7
    | brk => obtain ⟨σ7, H7, I7, q7⟩ := q7; exact ⟨σ7, H7, I7.unpinned, q7⟩
    | ret v => obtain ⟨x7, σ7, H7, I7, r7, q7⟩ := q7; exact ⟨x7, σ7, H7, I7.unpinned, r7, q7⟩
end

/-! ### the forms one uses -/
/-- over a list that the body leaves as it is -/
theorem for_list {K : PySem.W.Frag} {a : Addr} {xs : List V} {g : TG} {tb : TS} {D : Ends} {σ : St} {H : Hp} (Pv : Nat → St → Hp → Prop) (h0 : Pv 0 σ H) (hl : ∀ i σ H, i ≤ xs.length → Pv i σ H → SqL K H a xs)
    (hs : ∀ i x σ H, xs[i]? = some x → Pv i σ H → g x σ H fun σ2 H2 => tb { D with nx := Pv (i + 1), ct := Pv (i + 1), bk := D.nx } σ2 H2) (hd : ∀ σ H, Pv xs.length σ H → D.nx σ H) :
    ∃ W : Nat → Nat → St → Hp → Prop, (∃ m, W 0 m σ H) ∧ ∀ i m σ H, W i m σ H →
      ((Itl K a).stop i H ∧ D.nx σ H) ∨ ((Itl K a).go i H ∧ ∃ N : St → Hp → Prop, (∀ σ' H', N σ' H' → ∃ m', m' < m ∧ W (i + 1) m' σ' H') ∧ ∀ x H', (Itl K a).yld i H x H' → g x σ H' fun σ2 H2 => tb { D with nx := N, ct := N, bk := D.nx } σ2 H2) := by
  refine ⟨fun i m σ H => m = xs.length - i ∧ i ≤ xs.length ∧ Pv i σ H, ⟨xs.length, by simp, Nat.zero_le _, h0⟩, ?_⟩
  rintro i m σ H ⟨rfl, hi, p⟩
  have q := hl i σ H hi p
  by_cases hlt : i < xs.length
  · refine .inr ⟨⟨xs, xs[i], q, by simp [hlt]⟩, Pv (i + 1), fun σ' H' p' => ⟨xs.length - (i + 1), by omega, rfl, hlt, p'⟩, fun x H' y => ?_⟩
    obtain ⟨e, y⟩ := y
    subst e
    exact hs i x σ _ (y xs q) p
  · have e : i = xs.length := by omega
    subst e
    exact .inl ⟨⟨xs, q, Nat.le_refl _⟩, hd σ H p⟩
/-- while, by a word and a measure of the state -/
theorem while_by {c : TT} {tb : TS} {D : Ends} {σ : St} {H : Hp} (Pv : St → Hp → Prop) (μ : St → Hp → Nat) (h0 : Pv σ H)
    (hs : ∀ σ H, Pv σ H → c σ H fun b H1 => if b = true then tb { D with nx := fun σ' H' => Pv σ' H' ∧ μ σ' H' < μ σ H, ct := fun σ' H' => Pv σ' H' ∧ μ σ' H' < μ σ H, bk := D.nx } σ H1 else D.nx σ H1)
    (mono : ∀ σ H Q Q', (∀ b H1, Q b H1 → Q' b H1) → c σ H Q → c σ H Q') : tWhile c tb D σ H := by
  refine ⟨fun m σ H => m = μ σ H ∧ Pv σ H, ⟨_, rfl, h0⟩, ?_⟩
  rintro m σ H ⟨rfl, p⟩
  refine mono σ H _ _ (fun b H1 q => ?_) (hs σ H p)
  cases b with
  | true => exact ⟨_, fun σ' H' ⟨p', l⟩ => ⟨_, l, rfl, p'⟩, q⟩
  | false => exact q
end L2

namespace L2
open PySem PySem.Spec PyProof.Rows

abbrev R2 := V → V → Hp → VK → Prop
/-- a two-place operation on values: f is binaryOp op, inplaceOp op or compareOp op -/
def OpR (X : Cx) (f : Value → Value → Sem Value) (r : R2) : Prop :=
  ∀ (pins : List (Addr × Obj)) (s : Shared) (σ : St) (H : Hp) (x y : V) (v u : Value) (Q : VK), Inv X pins σ H s → RelV x v → RelV y u → r x y H Q →
    wpAny (model X.prog X.w) X.A (f v u) (EP X pins σ Q) X.xe s
/-- a one-place operation -/
def UnR (X : Cx) (f : Value → Sem Value) (r : V → Hp → VK → Prop) : Prop :=
  ∀ (pins : List (Addr × Obj)) (s : Shared) (σ : St) (H : Hp) (x : V) (v : Value) (Q : VK), Inv X pins σ H s → RelV x v → r x H Q →
    wpAny (model X.prog X.w) X.A (f v) (EP X pins σ Q) X.xe s
/-- a call of a value that is known (a builtin, a type) with values -/
def CallR (X : Cx) (f : Value) (r : List V → Hp → VK → Prop) : Prop :=
  ∀ (pins : List (Addr × Obj)) (s : Shared) (σ : St) (H : Hp) (xs : List V) (us : List Value) (Q : VK), Inv X pins σ H s → Vals xs us → r xs H Q →
    wpAny (model X.prog X.w) X.A (call f us) (EP X pins σ Q) X.xe s
def tOp (r : R2) (ta tb : TE) : TE := fun σ H Q => ta σ H fun x H1 => tb σ H1 fun y H2 => r x y H2 Q
def tUn (r : V → Hp → VK → Prop) (ta : TE) : TE := fun σ H Q => ta σ H fun x H1 => r x H1 Q
/-- ints in, under C, and a value out -/
def rI (C : Int → Int → Prop) (g : Int → Int → V) : R2 := fun x y H Q => ∃ i j, x = .int i ∧ y = .int j ∧ C i j ∧ Q (g i j) H
def rI0 (g : Int → Int → V) : R2 := fun x y H Q => ∃ i j, x = .int i ∧ y = .int j ∧ Q (g i j) H
def rU (g : Int → V) : V → Hp → VK → Prop := fun x H Q => ∃ i, x = .int i ∧ Q (g i) H

section
variable {X : Cx} {a b c : Expr} {ta tb tc : TE} {pos : Pos}

theorem binT (ha : PE X a ta) (hb : PE X b tb) {pins : List (Addr × Obj)} {s : Shared} {σ : St} {H : Hp} {R : V → V → Hp → Prop} (I : Inv X pins σ H s)
    (h : ta σ H fun x H1 => tb σ H1 fun y H2 => R x y H2) {Q : Value → Shared → Prop} {f : Value → Value → Sem Value}
    (hf : ∀ v u s2 x y H2, Inv X pins σ H2 s2 → RelV x v → RelV y u → R x y H2 → wpAny (model X.prog X.w) X.A (f v u) Q X.xe s2) :
    wpAny (model X.prog X.w) X.A (eval a X.env) (fun v s₁ => wpAny (model X.prog X.w) X.A (eval b X.env) (fun u s₂ => wpAny (model X.prog X.w) X.A (f v u) Q X.xe s₂) X.xe s₁) X.xe s := by
  refine thn (ha pins s σ H _ I h) fun v s1 ⟨x, H1, I1, r1, q1⟩ => ?_
  refine thn (hb pins s1 σ H1 _ I1 q1) fun u s2 ⟨y, H2, I2, r2, q2⟩ => ?_
  exact hf v u s2 x y H2 I2 r1 r2 q2

theorem pe_op {op : Operator} {r : R2} (ho : OpR X (binaryOp op) r) (ha : PE X a ta) (hb : PE X b tb) : PE X (.BinOp a op b pos) (tOp r ta tb) := by
  intro pins s σ H Q I h
  exact wpAny_BinOp (binT ha hb I h fun v u s2 x y H2 I2 rx ry q => ho pins s2 σ H2 x y v u Q I2 rx ry q)
theorem pe_un {op : UnaryOp} {r : V → Hp → VK → Prop} (ho : UnR X (unaryOp op) r) (ha : PE X a ta) : PE X (.UnaryOp op a pos) (tUn r ta) := by
  intro pins s σ H Q I h
  exact UnaryOp_ (thn (ha pins s σ H _ I h) fun v s1 ⟨x, H1, I1, r1, q1⟩ => ho pins s1 σ H1 x v Q I1 r1 q1)
/-! ### ints -/
theorem opI {f : Value → Value → Sem Value} {C : Int → Int → Prop} {g : Int → Int → Int}
    (rule : ∀ (i j : Int) (t u : Tok) (s : Shared) (Q : Value → Shared → Prop) (E : Value → Shared → Prop), C i j → Q (.int (g i j) s.toks) { s with toks := s.toks + 1 } → wpAny (model X.prog X.w) X.A (f (.int i t) (.int j u)) Q E s) :
    OpR X f (rI C fun i j => .int (g i j)) := by
  intro pins s σ H x y v u Q I rx ry h
  obtain ⟨i, j, rfl, rfl, hc, q⟩ := h
  obtain ⟨t, rfl⟩ := rx
  obtain ⟨t', rfl⟩ := ry
  exact rule i j t t' s _ _ hc ⟨.int (g i j), H, I.tok _, ⟨_, rfl⟩, q⟩
theorem opI0 {f : Value → Value → Sem Value} {g : Int → Int → Int}
    (rule : ∀ (i j : Int) (t u : Tok) (s : Shared) (Q : Value → Shared → Prop) (E : Value → Shared → Prop), Q (.int (g i j) s.toks) { s with toks := s.toks + 1 } → wpAny (model X.prog X.w) X.A (f (.int i t) (.int j u)) Q E s) :
    OpR X f (rI0 fun i j => .int (g i j)) := by
  intro pins s σ H x y v u Q I rx ry h
  obtain ⟨i, j, rfl, rfl, q⟩ := h
  obtain ⟨t, rfl⟩ := rx
  obtain ⟨t', rfl⟩ := ry
  exact rule i j t t' s _ _ ⟨.int (g i j), H, I.tok _, ⟨_, rfl⟩, q⟩
theorem opB0 {f : Value → Value → Sem Value} {g : Int → Int → Bool}
    (rule : ∀ (i j : Int) (t u : Tok) (s : Shared) (Q : Value → Shared → Prop) (E : Value → Shared → Prop), Q (.bool (g i j)) s → wpAny (model X.prog X.w) X.A (f (.int i t) (.int j u)) Q E s) :
    OpR X f (rI0 fun i j => .bl (g i j)) := by
  intro pins s σ H x y v u Q I rx ry h
  obtain ⟨i, j, rfl, rfl, q⟩ := h
  obtain ⟨t, rfl⟩ := rx
  obtain ⟨t', rfl⟩ := ry
  exact rule i j t t' s _ _ ⟨.bl (g i j), H, I, rfl, q⟩

def CMul (i j : Int) : Prop := (-(2 ^ 64) < i ∧ i < 2 ^ 64) ∨ (-(2 ^ 64) < j ∧ j < 2 ^ 64)
theorem CMul.ok {i j : Int} (h : CMul i j) : IntMulOk i j := by
  rcases h with ⟨h1, h2⟩ | ⟨h1, h2⟩
  · exact .of_left (intBits_le_64 h1 h2)
  · exact .of_right (intBits_le_64 h1 h2)
theorem op_add : OpR X (binaryOp .Add) (rI0 fun i j => .int (i + j)) := opI0 fun _ _ _ _ _ _ _ q => add_int q
theorem op_sub : OpR X (binaryOp .Sub) (rI0 fun i j => .int (i - j)) := opI0 fun _ _ _ _ _ _ _ q => sub_int q
theorem op_mul : OpR X (binaryOp .Mult) (rI CMul fun i j => .int (i * j)) := opI fun _ _ _ _ _ _ _ hc q => mul_int q hc.ok
/-- % by a positive divisor of any size -/
theorem op_mod : OpR X (binaryOp .Mod) (rI (fun _ j => 0 < j) fun i j => .int (i % j)) := opI fun i j _ _ _ _ _ hc q => by
  have h1 : (0 : Int) < j := hc
  exact mod_int' (by omega) (by rw [Int.fmod_eq_emod_of_nonneg i (by omega)]; exact q)
theorem unI {f : Value → Sem Value} {g : Int → Int}
    (rule : ∀ (i : Int) (t : Tok) (s : Shared) (Q : Value → Shared → Prop) (E : Value → Shared → Prop), Q (.int (g i) s.toks) { s with toks := s.toks + 1 } → wpAny (model X.prog X.w) X.A (f (.int i t)) Q E s) :
    UnR X f (rU fun i => .int (g i)) := by
  intro pins s σ H x v Q I rx h
  obtain ⟨i, rfl, q⟩ := h
  obtain ⟨t, rfl⟩ := rx
  exact rule i t s _ _ ⟨.int (g i), H, I.tok _, ⟨_, rfl⟩, q⟩
theorem un_neg : UnR X (unaryOp .USub) (rU fun i => .int (-i)) := unI fun _ _ _ _ _ q => neg_int q
/-! ### bools among ints: n += (a < b) -/
end

/-! ### comparisons -/
/-- the scalars that == tells apart as data does -/
def scal : V → V → Bool
  | .non, .non => true | .non, .int _ => true | .int _, .non => true | .non, .bl _ => true | .bl _, .non => true | .non, .str _ => true | .str _, .non => true
  | .int _, .int _ => true | .bl _, .bl _ => true | .str _, .str _ => true | .byt _, .byt _ => true
  | .int _, .str _ => true | .str _, .int _ => true | .bl _, .str _ => true | .str _, .bl _ => true
  | _, _ => false
def rEq : R2 := fun x y H Q => scal x y = true ∧ Q (.bl (decide (x = y))) H
theorem dec_int {i j : Int} : decide (V.int i = V.int j) = (i == j) := by
  rw [Bool.eq_iff_iff]
  simp
theorem dec_bl {i j : Bool} : decide (V.bl i = V.bl j) = (i == j) := by
  rw [Bool.eq_iff_iff]
  simp
theorem dec_str {i j : Str} : decide (V.str i = V.str j) = (i == j) := by
  rw [Bool.eq_iff_iff]
  simp
theorem dec_byt {i j : Array UInt8} : decide (V.byt i = V.byt j) = (i.toList == j.toList) := by
  rw [Bool.eq_iff_iff]
  cases i
  cases j
  simp

section
variable {X : Cx} {a b c : Expr} {ta tb tc : TE} {pos : Pos}
theorem fin_bl {pins : List (Addr × Obj)} {σ : St} {H : Hp} {s : Shared} {Q : VK} {k k' : Bool} (I : Inv X pins σ H s) (q : Q (.bl k) H) (e : k = k') : EP X pins σ Q (.bool k') s := by
  subst e
  exact ⟨.bl k, H, I, rfl, q⟩
theorem op_eq : OpR X (compareOp .Eq) rEq := by
  intro pins s σ H x y v u Q I rx ry h
  obtain ⟨hs, q⟩ := h
  cases x with
  | non =>
    cases rx
    cases y with
    | non => cases ry; exact PySem.EqNone.eq_none_none (fin_bl I q (by simp))
    | bl j => cases ry; exact PySem.EqNone.eq_none_bool (fin_bl I q (by simp))
    | int j => obtain ⟨t', rfl⟩ := ry; exact PySem.EqNone.eq_none_int (fin_bl I q (by simp))
    | str j => obtain ⟨t', rfl⟩ := ry; exact PySem.EqNone.eq_none_str (fin_bl I q (by simp))
    | _ => exact absurd (show false = true from hs) Bool.false_ne_true
  | bl i =>
    cases rx
    cases y with
    | non => cases ry; exact PySem.EqNone.eq_bool_none (fin_bl I q (by simp))
    | bl j => cases ry; exact eq_bool (fin_bl I q dec_bl)
    | str j => obtain ⟨t', rfl⟩ := ry; exact PySem.EqMixed.eq_bool_str (fin_bl I q (by simp))
    | _ => exact absurd (show false = true from hs) Bool.false_ne_true
  | int i =>
    obtain ⟨t, rfl⟩ := rx
    cases y with
    | non => cases ry; exact PySem.EqNone.eq_int_none (fin_bl I q (by simp))
    | int j => obtain ⟨t', rfl⟩ := ry; exact eq_int (fin_bl I q dec_int)
    | str j => obtain ⟨t', rfl⟩ := ry; exact PySem.EqMixed.eq_int_str (fin_bl I q (by simp))
    | _ => exact absurd (show false = true from hs) Bool.false_ne_true
  | str i =>
    obtain ⟨t, rfl⟩ := rx
    cases y with
    | non => cases ry; exact PySem.EqNone.eq_str_none (fin_bl I q (by simp))
    | bl j => cases ry; exact PySem.EqMixed.eq_str_bool (fin_bl I q (by simp))
    | int j => obtain ⟨t', rfl⟩ := ry; exact PySem.EqMixed.eq_str_int (fin_bl I q (by simp))
    | str j => obtain ⟨t', rfl⟩ := ry; exact eq_str (fin_bl I q dec_str)
    | _ => exact absurd (show false = true from hs) Bool.false_ne_true
  | byt i =>
    obtain ⟨t, rfl⟩ := rx
    cases y with
    | byt j => obtain ⟨t', rfl⟩ := ry; exact PySem.W.eq_bytes (fin_bl I q dec_byt)
    | _ => exact absurd (show false = true from hs) Bool.false_ne_true
  | _ => cases y <;> exact absurd (show false = true from hs) Bool.false_ne_true
theorem op_le : OpR X (compareOp .LtE) (rI0 fun i j => .bl (decide (i ≤ j))) := opB0 fun _ _ _ _ _ _ _ q => le_int q
/-- two rules for one operation: by cases -/
theorem OpR.or {f : Value → Value → Sem Value} {r r' : R2} (h : OpR X f r) (h' : OpR X f r') : OpR X f (fun x y H Q => r x y H Q ∨ r' x y H Q) := by
  intro pins s σ H x y v u Q I rx ry q
  rcases q with q | q
  · exact h pins s σ H x y v u Q I rx ry q
  · exact h' pins s σ H x y v u Q I rx ry q

theorem nomark (b : Expr) {op : CmpOp} (h : op ≠ .In := by decide) (h2 : op ≠ .NotIn := by decide) : behindInMarks op b = false := by
  have e1 : (op == CmpOp.In) = false := by cases op <;> first | rfl | exact absurd rfl h
  have e2 : (op == CmpOp.NotIn) = false := by cases op <;> first | rfl | exact absurd rfl h2
  cases b <;> simp [behindInMarks, e1, e2]
/-- a reading of a value as a test -/
def tTest (t : TE) : TT := fun σ H Q => t σ H fun x H' => ∃ k, x = .bl k ∧ Q k H'
theorem pt_cmpR {op : CmpOp} {r : R2} (ho : OpR X (compareOp op) r) (ha : PE X a ta) (hb : PE X b tb) (hm : behindInMarks op b = false) : PT X (.Compare a [op] [b] pos) (tTest (tOp r ta tb)) := by
  intro pins s σ H Q I h
  refine wpAny_isTrue_Compare1 (thn (ha pins s σ H _ I h) fun v s1 ⟨x, H1, I1, r1, q1⟩ => thn (hb pins s1 σ H1 _ I1 q1) fun u s2 ⟨y, H2, I2, r2, q2⟩ =>
    thn (ho pins s2 σ H2 x y v u _ I2 r1 r2 q2) fun c s3 ⟨z, H3, I3, r3, k, e, q3⟩ => ?_) hm
  subst e
  cases r3
  exact wpAny_truthy_bool ⟨H3, I3, q3⟩
/-- a op1 b op2 c -/
def tChain (r r' : R2) (ta tb tc : TE) : TE := fun σ H Q => ta σ H fun x H1 => tb σ H1 fun y H2 => r x y H2 fun z H3 => ∃ k, z = .bl k ∧
  (if k = true then tc σ H3 fun w' H4 => r' y w' H4 Q else Q (.bl false) H3)
theorem pe_chain {op op' : CmpOp} {r r' : R2} (ho : OpR X (compareOp op) r) (ho' : OpR X (compareOp op') r') (ha : PE X a ta) (hb : PE X b tb) (hc : PE X c tc)
    (hm : lastMarks [op, op'] [b, c] = false := by with_unfolding_all rfl) : PE X (.Compare a [op, op'] [b, c] pos) (tChain r r' ta tb tc) := by
  intro pins s σ H Q I h
  refine Compare_chain (thn (ha pins s σ H _ I h) fun v s1 ⟨x, H1, I1, r1, q1⟩ => chain_link (thn (hb pins s1 σ H1 _ I1 q1) fun u s2 ⟨y, H2, I2, r2, q2⟩ =>
    thn (ho pins s2 σ H2 x y v u _ I2 r1 r2 q2) fun d s3 ⟨z, H3, I3, r3, k, e, q3⟩ => ?_)) hm
  subst e
  cases r3
  refine wpAny_truthy_bool ?_
  cases k with
  | false => exact ite_ff ⟨.bl false, H3, I3, rfl, q3⟩
  | true => exact ite_tt (chain_last (thn (hc pins s3 σ H3 _ I3 q3) fun w' s4 ⟨z', H4, I4, r4, q4⟩ => ho' pins s4 σ H4 y z' u w' Q I4 r2 r4 q4))
theorem pt_chain {op op' : CmpOp} {r r' : R2} (ho : OpR X (compareOp op) r) (ho' : OpR X (compareOp op') r') (ha : PE X a ta) (hb : PE X b tb) (hc : PE X c tc)
    (hm : lastMarks [op, op'] [b, c] = false := by with_unfolding_all rfl) : PT X (.Compare a [op, op'] [b, c] pos) (tTest (tChain r r' ta tb tc)) := by
  intro pins s σ H Q I h
  refine isTrue_chain (thn (ha pins s σ H _ I h) fun v s1 ⟨x, H1, I1, r1, q1⟩ => test_link (thn (hb pins s1 σ H1 _ I1 q1) fun u s2 ⟨y, H2, I2, r2, q2⟩ =>
    thn (ho pins s2 σ H2 x y v u _ I2 r1 r2 q2) fun d s3 ⟨z, H3, I3, r3, k, e, q3⟩ => ?_)) hm
  subst e
  cases r3
  refine wpAny_truthy_bool ?_
  cases k with
  | false =>
    obtain ⟨k', e', q'⟩ := q3
    cases e'
    exact ite_ff ⟨H3, I3, q'⟩
  | true =>
    refine ite_tt (test_last (thn (hc pins s3 σ H3 _ I3 q3) fun w' s4 ⟨z', H4, I4, r4, q4⟩ => thn (ho' pins s4 σ H4 y z' u w' _ I4 r2 r4 q4) fun d' s5 ⟨z2, H5, I5, r5, k2, e2, q5⟩ => ?_))
    subst e2
    cases r5
    exact wpAny_truthy_bool ⟨H5, I5, q5⟩

/-! ### truth -/
theorem line63 : (sizeLine : Nat) < 2 ^ 63 := by rw [sizeLine_eq]; decide
/-! ### strs and bytes -/
/-! ### scalar builtins, by CallR -/
theorem vals1 {x : V} {us : List Value} (r : Vals [x] us) : ∃ u, us = [u] ∧ RelV x u := by
  cases r with
  | cons r1 r2 => cases r2; exact ⟨_, rfl, r1⟩
theorem call_ord : CallR X (.builtin "ord") (fun xs H Q => ∃ x, xs = [.str x] ∧ x.length = 1 ∧ Q (.int (x.cps.getD 0 0 : Nat)) H) := by
  intro pins s σ H xs us Q I r h
  obtain ⟨x, rfl, hz, q⟩ := h
  obtain ⟨u, rfl, t, rfl⟩ := vals1 r
  exact ord_of_one hz ⟨.int _, H, I.tok _, ⟨_, rfl⟩, q⟩
end
end L2

namespace L2
open PySem PySem.Spec PyProof.Rows

/-! ### an instance, its attributes a map -/
structure ObjM (h : Heap) (x dx C : Addr) (mA : Str → Option Value) : Prop where
  obj : h.get? x = some (PySem.W.instObj C dx)
  ns : h.Ns1 dx mA
  ne : dx ≠ x

theorem lookIn_ns {h : Heap} {dx : Addr} {mA : Str → Option Value} (n : h.Ns1 dx mA) : ∃ od, h.get? dx = some od ∧ ∀ name, PySem.W.lookIn name od = some (mA name) := by
  obtain ⟨o, es, ep, ho, hd, hk, _, hm⟩ := n
  refine ⟨o, ho, fun name => ?_⟩
  have e := hm name
  unfold nsFind findBy at e
  rw [← Array.find?_toList] at e
  unfold PySem.W.lookIn
  rw [hd]
  dsimp only
  split
  · rename_i y q
    rw [q] at e
    exact congrArg some e
  · rename_i q
    rw [q] at e
    have a : es.toList.any (·.refKey) = false := by
      rw [List.any_eq_false]
      intro y hy
      obtain ⟨z, t, hkey⟩ := hk y (Array.mem_toList_iff.mp hy)
      simp [DictEntry.refKey, hkey]
    have a' : ¬ es.toList.any (·.refKey) = true := by rw [a]; exact Bool.false_ne_true
    rw [if_neg a']
    exact congrArg some e

theorem ObjM.look {h : Heap} {x dx C : Addr} {mA : Str → Option Value} (I : ObjM h x dx C mA) : ∃ od, PySem.W.InstAt h x (PySem.W.instObj C dx) C (some od) ∧ ∀ name, PySem.W.lookIn name od = some (mA name) :=
  let ⟨od, ho, hl⟩ := lookIn_ns I.ns
  ⟨od, ⟨I.obj, rfl, rfl, ho⟩, hl⟩

section
variable {prog : Program} {w : World} {A : Around} {E : Value → Shared → Prop} {s : Shared} {K : PySem.W.Frag} {x dx C f : Addr} {mA : Str → Option Value} {name : Str} {v : Value}

theorem get_map {expr : Bool} {Q : Value → Shared → Prop} (X : K.In s.heap) (I : ObjM s.heap x dx C mA) (hg : PySem.W.plainGet K C name = true) (hh : PySem.W.hasDictIn K C = true)
    (ha : PySem.W.findIn K (.ref C) name = some none) (hv : mA name = some v) (hv' : PySem.W.handedIn v = true) (h : Q v { s with toks := s.toks + 1 }) :
    wpAny (model prog w) A (getAttr (.ref x) name expr) Q E s := by
  obtain ⟨od, J, hl⟩ := I.look
  exact PySem.W.get_value X J (PySem.W.plainGet_of hg).1 (PySem.W.findObj_own hh ha rfl (by rw [hl, hv])) hv' h

theorem get_meth {pl : Sem Bool} {Q : Value × List Value → Shared → Prop} (X : K.In s.heap) (I : ObjM s.heap x dx C mA) (hg : PySem.W.plainGet K C name = true)
    (hf : PySem.W.findIn K (.ref C) name = some (some (.ref f))) (ht : PySem.W.isFn K (.ref f) = true) (hv : mA name = none) (h : Q (.ref f, [.ref x]) s) :
    wpAny (model prog w) A (getMethod (.ref x) name pl) Q E s := by
  obtain ⟨od, J, hl⟩ := I.look
  exact PySem.W.method_fn X J (PySem.W.plainGet_of hg).1 (PySem.W.plainGet_of hg).2 hf (beq_iff_eq.mp ht) (by show (PySem.W.lookIn name od).map (·.isSome) = some false; rw [hl, hv]; rfl) h

theorem set_map {ns : List Str} {Q : Unit → Shared → Prop} (X : K.In s.heap) (I : ObjM s.heap x dx C mA)
    (hs : PySem.W.findIn K (.ref C) "__setattr__" = some (some (.builtin "object.__setattr__"))) (hp : PySem.W.plainOver K C = true) (ht : PySem.W.takerIn K C name = some none) (hh : PySem.W.hasDictIn K C = true)
    (hw : PySem.Within mA ns) (hsz : ns.length ≤ sizeLine)
    (h : ∀ h', ObjM h' x dx C (fun y => if y = name then some v else mA y) → Heap.SameBut dx s.heap h' → Q () { s with heap := h', toks := s.toks + 2 }) :
    wpAny (model prog w) A (setAttr (.ref x) name v) Q E s := by
  obtain ⟨od, J, hl⟩ := I.look
  refine PySem.W.set_plain X J hs (PySem.W.osa_open (s := { s with toks := s.toks + 1 }) (r := none) X J hp ht fun b => ?_)
  obtain ⟨cd, hc, hd'⟩ := PySem.W.any_some hh
  have hx : s.heap.get? x = some ⟨.ref C, some dx, .plain, #[]⟩ := I.obj
  refine wpAny_bind (wpAny_pure (wpAny_bind (wpAny_bind (wpAny_loadPart hx (wpAny_bind (PySem.W.Looks.here (s := { s with toks := s.toks + 1 }) (PySem.W.looks_clsIn X hc) ?_))))))
  rw [hd']
  refine wpAny_pure (a := some dx) (wpAny_bind (wpAny_pure (wpAny_bind ?_)))
  refine wpAny_nsSet1 (s := { s with toks := s.toks + 1 }) I.ns fun h' hn2 hs2 => ?_
  obtain ⟨oD, esD, epD, hoD, hdD, hcD⟩ := hn2.count (PySem.Within.cons name v hw)
  refine wpAny_bind (wpAny_lookBehind hoD (by rw [hdD]; exact pastItsLine_dict (Nat.le_trans hcD (by rw [List.length_cons]; omega))) ?_)
  exact wpAny_pure (h _ ⟨(hs2.2 _ (Ne.symm I.ne)).trans I.obj, hn2, I.ne⟩ hs2)

/-- C(..): the dict at the heap's end, the instance behind it; then its __init__ -/
theorem make_map {R : Result → Shared → Prop} {vs : List Value} {kw : List (Str × Value)} (X : K.In s.heap) (hm : PySem.W.makesIn K C = true)
    (hi : PySem.W.findIn K (.ref C) "__init__" = some (some (.ref f))) (hf : PySem.W.typeIn K (.ref f) = some (.type "function"))
    (h : codeAny (model prog w) (A.under (.builtin "type.__call__" ⟨.ref C :: vs, kw⟩)) (.call (.ref f) ⟨.ref (s.heap.objs.size + 1) :: vs, kw⟩) (PySem.W.InitBack (s.heap.objs.size + 1) R)
      { s with heap := (s.heap.push PySem.W.emptyDict).push (PySem.W.instObj C s.heap.objs.size) }) :
    codeAny (model prog w) A (.call (.ref C) ⟨vs, kw⟩) R s := by
  obtain ⟨hh, g, d, t, os⟩ := s
  exact PySem.W.make_core (PySem.W.makes_of X hm) (PySem.W.looks_findIn X hi) (fun self => PySem.W.bind_fn X self hf) (.inl rfl) h
end

/-! ### the attributes as a list of pairs -/
def putF (f : Str) (v : V) : List (Str × V) → List (Str × V)
  | [] => [(f, v)]
  | (g, x) :: r => if g = f then (g, v) :: r else (g, x) :: putF f v r
theorem lookup_putF (f g : Str) (v : V) : ∀ fs : List (Str × V), (putF f v fs).lookup g = if g = f then some v else fs.lookup g
  | [] => by
    show List.lookup g [(f, v)] = _
    by_cases h : g = f
    · have hb : (g == f) = true := beq_iff_eq.mpr h
      simp only [List.lookup, hb, if_pos h]
    · have hb : (g == f) = false := beq_eq_false_iff_ne.mpr h
      simp only [List.lookup, hb, if_neg h]
  | (k, x) :: r => by
    have ih := lookup_putF f g v r
    rw [show putF f v ((k, x) :: r) = (if k = f then (k, v) :: r else (k, x) :: putF f v r) from rfl]
    by_cases hk : k = f
    · rw [if_pos hk]
      by_cases h : g = k
      · have hb : (g == k) = true := beq_iff_eq.mpr h
        simp only [List.lookup, hb, if_pos (h.trans hk)]
      · have hb : (g == k) = false := beq_eq_false_iff_ne.mpr h
        simp only [List.lookup, hb, if_neg (fun e : g = f => h (e.trans hk.symm))]
    · rw [if_neg hk]
      by_cases h : g = k
      · have hb : (g == k) = true := beq_iff_eq.mpr h
        simp only [List.lookup, hb, if_neg (fun e : g = f => hk (h.symm.trans e))]
      · have hb : (g == k) = false := beq_eq_false_iff_ne.mpr h
        simp only [List.lookup, hb]
        exact ih
theorem keys_putF (f : Str) (v : V) : ∀ fs : List (Str × V), f ∈ (putF f v fs).map (·.1) ∧ ∀ g, g ∈ fs.map (·.1) → g ∈ (putF f v fs).map (·.1)
  | [] => ⟨by simp [putF], fun g h => by simp at h⟩
  | (k, x) :: r => by
    obtain ⟨i1, i2⟩ := keys_putF f v r
    rw [show putF f v ((k, x) :: r) = (if k = f then (k, v) :: r else (k, x) :: putF f v r) from rfl]
    by_cases hk : k = f
    · rw [if_pos hk]
      subst hk
      exact ⟨by simp, fun g h => by simpa using h⟩
    · rw [if_neg hk]
      refine ⟨?_, fun g h => ?_⟩
      · rw [List.map_cons]
        exact List.mem_cons_of_mem _ i1
      · rw [List.map_cons] at h ⊢
        rcases List.mem_cons.mp h with e | e
        · exact List.mem_cons.mpr (.inl e)
        · exact List.mem_cons_of_mem _ (i2 g e)
theorem length_putF (f : Str) (v : V) : ∀ fs : List (Str × V), (putF f v fs).length ≤ fs.length + 1
  | [] => by simp [putF]
  | (k, x) :: r => by
    have ih := length_putF f v r
    rw [show putF f v ((k, x) :: r) = (if k = f then (k, v) :: r else (k, x) :: putF f v r) from rfl]
    by_cases hk : k = f
    · rw [if_pos hk, List.length_cons, List.length_cons]; omega
    · rw [if_neg hk, List.length_cons, List.length_cons]; omega

theorem RelO.some_of {v : V} {o : Option Value} (r : RelO (some v) o) : ∃ u, o = some u ∧ RelV v u := by
  cases o with
  | none => exact (show False from r).elim
  | some u => exact ⟨u, rfl, r⟩
theorem RelO.none_of {o : Option Value} (r : RelO none o) : o = none := by
  cases o with
  | none => rfl
  | some u => exact (show False from r).elim
theorem handed_of {v : V} {u : Value} (r : RelV v u) : PySem.W.handedIn u = true := by
  cases v with
  | non => cases (show u = Value.none from r); rfl
  | bl b => cases (show u = Value.bool b from r); rfl
  | int i => obtain ⟨t, e⟩ := (show ∃ t, u = Value.int i t from r); cases e; rfl
  | str x => obtain ⟨t, e⟩ := (show ∃ t, u = Value.str x t from r); cases e; rfl
  | byt b => obtain ⟨t, e⟩ := (show ∃ t, u = Value.bytes b t from r); cases e; rfl
  | flt b => obtain ⟨t, e⟩ := (show ∃ t, u = Value.float b t from r); cases e; rfl
  | ref a => cases (show u = Value.ref a from r); rfl
  | ty n => cases (show u = Value.type n from r); rfl

section
variable {P : Program} {w : World} {H H' : Hp} {h h' : Heap} {a C dx : Addr} {fs fs' : List (Str × V)}
theorem ins_get (hok : HOk P w H h) (e : H a = some (.ins C dx fs)) : ∃ mA, ObjM h a dx C mA ∧ (∀ f, RelO (fs.lookup f) (mA f)) ∧ PySem.Within mA (fs.map (·.1)) ∧ fs.length ≤ 1000 ∧ H dx = some (.own a) := by
  obtain ⟨d, z, ne, ob, mA, n, r, q⟩ := (show ObjOk P w H h a (.ins C dx fs) from hok a _ e)
  exact ⟨mA, ⟨ob, n, ne⟩, r, q, z, d⟩
end

/-! ### what of the text a class must have -/
structure Cls (K : PySem.W.Frag) (C : Addr) : Prop where
  pg : PySem.W.plainGet K C Str.empty = true
  hd : PySem.W.hasDictIn K C = true
  po : PySem.W.plainOver K C = true
  sa : PySem.W.findIn K (.ref C) "__setattr__" = some (some (.builtin "object.__setattr__"))
theorem Cls.get {K : PySem.W.Frag} {C : Addr} (c : Cls K C) (f : Str) : PySem.W.plainGet K C f = true := c.pg
/-- no class of it has the name -/
def NoAttr (K : PySem.W.Frag) (C : Addr) (f : Str) : Prop := PySem.W.findIn K (.ref C) f = some none
theorem NoAttr.taker {K : PySem.W.Frag} {C : Addr} {f : Str} (n : NoAttr K C f) : PySem.W.takerIn K C f = some none := by
  unfold PySem.W.takerIn
  rw [show PySem.W.findIn K (.ref C) f = some none from n]
  rfl
/-- a method: a plain def of the class or of one above it -/
structure Meth (K : PySem.W.Frag) (C : Addr) (m : Str) (f : Addr) : Prop where
  at_ : PySem.W.findIn K (.ref C) m = some (some (.ref f))
  fn : PySem.W.isFn K (.ref f) = true
  kp : PySem.W.keepIn K (.ref f) = true

section
variable {X : Cx} {pins : List (Addr × Obj)} {σ : St} {H : Hp} {s : Shared} {a C dx : Addr} {fs : List (Str × V)} {f : Str} {v : V} {A : Around} {E : Value → Shared → Prop}

theorem getattr_ok {b : Bool} {Q : Value → Shared → Prop} (I : Inv X pins σ H s) (e : H a = some (.ins C dx fs)) (c : Cls X.K C) (n : NoAttr X.K C f) (l : fs.lookup f = some v)
    (h : ∀ u s', Inv X pins σ H s' → RelV v u → Q u s') : wpAny (model X.prog X.w) A (getAttr (.ref a) f b) Q E s := by
  obtain ⟨mA, O, r, _, _, _⟩ := ins_get I.hok e
  obtain ⟨u, hu, ru⟩ := RelO.some_of (v := v) (o := mA f) (by rw [← l]; exact r f)
  exact get_map I.kIn O (c.get f) c.hd n hu (handed_of ru) (h u _ (I.tok _) ru)

theorem getmeth_ok {m : Str} {g : Addr} {pl : Sem Bool} {Q : Value × List Value → Shared → Prop} (I : Inv X pins σ H s) (e : H a = some (.ins C dx fs)) (c : Cls X.K C) (k : Meth X.K C m g) (l : fs.lookup m = none)
    (h : Q (.ref g, [.ref a]) s) : wpAny (model X.prog X.w) A (getMethod (.ref a) m pl) Q E s := by
  obtain ⟨mA, O, r, _, _, _⟩ := ins_get I.hok e
  have hn : mA m = none := RelO.none_of (by rw [← l]; exact r m)
  exact get_meth I.kIn O (c.get m) k.at_ k.fn hn h

theorem setattr_ok {y : V} {u : Value} {Q : Unit → Shared → Prop} (I : Inv X pins σ H s) (e : H a = some (.ins C dx fs)) (c : Cls X.K C) (n : NoAttr X.K C f) (hl : fs.length < 1000) (ry : RelV y u)
    (h : ∀ s', Inv X pins σ (upd H a (.ins C dx (putF f y fs))) s' → Q () s') : wpAny (model X.prog X.w) A (setAttr (.ref a) f u) Q E s := by
  obtain ⟨mA, O, r, wi, _, ho⟩ := ins_get I.hok e
  have hz : (fs.map (·.1)).length ≤ sizeLine := by rw [List.length_map, sizeLine_eq]; omega
  refine set_map I.kIn O c.sa c.po n.taker c.hd wi hz fun h' O' sb => h _ ?_
  have hd : ∃ o, h'.get? dx = some o := let ⟨o, _, _, e', _⟩ := O'.ns; ⟨o, e'⟩
  refine I.write (x := a) (e := dx) (by rw [e]; exact True.intro) (.inr ho) (fun b q hb z => (sb.2 b hb).trans z) hd ?_
  refine ⟨by rw [upd_ne O.ne]; exact ho, ?_, O.ne, O'.obj, _, O'.ns, fun g => ?_, fun g hg => ?_⟩
  · have := length_putF f y fs; omega
  · show RelO ((putF f y fs).lookup g) (if g = f then some u else mA g)
    rw [lookup_putF]
    by_cases q : g = f
    · rw [if_pos q, if_pos q]; exact ry
    · rw [if_neg q, if_neg q]; exact r g
  · by_cases q : g = f
    · rw [q]; exact (keys_putF f y fs).1
    · refine (keys_putF f y fs).2 g (wi g fun z => hg ?_)
      show (if g = f then some u else mA g) = none
      rw [if_neg q]; exact z

/-- a new instance, tracked, without attributes -/
theorem Inv.made (I : Inv X pins σ H s) : Inv X pins σ (upd (upd H s.heap.objs.size (.own (s.heap.objs.size + 1))) (s.heap.objs.size + 1) (.ins C s.heap.objs.size []))
    { s with heap := (s.heap.push PySem.W.emptyDict).push (PySem.W.instObj C s.heap.objs.size) } := by
  have e1 : (s.heap.push PySem.W.emptyDict).get? s.heap.objs.size = some PySem.W.emptyDict := Heap.get?_push_size s.heap rfl
  have e2 : ((s.heap.push PySem.W.emptyDict).push (PySem.W.instObj C s.heap.objs.size)).get? (s.heap.objs.size + 1) = some (PySem.W.instObj C s.heap.objs.size) := by
    have := Heap.get?_push_size (s.heap.push PySem.W.emptyDict) (o := PySem.W.instObj C s.heap.objs.size) rfl
    rwa [Heap.size_push] at this
  have e3 : (s.heap.push PySem.W.emptyDict).Ns s.heap.objs.size (fun _ => none) := ⟨PySem.W.emptyDict, #[], _, e1, rfl, (fun e he => absurd he (by simp)), fun _ => rfl⟩
  have I1 := I.laid (a := s.heap.objs.size) (o := .own (s.heap.objs.size + 1)) (h' := s.heap.push PySem.W.emptyDict) (t' := s.toks) (fun b u q => Heap.get?_push_of_some _ q) (Nat.le_refl _) ⟨_, e1⟩
  refine I1.laid (a := s.heap.objs.size + 1) (o := .ins C s.heap.objs.size []) (t' := s.toks) (fun b u q => Heap.get?_push_of_some _ q) (Nat.le_of_eq (Heap.size_push _ _)) ?_
  have ne : s.heap.objs.size ≠ s.heap.objs.size + 1 := Nat.ne_of_lt (Nat.lt_succ_self _)
  refine ⟨by rw [upd_ne ne, upd_same], Nat.zero_le _, ne, e2, fun _ => none, (Heap.Ns1.of_empty e3).at fun o q => Heap.get?_push_of_some _ q, fun _ => True.intro, fun y hy => absurd rfl hy⟩

/-- e.f where nothing but the object is asked: through attributeBase (super) and the last hold -/
theorem attr_of {prog : Program} {w : World} {env : Env} {e : Expr} {f : Str} {pos : Pos} {s : Shared} {Q : Value → Shared → Prop} (hb : attributeBase e f env (eval e env) = eval e env)
    (h : wpAny (model prog w) A (eval e env) (fun o s₁ => wpAny (model prog w) A (getAttr o f true) Q E s₁) E s) : wpAny (model prog w) A (eval (.Attribute e f pos) env) Q E s :=
  Attribute_any_ h (by rw [arm_eval_Attribute, hb])
end

/-! ### readings and rules -/
/-- e.f, an attribute of the instance -/
def tFld (K : PySem.W.Frag) (ta : TE) (f : Str) : TE := fun σ H Q => ta σ H fun x H1 => ∃ a C dx fs v, x = .ref a ∧ H1 a = some (.ins C dx fs) ∧ Cls K C ∧ NoAttr K C f ∧ fs.lookup f = some v ∧ Q v H1
/-- e.f = value -/
def sFld (K : PySem.W.Frag) (ta tv : TE) (f : Str) : TS := fun D σ H => tv σ H fun y H1 => ta σ H1 fun x H2 => ∃ a C dx fs, x = .ref a ∧ H2 a = some (.ins C dx fs) ∧ Cls K C ∧ NoAttr K C f ∧ fs.length < 1000 ∧
  D.nx σ (upd H2 a (.ins C dx (putF f y fs)))
/-- an augmented operator on two values -/
def InOp (X : Cx) (op : Operator) (rd : V → V → Hp → VK → Prop) : Prop :=
  ∀ (pins : List (Addr × Obj)) (s : Shared) (σ : St) (H : Hp) (x y : V) (u v : Value) (Q : VK), Inv X pins σ H s → RelV x u → RelV y v → rd x y H Q → wpAny (model X.prog X.w) X.A (inplaceOp op u v) (EP X pins σ Q) X.xe s
/-- e.f op= value -/
def sFldAug (K : PySem.W.Frag) (ta tv : TE) (rd : V → V → Hp → VK → Prop) (f : Str) : TS := fun D σ H => ta σ H fun x H1 => ∃ a C dx fs v, x = .ref a ∧ H1 a = some (.ins C dx fs) ∧ Cls K C ∧ NoAttr K C f ∧ fs.lookup f = some v ∧
  tv σ H1 fun y H2 => rd v y H2 fun z H3 => ∃ dx' fs', H3 a = some (.ins C dx' fs') ∧ fs'.length < 1000 ∧ D.nx σ (upd H3 a (.ins C dx' (putF f z fs')))

section
variable {X : Cx} {o e value : Expr} {f : Str} {pos pos' tpos : Pos} {ta tv : TE}
theorem pe_fld (he : PE X e ta) (hb : attributeBase e f X.env (eval e X.env) = eval e X.env) : PE X (.Attribute e f pos) (tFld X.K ta f) := by
  intro pins s σ H Q I h
  refine attr_of hb (thn (he pins s σ H _ I h) fun u s1 ⟨x, H1, I1, rx, a, C, dx, fs, v, ex, ea, c, n, l, q⟩ => ?_)
  subst ex
  obtain rfl : u = Value.ref a := rx
  exact getattr_ok I1 ea c n l fun u' s2 I2 ru => ⟨v, H1, I2, ru, q⟩
theorem ps_fld (ha : PE X o ta) (hv : PE X value tv) (hs : swapsWith value (some (.Attribute o f pos')) pos.line X.env = pure false) : PS X (.Assign [.Attribute o f pos'] value pos) (sFld X.K ta tv f) := by
  intro pins s σ H D I h
  refine plainObj_wpAny_Assign_Attribute (thn (hv pins s σ H _ I h) fun u s1 ⟨y, H1, I1, ry, q⟩ => thn (ha pins s1 σ H1 _ I1 q) fun ov s2 ⟨x, H2, I2, rx, a, C, dx, fs, ex, ea, c, n, l, q2⟩ => ?_) hs
  subst ex
  obtain rfl : ov = Value.ref a := rx
  exact setattr_ok I2 ea c n l ry fun s3 I3 => ⟨σ, _, I3, q2⟩
theorem ps_fldaug {op : Operator} {rd : V → V → Hp → VK → Prop} (ha : PE X o ta) (hv : PE X value tv) (hop : InOp X op rd) : PS X (.AugAssign (.Attribute o f tpos) op value pos) (sFldAug X.K ta tv rd f) := by
  intro pins s σ H D I h
  refine wpAny_AugAssign_AttributeAny (thn (ha pins s σ H _ I h) fun ov s1 ⟨x, H1, I1, rx, a, C, dx, fs, v, ex, ea, c, n, l, q⟩ => ?_)
  subst ex
  obtain rfl : ov = Value.ref a := rx
  refine getattr_ok I1 ea c n l fun u s2 I2 ru => thn (hv pins s2 σ H1 _ I2 q) fun w3 s3 ⟨y, H2, I3, ry, q3⟩ => thn (hop pins s3 σ H2 v y u w3 _ I3 ru ry q3) fun w4 s4 ⟨z, H3, I4, rz, dx', fs', ea', l', q4⟩ => ?_
  exact setattr_ok I4 ea' c n l' rz fun s5 I5 => ⟨σ, _, I5, q4⟩
def rAdd : V → V → Hp → VK → Prop := fun x y H Q => ∃ i j, x = .int i ∧ y = .int j ∧ Q (.int (i + j)) H
theorem in_add : InOp X .Add rAdd := by
  rintro pins s σ H x y u v Q I rx ry ⟨i, j, rfl, rfl, q⟩
  obtain ⟨t, rfl⟩ := (show ∃ t, u = Value.int i t from rx)
  obtain ⟨t', rfl⟩ := (show ∃ t', v = Value.int j t' from ry)
  exact PyProof.Rows.iadd_int ⟨.int (i + j), H, I.tok _, ⟨_, rfl⟩, q⟩
end

/-! ### isinstance -/
section
variable {X : Cx} {pins : List (Addr × Obj)} {σ : St} {H : Hp} {s : Shared} {A : Around} {E : Value → Shared → Prop} {Q : Value → Shared → Prop} {c : Value} {b : Bool}
end
end L2

namespace L2
open PySem PySem.Spec PyProof.Rows

/-! ### room -/
structure Room (k : Nat) (A : Around) : Prop where
  hd : A.handled = none
  dp : A.depth + 3 * k + 5 < recursionLimit
  un : A.units + 16 * k + 200 < cLine
theorem Room.mono {j k : Nat} {A : Around} (r : Room k A) (h : j ≤ k) : Room j A := ⟨r.hd, by have := r.dp; omega, by have := r.un; omega⟩
theorem Room.deeper {k : Nat} {A : Around} (r : Room (k + 1) A) (env : Env) : Room k (A.deeper env) :=
  ⟨r.hd, by have := r.dp; show A.depth + 1 + 3 * k + 5 < _; omega, by have := r.un; show A.units + 3 + 16 * k + 200 < _; omega⟩
theorem make_depth {A : Around} {C : Addr} {us : List Value} {kw : List (Str × Value)} : (A.under (.builtin "type.__call__" ⟨.ref C :: us, kw⟩)).depth = A.depth + 1 := by
  first | rfl | simp [Around.under, Code.weight, Code.isCreation, Code.isGuard, Code.isCaller, Code.frames, Code.isFrame, guardIds]
theorem make_units {A : Around} {C : Addr} {us : List Value} {kw : List (Str × Value)} : (A.under (.builtin "type.__call__" ⟨.ref C :: us, kw⟩)).units = A.units + 1 := by
  first | rfl | simp [Around.under, Code.cUnits, Code.frames, Code.isFrame]
theorem Room.make {k : Nat} {A : Around} (r : Room (k + 1) A) (C : Addr) (us : List Value) (kw : List (Str × Value)) : Room k (A.under (.builtin "type.__call__" ⟨.ref C :: us, kw⟩)) :=
  ⟨r.hd, by have := r.dp; rw [make_depth]; omega, by have := r.un; rw [make_units]; omega⟩
theorem Room.depth {k : Nat} {A : Around} (r : Room k A) : A.depth < recursionLimit := by have := r.dp; omega
theorem Room.units {k : Nat} {A : Around} (r : Room k A) : A.units + 64 < cLine := by have := r.un; omega
/-! ### argument lists and displays -/
def tNil : TA := fun _ H Q => Q [] H
def tCons (ta : TE) (tr : TA) : TA := fun σ H Q => ta σ H fun x H1 => tr σ H1 fun xs H2 => Q (x :: xs) H2
section
variable {X : Cx} {e : Expr} {es : List Expr} {te : TE} {t : TA} {pos : Pos}
theorem pa_nil : PA X [] tNil := fun _ _ _ _ H Q I h => Calls.spliced_nil ⟨[], H, I, .nil, h⟩
theorem pa_cons (ha : PE X e te) (hr : PA X es t) (hs : starEach (e :: es) X.env = (false, eval e X.env) :: starEach es X.env := by rfl) : PA X (e :: es) (tCons te t) := by
  intro pos pins s σ H Q I h
  rw [hs]
  show wpAny _ _ (spliced ((false, eval e X.env) :: backTo pos (starEach es X.env))) _ _ s
  refine Calls.spliced_cons (thn (ha pins s σ H _ I h) fun u s1 ⟨x, H1, I1, r1, q1⟩ => ?_)
  exact thn (hr pos pins s1 σ H1 _ I1 q1) fun us s2 ⟨xs, H2, I2, r2, q2⟩ => ⟨x :: xs, H2, I2, .cons r1 r2, q2⟩

/-- a tuple, a list of written items -/
def tTup (t : TA) : TE := fun σ H Q => t σ H fun xs H1 => xs.length ≤ sizeLine ∧ ∀ p, H1 p = none → Q (.ref p) (upd H1 p (.tup xs))
def tLst (t : TA) : TE := fun σ H Q => t σ H fun xs H1 => xs.length ≤ sizeLine ∧ ∀ p, H1 p = none → Q (.ref p) (upd H1 p (.lst xs))
theorem pe_tup {x1} (h : PA X es t) : PE X (.Tuple es x1 pos) (tTup t) := by
  intro pins s σ H Q I hq
  refine wpAny_Tuple_spliced (thn (h pos pins s σ H _ I hq) fun us s1 ⟨xs, H1, I1, r, z, q⟩ => ⟨by rw [← r.length]; exact z, ?_⟩)
  have hf : H1 s1.heap.objs.size = none := I1.hok.fresh (Nat.le_refl _)
  refine ⟨.ref s1.heap.objs.size, upd H1 s1.heap.objs.size (.tup xs), I1.laid (t' := s1.toks) (fun b u e => Heap.get?_push_of_some _ e) (Nat.le_refl _) ?_, rfl, q _ hf⟩
  exact ⟨z, us, r, ⟨_, Heap.get?_push_size _ rfl, rfl, _, rfl⟩⟩
theorem pe_lst (h : PA X es t) : PE X (.List es pos) (tLst t) := by
  intro pins s σ H Q I hq
  refine wpAny_List_spliced (thn (h pos pins s σ H _ I hq) fun us s1 ⟨xs, H1, I1, r, z, q⟩ => ⟨by rw [← r.length]; exact z, ?_⟩)
  have hf : H1 s1.heap.objs.size = none := I1.hok.fresh (Nat.le_refl _)
  refine ⟨.ref s1.heap.objs.size, upd H1 s1.heap.objs.size (.lst xs), I1.laid (t' := s1.toks) (fun b u e => Heap.get?_push_of_some _ e) (Nat.le_refl _) ?_, rfl, q _ hf⟩
  exact ⟨z, us, 0, r, Heap.get?_push_size _ rfl⟩
end

/-! ### what a def promises -/
/-- a def's promise: the bound arguments in the parameters' order, the heap, the wanted end, the wanted exception -/
abbrev Sp := List V → Hp → VK → XK → Prop
/-- how an exception lies behind a call (file 08 gives it): the callers' frames, abstract heap and state ahead of the call, the wish, the exception, the state -/
abbrev CXT := List Env → Hp → Shared → XK → Value → Shared → Prop

/-- the state at a call -/
structure Env0 (P : Program) (w : World) (K : PySem.W.Frag) (mg : Str → Option Value) (base : Heap) (A : Around) (outer : List Env) (s : Shared) (H : Hp) : Prop where
  frames : A.frames = some outer
  mod : Mod K mg base
  bs : ∀ b o, base.get? b = some o → s.heap.get? b = some o ∧ H b = none
  bsz : base.objs.size ≤ s.heap.objs.size
  funs : s.heap.FunFrames base outer
  frf : ∀ b ∈ frs outer, H b = none
  hok : HOk P w H s.heap
  bare : AllBare s.gens
/-- a call's end -/
def CE (outer : List Env) (P : Program) (w : World) (H : Hp) (s : Shared) (Q : VK) (u : Value) (s' : Shared) : Prop :=
  ∃ v H', s'.os = s.os ∧ AllBare s'.gens ∧ Un (frs outer) [] H H' s.heap s'.heap ∧ HOk P w H' s'.heap ∧ RelV v u ∧ Q v H'
def CR (CX : CXT) (outer : List Env) (P : Program) (w : World) (H : Hp) (s : Shared) (Q : VK) (E : XK) (r : Result) (s' : Shared) : Prop :=
  match r with
  | .ok (.ret u) => CE outer P w H s Q u s'
  | .ok _ => False
  | .error e => CX outer H s E e s'
structure FnOk (P : Program) (w : World) (K : PySem.W.Frag) (mg : Str → Option Value) (base : Heap) (CX : CXT) (k : Nat) (f : Addr) (fd : FuncData) (ps : List Str) (sp : Sp) : Prop where
  len : ∀ vs H Q E, sp vs H Q E → vs.length = ps.length
  run : ∀ (A : Around) (outer : List Env) (s : Shared) (H : Hp) (args : Args) (us : List Value) (vs : List V) (Q : VK) (E : XK), Room k A → Env0 P w K mg base A outer s H → BindsTo s fd args (ps.zip us) → Vals vs us → sp vs H Q E →
    codeAny (model P w) A (.call (.ref f) args) (CR CX outer P w H s Q E) s
theorem FnOk.mono {P : Program} {w : World} {K : PySem.W.Frag} {mg : Str → Option Value} {base : Heap} {CX : CXT} {j k : Nat} {f : Addr} {fd : FuncData} {ps : List Str} {sp : Sp} (F : FnOk P w K mg base CX j f fd ps sp) (h : j ≤ k) :
    FnOk P w K mg base CX k f fd ps sp := ⟨F.len, fun A outer s H args us vs Q E hr => F.run A outer s H args us vs Q E (hr.mono h)⟩
theorem Env0.make {P : Program} {w : World} {K : PySem.W.Frag} {mg : Str → Option Value} {base : Heap} {A : Around} {outer : List Env} {s : Shared} {H : Hp} (e : Env0 P w K mg base A outer s H) (C : Addr) (us : List Value) (kw : List (Str × Value)) :
    Env0 P w K mg base (A.under (.builtin "type.__call__" ⟨.ref C :: us, kw⟩)) outer s H := ⟨by first | exact e.frames | (simpa [Around.under, Code.envs, Code.isFrame, pushEnvs] using e.frames), e.mod, e.bs, e.bsz, e.funs, e.frf, e.hok, e.bare⟩
section
variable {X : Cx} {pins : List (Addr × Obj)} {σ : St} {H : Hp} {s s' : Shared}
/-- from a body: what a callee wants -/
theorem Inv.env0 (I : Inv X pins σ H s) : Env0 X.prog X.w X.K X.mg X.base X.A X.stack s H :=
  ⟨I.ok.frames, I.ok.mod, I.bs, Nat.le_trans I.ok.bsz I.sz, I.stack, I.stkFree, I.hok, I.bare⟩
/-- behind a call -/
theorem Inv.after {Q : VK} {u : Value} (I : Inv X pins σ H s) (h : CE X.stack X.prog X.w H s Q u s') : EP X pins σ Q u s' := by
  obtain ⟨v, H', os, bare, un, hok, r, q⟩ := h
  obtain ⟨hh, g, d, t, os'⟩ := s'
  obtain rfl : os' = s.os := os
  exact ⟨v, H', I.call (h' := hh) (g' := g) (d' := d) (t' := t) (ch := []) un hok bare (fun b z => absurd z (by simp)), r, q⟩
end

/-! ### calls -/
/-- f(..): the written arguments, then the defaults dvs; E: what is wanted of an exception -/
def tCall (sp : Sp) (dvs : List V) (E : XK) (t : TA) : TE := fun σ H Q => t σ H fun vs H1 => sp (vs ++ dvs) H1 Q E
/-- o.m(..) of an instance of the class at C -/
def tMeth (C : Addr) (m : Str) (sp : Sp) (dvs : List V) (E : XK) (ta : TE) (t : TA) : TE := fun σ H Q => ta σ H fun x H1 => ∃ a dx fs, x = .ref a ∧ H1 a = some (.ins C dx fs) ∧ fs.lookup m = none ∧
  t σ H1 fun vs H2 => sp (x :: (vs ++ dvs)) H2 Q E
/-- C(..): a new instance and its dict, then __init__ -/
def tMake (C : Addr) (sp : Sp) (dvs : List V) (E : XK) (t : TA) : TE := fun σ H Q => t σ H fun vs H1 => ∀ x dx, H1 x = none → H1 dx = none → dx ≠ x →
  sp (.ref x :: (vs ++ dvs)) (upd (upd H1 dx (.own x)) x (.ins C dx [])) (fun v H2 => v = .non ∧ Q (.ref x) H2) E

/-- how the parameters are bound: us the positional arguments, kw the keywords' values by name, ds the defaults that fill up -/
def Binds (K : PySem.W.Frag) (fd : FuncData) (ps : List Str) (ds : List Value) : Prop :=
  ∀ (s : Shared) (us : List Value), K.In s.heap → (us ++ ds).length = ps.length → BindsTo s fd ⟨us, []⟩ (ps.zip (us ++ ds))
/-- every parameter is given -/
theorem Binds.all {K : PySem.W.Frag} {fd : FuncData} {ps : List Str} (h : ∀ us : List Value, us.length = ps.length → bindArgs fd ⟨us, []⟩ = pure (ps.zip us)) : Binds K fd ps [] := fun s us _ hl => by
  rw [List.append_nil] at hl ⊢
  exact .of_eq (h us hl)

/-- an exception of a callee reaches what this body wants of exceptions -/
def Passes (CX : CXT) (X : Cx) (E : XK) : Prop := ∀ (pins : List (Addr × Obj)) (σ : St) (H : Hp) (s : Shared) (e : Value) (s' : Shared), Inv X pins σ H s → CX X.stack H s E e s' → X.xe e s'

section
variable {X : Cx} {CX : CXT} {k : Nat} {f C : Addr} {fd : FuncData} {ps : List Str} {sp : Sp} {dvs : List V} {ds : List Value} {E : XK} {x m : Str} {p pos apos : Pos} {e o : Expr} {es : List Expr} {ta : TE} {t : TA}

/-- the callee runs -/
theorem run_fn {pins : List (Addr × Obj)} {σ : St} {H : Hp} {s : Shared} {Q : VK} {us : List Value} {vs : List V} (F : FnOk X.prog X.w X.K X.mg X.base CX k f fd ps sp) (hr : Room k X.A) (hb : Binds X.K fd ps ds) (hd : Vals dvs ds) (hx : Passes CX X E)
    (I : Inv X pins σ H s) (r : Vals vs us) (h : sp (vs ++ dvs) H Q E) : wpAny (model X.prog X.w) X.A (call (.ref f) us) (EP X pins σ Q) X.xe s := by
  have r2 : Vals (vs ++ dvs) (us ++ ds) := r.append hd
  have hl : (us ++ ds).length = ps.length := by rw [← r2.length]; exact F.len _ _ _ _ h
  refine wpAny_call (codeAny_mono (F.run X.A X.stack s H ⟨us, []⟩ (us ++ ds) (vs ++ dvs) Q E hr I.env0 (hb s us I.kIn hl) r2 h) fun r s' hq => ?_)
  cases r with
  | error e => exact hx pins σ H s e s' I hq
  | ok fl =>
    cases fl with
    | ret u => exact I.after hq
    | next => exact False.elim hq
    | brk => exact False.elim hq
    | cont => exact False.elim hq

theorem pe_call (F : FnOk X.prog X.w X.K X.mg X.base CX k f fd ps sp) (hr : Room k X.A) (hg : Gl X x) (hm : X.mg x = some (.ref f)) (hk : PySem.W.keepIn X.K (.ref f) = true) (hb : Binds X.K fd ps ds) (hd : Vals dvs ds) (hx : Passes CX X E)
    (ha : PA X (e :: es) t) (hdb : (x == ("__debug__" : Str)) = false := by decide) (he : starEach (e :: es) X.env = (false, eval e X.env) :: starEach es X.env := by rfl) (hpl : (backTo pos (starEach es X.env)).any (·.1) = false := by rfl) :
    PE X (.Call (.Name x p) (e :: es) [] pos) (tCall sp dvs E t) := by
  intro pins s σ H Q I h
  refine wpAny_Call_Name_kw (ld_glob I hg hm ?_ hdb)
  refine PySem.W.callWith_K (h₀ := X.base) I.ok.mod.kin hk (thn (ha pos pins s σ H _ I h) fun us s1 ⟨vs, H1, I1, r, q⟩ => ⟨I1.kIn, ?_⟩) he hpl
  exact run_fn F hr hb hd hx I1 r q
theorem pe_call0 (F : FnOk X.prog X.w X.K X.mg X.base CX k f fd ps sp) (hr : Room k X.A) (hg : Gl X x) (hm : X.mg x = some (.ref f)) (hk : PySem.W.keepIn X.K (.ref f) = true) (hb : Binds X.K fd ps ds) (hd : Vals dvs ds) (hx : Passes CX X E)
    (hdb : (x == ("__debug__" : Str)) = false := by decide) : PE X (.Call (.Name x p) [] [] pos) (tCall sp dvs E tNil) := by
  intro pins s σ H Q I h
  refine wpAny_Call_Name_kw (ld_glob I hg hm ?_ hdb)
  exact PySem.W.callWith_K0 I.kIn hk (run_fn (us := []) F hr hb hd hx I .nil h)

/-- o.m(e, ..) -/
theorem pe_meth {pl : Sem Bool} (he : PE X o ta) (c : Cls X.K C) (hm : Meth X.K C m f) (F : FnOk X.prog X.w X.K X.mg X.base CX k f fd ps sp) (hr : Room k X.A) (hb : Binds X.K fd ps ds) (hd : Vals dvs ds) (hx : Passes CX X E) (ha : PA X (e :: es) t)
    (hst : starEach (e :: es) X.env = (false, eval e X.env) :: starEach es X.env := by rfl) (hpl : (backTo pos (starEach es X.env)).any (·.1) = false := by rfl)
    (ht : eval (.Call (.Attribute o m apos) (e :: es) [] pos) X.env = (do
      let ov ← eval o X.env
      standAt apos.atName
      let (f, first) ← holding [ov] (getMethod ov m pl)
      callWith pos f first (backTo pos (starEach (e :: es) X.env)) (backToKw pos (keywordEach [] X.env))) := by rfl) :
    PE X (.Call (.Attribute o m apos) (e :: es) [] pos) (tMeth C m sp dvs E ta t) := by
  intro pins s σ H Q I h
  refine PySem.W.methodCall_KW (pl := pl) (thn (he pins s σ H _ I h) fun u s1 ⟨x, H1, I1, rx, a, dx, fs, ex, ea, l, q⟩ => ?_) ht
  subst ex
  obtain rfl : u = Value.ref a := rx
  refine getmeth_ok I1 ea c hm l ?_
  refine PySem.W.callWith_K (first := [.ref a]) (h₀ := X.base) I.ok.mod.kin hm.kp (thn (ha pos pins s1 σ H1 _ I1 q) fun us s2 ⟨vs, H2, I2, r, q2⟩ => ⟨I2.kIn, ?_⟩) hst hpl
  exact run_fn (us := .ref a :: us) (vs := .ref a :: vs) F hr hb hd hx I2 (.cons rfl r) q2
/-- o.m() -/
theorem pe_meth0 {pl : Sem Bool} (he : PE X o ta) (c : Cls X.K C) (hm : Meth X.K C m f) (F : FnOk X.prog X.w X.K X.mg X.base CX k f fd ps sp) (hr : Room k X.A) (hb : Binds X.K fd ps ds) (hd : Vals dvs ds) (hx : Passes CX X E)
    (ht : eval (.Call (.Attribute o m apos) [] [] pos) X.env = (do
      let ov ← eval o X.env
      standAt apos.atName
      let (f, first) ← holding [ov] (getMethod ov m pl)
      callWith pos f first (backTo pos (starEach [] X.env)) (backToKw pos (keywordEach [] X.env))) := by rfl) :
    PE X (.Call (.Attribute o m apos) [] [] pos) (tMeth C m sp dvs E ta tNil) := by
  intro pins s σ H Q I h
  refine PySem.W.methodCall_KW (pl := pl) (thn (he pins s σ H _ I h) fun u s1 ⟨x, H1, I1, rx, a, dx, fs, ex, ea, l, q⟩ => ?_) ht
  subst ex
  obtain rfl : u = Value.ref a := rx
  refine getmeth_ok I1 ea c hm l ?_
  exact PySem.W.callWith_K0 (first := [.ref a]) I1.kIn hm.kp (run_fn (us := [.ref a]) (vs := [.ref a]) F hr hb hd hx I1 (.cons rfl .nil) q)

/-- what a class must have to be made -/
structure Mk (K : PySem.W.Frag) (C f : Addr) : Prop where
  makes : PySem.W.makesIn K C = true
  init : PySem.W.findIn K (.ref C) "__init__" = some (some (.ref f))
  fn : PySem.W.isFn K (.ref f) = true
  kp : PySem.W.keepIn K (.ref C) = true

theorem run_make {pins : List (Addr × Obj)} {σ : St} {H : Hp} {s : Shared} {Q : VK} {us : List Value} {vs : List V} (M : Mk X.K C f) (F : FnOk X.prog X.w X.K X.mg X.base CX k f fd ps sp) (hr : Room (k + 1) X.A) (hb : Binds X.K fd ps ds) (hd : Vals dvs ds)
    (hx : Passes CX X E) (I : Inv X pins σ H s) (r : Vals vs us)
    (h : ∀ x dx, H x = none → H dx = none → dx ≠ x → sp (.ref x :: (vs ++ dvs)) (upd (upd H dx (.own x)) x (.ins C dx [])) (fun v H2 => v = .non ∧ Q (.ref x) H2) E) :
    wpAny (model X.prog X.w) X.A (call (.ref C) us) (EP X pins σ Q) X.xe s := by
  have hq := h (s.heap.objs.size + 1) s.heap.objs.size (I.hok.fresh (Nat.le_succ _)) (I.hok.fresh (Nat.le_refl _)) (Nat.ne_of_lt (Nat.lt_succ_self _))
  have I2 := Inv.made (C := C) I
  have r2 : Vals (V.ref (s.heap.objs.size + 1) :: (vs ++ dvs)) (Value.ref (s.heap.objs.size + 1) :: (us ++ ds)) := .cons rfl (r.append hd)
  have hl : (Value.ref (s.heap.objs.size + 1) :: us ++ ds).length = ps.length := by
    have e := r2.length
    rw [F.len _ _ _ _ hq] at e
    exact e.symm
  refine wpAny_call (make_map (f := f) I.kIn M.makes M.init (beq_iff_eq.mp M.fn) (codeAny_mono (F.run _ X.stack _ _ ⟨Value.ref (s.heap.objs.size + 1) :: us, []⟩ (Value.ref (s.heap.objs.size + 1) :: (us ++ ds)) _ _ E (hr.make C us [])
    (I2.env0.make C us []) (hb _ (Value.ref (s.heap.objs.size + 1) :: us) I2.kIn hl) r2 hq) fun r s' hq' => ?_))
  cases r with
  | error e => exact hx pins σ _ _ e s' I2 hq'
  | ok fl =>
    cases fl with
    | ret u =>
      obtain ⟨v, H', I3, rv, ev, q3⟩ := I2.after hq'
      subst ev
      exact ⟨rv, ⟨V.ref (s.heap.objs.size + 1), H', I3, rfl, q3⟩⟩
    | next => exact False.elim hq'
    | brk => exact False.elim hq'
    | cont => exact False.elim hq'
theorem pe_make0 (M : Mk X.K C f) (F : FnOk X.prog X.w X.K X.mg X.base CX k f fd ps sp) (hr : Room (k + 1) X.A) (hg : Gl X x) (hm : X.mg x = some (.ref C)) (hb : Binds X.K fd ps ds) (hd : Vals dvs ds) (hx : Passes CX X E)
    (hdb : (x == ("__debug__" : Str)) = false := by decide) : PE X (.Call (.Name x p) [] [] pos) (tMake C sp dvs E tNil) := by
  intro pins s σ H Q I h
  refine wpAny_Call_Name_kw (ld_glob I hg hm ?_ hdb)
  exact PySem.W.callWith_K0 I.kIn M.kp (run_make (us := []) M F hr hb hd hx I .nil h)
end

/-! ### keywords -/
section
variable {X : Cx} {CX : CXT} {k : Nat} {f C : Addr} {fd : FuncData} {ps ks : List Str} {sp : Sp} {E : XK} {x m : Str} {p pos apos kpos : Pos} {e o : Expr} {es : List Expr} {kws : List Keyword} {te ta : TE} {t tk : TA} {nm : Option Str}
variable {g : List Value → List Value → List Value} {gV : List V → List V → List V}
end

/-! ### a def's body keeps its promise -/
/-- names: the parameters first -/
structure FnScope (N P : List Str) (sc : Scope) : Prop where
  kind : sc.kind = .function
  co : sc.isCoroutine = false
  gen : sc.isGenerator = false
  nd : N.Nodup
  pre : N.take P.length = P
  par : ∀ x ∈ P, sc.names.lookup x = some .local ∨ sc.names.lookup x = some .cell
  nofree : ∀ y ∈ sc.names, y.2 ≠ .free

theorem bindL_out {kindOf : Str → Option NameKind} {x : Str} : ∀ {binds : List (Str × Value)} {m : Str → Option Value}, (∀ v, (x, v) ∉ binds) → bindL kindOf binds m x = m x
  | [], _, _ => rfl
  | (n, v) :: r, m, h => by
    unfold bindL
    rw [bindL_out fun w hw => h w (List.mem_cons_of_mem _ hw)]
    split
    · have : x ≠ n := by rintro rfl; exact h v List.mem_cons_self
      simp [this]
    · rfl
theorem bindC_out {kindOf : Str → Option NameKind} {x : Str} : ∀ {binds : List (Str × Value)} {m : Str → Option Value}, (∀ v, (x, v) ∉ binds) → bindC kindOf binds m x = m x
  | [], _, _ => rfl
  | (n, v) :: r, m, h => by
    unfold bindC
    rw [bindC_out fun w hw => h w (List.mem_cons_of_mem _ hw)]
    split
    · rfl
    · have : x ≠ n := by rintro rfl; exact h v List.mem_cons_self
      simp [this]
theorem bindL_get {kindOf : Str → Option NameKind} {x : Str} {v : Value} : ∀ {P : List Str} {vs : List Value} {i : Nat} {m : Str → Option Value}, P.Nodup → P[i]? = some x → vs[i]? = some v → kindOf x = some .local →
    bindL kindOf (P.zip vs) m x = some v
  | [], _, _, _, _, h, _, _ => by simp at h
  | _ :: _, [], _, _, _, _, h, _ => by simp at h
  | p :: P, w :: vs, 0, m, nd, h1, h2, hk => by
    simp at h1 h2; subst h1; subst h2
    show bindL kindOf ((p, w) :: P.zip vs) m p = _
    unfold bindL
    rw [bindL_out fun v hv => (List.nodup_cons.mp nd).1 (List.of_mem_zip hv).1, if_pos hk]
    simp
  | p :: P, w :: vs, i + 1, m, nd, h1, h2, hk => by
    show bindL kindOf ((p, w) :: P.zip vs) m x = _
    unfold bindL
    exact bindL_get (i := i) (List.nodup_cons.mp nd).2 (by simpa using h1) (by simpa using h2) hk
theorem bindC_get {kindOf : Str → Option NameKind} {x : Str} {v : Value} : ∀ {P : List Str} {vs : List Value} {i : Nat} {m : Str → Option Value}, P.Nodup → P[i]? = some x → vs[i]? = some v → kindOf x ≠ some .local →
    bindC kindOf (P.zip vs) m x = some v
  | [], _, _, _, _, h, _, _ => by simp at h
  | _ :: _, [], _, _, _, _, h, _ => by simp at h
  | p :: P, w :: vs, 0, m, nd, h1, h2, hk => by
    simp at h1 h2; subst h1; subst h2
    show bindC kindOf ((p, w) :: P.zip vs) m p = _
    unfold bindC
    rw [bindC_out fun v hv => (List.nodup_cons.mp nd).1 (List.of_mem_zip hv).1, if_neg hk]
    simp
  | p :: P, w :: vs, i + 1, m, nd, h1, h2, hk => by
    show bindC kindOf ((p, w) :: P.zip vs) m x = _
    unfold bindC
    exact bindC_get (i := i) (List.nodup_cons.mp nd).2 (by simpa using h1) (by simpa using h2) hk

/-- the names' values at the entry -/
def start (N : List Str) (vs : List V) : St := vs.map some ++ List.replicate (N.length - vs.length) none

/-- the context of a def's body, at its entry; an exception leaves the frame, then lies as CX says -/
def cxOf (CX : CXT) (P : Program) (w : World) (K : PySem.W.Frag) (mg : Str → Option Value) (base : Heap) (N : List Str) (qual : Str) (scope : Scope) (f : Addr) (cd : Value) (A : Around) (outer : List Env) (s : Shared) (H : Hp) (E : XK) : Cx where
  prog := P
  w := w
  K := K
  mg := mg
  base := base
  A := A.deeper (envOfC qual scope s.heap.objs.size f cd)
  N := N
  s_0 := s
  H_0 := H
  env := envOfC qual scope s.heap.objs.size f cd
  outer := outer
  stack := envOfC qual scope s.heap.objs.size f cd :: outer
  ex := []
  calm := true
  fn := fun _ => true
  pn := []
  xe := fun e s' => wpAny (model P w) (A.deeper (envOfC qual scope s.heap.objs.size f cd)) (leaving (envOfC qual scope s.heap.objs.size f cd) e) (fun _ s'' => CX outer H s E e s'') (fun e' s'' => CX outer H s E e' s'') s'

theorem cell_has {sc : Scope} {n : Nat} {x : Str} (h : sc.names.lookup x = some .cell) : ∃ c, (cellsFrom n sc.names []).lookup x = some c := by
  have q := PySem.W.cellsFrom_some sc.names n [] (.inl h)
  exact Option.isSome_iff_exists.mp q

theorem inv_start {CX : CXT} {P : Program} {w : World} {K : PySem.W.Frag} {mg : Str → Option Value} {base : Heap} {N ps : List Str} {qual : Str} {scope : Scope} {f : Addr} {cd : Value} {A : Around} {outer : List Env} {s s1 : Shared} {H : Hp} {E : XK} {us : List Value} {vs : List V}
    (S : FnScope N ps scope) (hd : A.handled = none) (e0 : Env0 P w K mg base A outer s H) (hl : vs.length = ps.length) (r : Vals vs us)
    (x : InCallC s s.heap.objs.size (bindL (envOfC qual scope s.heap.objs.size f cd).kindOf (ps.zip us) fun _ => none) (cellsFrom (s.heap.objs.size + 1) scope.names []) (bindC (envOfC qual scope s.heap.objs.size f cd).kindOf (ps.zip us) fun _ => none) s1) :
    Inv (cxOf CX P w K mg base N qual scope f cd A outer s H E) [] (start N vs) H s1 := by
  have hpl : ps.length ≤ N.length := by have := congrArg List.length S.pre; rw [List.length_take] at this; omega
  obtain ⟨h1, tk, rfl, hk⟩ := x.done
  have noA : ∀ b : Addr, b ∉ (cxOf CX P w K mg base N qual scope f cd A outer s H E).ex := fun b z => absurd (show b ∈ ([] : List Addr) from z) (by simp)
  refine ⟨⟨e0.mod, S.kind, rfl, rfl, Nat.le_refl _, fun y z c h1 h2 => ?_, fun y hy => ?_, fun y c _ h => ?_, fun _ => hd, Around.frames_deeper e0.frames, .inr ⟨rfl, rfl⟩, fun b z => absurd z (noA b), e0.bs, e0.bsz, fun b _ _ => noA b, fun b z => absurd z (noA b), e0.funs, e0.frf⟩,
    rfl, e0.bare, Un.kept hk, ⟨_, x.toInCall.ns, fun i y v h1 h2 h3 => ?_⟩, fun y c h => ⟨_, x.cell y c h⟩, e0.hok.fresh (Nat.le_refl _), fun y c h => ?_, fun p hp => absurd (show p ∈ ([] : List (Addr × Obj)) from hp) (by simp), e0.hok.kept hk, ?_⟩
  · exact name_of_addr x.apart (PySem.mem_of_lookup h1) (PySem.mem_of_lookup h2)
  · have hy : scope.names.lookup y = some .cell ∨ scope.names.lookup y = some .free := hy
    rcases hy with hy | hy
    · exact cell_has hy
    · exact absurd rfl (S.nofree _ (PySem.mem_of_lookup hy))
  · exact Nat.le_of_lt (x.above y c (PySem.mem_of_lookup h))
  · have hi : i < vs.length := by
      unfold start at h2
      by_cases hi : i < vs.length
      · exact hi
      · rw [List.getElem?_append_right (by simpa using hi)] at h2
        rw [List.getElem?_replicate] at h2
        split at h2 <;> cases h2
    have ha : vs[i]? = some v := by
      unfold start at h2
      rw [List.getElem?_append_left (by simpa using hi), List.getElem?_map] at h2
      cases e : vs[i]? with
      | none => rw [e] at h2; cases h2
      | some a => rw [e] at h2; cases h2; rfl
    obtain ⟨u, hu, rv⟩ := r.get ha
    have hp : ps[i]? = some y := by
      rw [← S.pre, List.getElem?_take_of_lt (by omega)]; exact h1
    have ndP : ps.Nodup := by rw [← S.pre]; exact S.nd.sublist (List.take_sublist _ _)
    refine ⟨u, rv, ?_⟩
    rcases S.par y (List.mem_of_getElem? hp) with k | k
    · exact .inl ⟨k, bindL_get ndP hp hu k⟩
    · obtain ⟨c, e⟩ := cell_has (n := s.heap.objs.size + 1) k
      refine .inr ⟨.inl k, c, e, ?_⟩
      have q := x.cell y c e
      rw [bindC_get ndP hp hu (by show scope.names.lookup y ≠ _; rw [k]; decide)] at q
      exact q
  · exact e0.hok.fresh (Nat.le_of_lt (x.above y c (PySem.mem_of_lookup h)))
  · unfold start
    show _ = N.length
    rw [List.length_append, List.length_map, List.length_replicate]
    omega

/-- THE RULE: a def (or a method) of the text, by its body. The body's reading t is chosen for each entry; it is run at the parameters' values -/
theorem fn_of {CX : CXT} {P : Program} {w : World} {K : PySem.W.Frag} {mg : Str → Option Value} {base : Heap} {k : Nat} {f : Addr} {name qual : Str} {params : Arguments} {body : List Stmt} {scope : Scope} {dV kV doc pm cdv ct oc : Value} {an od : Option Addr}
    {osl : Array (Option Value)} {N ps : List Str} {sp : Sp} (lk : K.lookup f = some ⟨oc, od, .func (PySem.W.fnOf name qual params body scope dV kV doc pm an cdv ct), osl⟩) (hcd : PySem.W.codeIn K cdv qual = true) (S : FnScope N ps scope)
    (len : ∀ vs H Q E, sp vs H Q E → vs.length = ps.length)
    (hbody : ∀ (A : Around) (outer : List Env) (s : Shared) (H : Hp) (vs : List V) (Q : VK) (E : XK), Room k (A.deeper (envOfC qual scope s.heap.objs.size f cdv)) → sp vs H Q E →
      ∃ t, PSs (cxOf CX P w K mg base N qual scope f cdv A outer s H E) body t ∧ t { nx := fun _ H' => Q .non H', rt := Q } (start N vs) H) :
    FnOk P w K mg base CX (k + 1) f (PySem.W.fnOf name qual params body scope dV kV doc pm an cdv ct) ps sp := by
  refine ⟨len, fun A outer s H args us vs Q E hr e0 hb r hsp => ?_⟩
  have hl := len _ _ _ _ hsp
  have KX : K.In s.heap := e0.mod.kin.keeps fun b o e => (e0.bs b o e).1
  have lim : s.heap.NoLimit := e0.mod.nolimit.keeps fun b o e => (e0.bs b o e).1
  have hkind : ∀ y ∈ ps.zip us, scope.names.lookup y.1 = some .local ∨ (scope.names.lookup y.1 = some .cell ∧ ((cellsFrom (s.heap.objs.size + 1) scope.names []).lookup y.1).isSome = true) := fun ⟨n, v⟩ hy => by
    rcases S.par n (List.of_mem_zip hy).1 with q | q
    · exact .inl q
    · exact .inr ⟨q, PySem.W.cellsFrom_some _ _ _ (.inl q)⟩
  refine codeAny_call_function hr.depth (KX _ _ lk) rfl S.co S.gen rfl (PySem.W.codeRec_of KX hcd) (hb _ _ _ _ ?_)
  refine wpAny_newFunctionEnv_cells S.kind hkind fun env he s1 x => ?_
  subst he
  refine ⟨lim.keeps x.toInCall.keep, codeAny_func ?_⟩
  obtain ⟨t, ht, hq⟩ := hbody A outer s H vs Q E (hr.deeper _) hsp
  have I : Inv (cxOf CX P w K mg base N qual scope f cdv A outer s H E) [] (start N vs) H s1 := inv_start S hr.hd e0 hl r x
  refine wpAny_mono (ht [] s1 (start N vs) H _ I hq) (fun fl s' hs => ?_) fun e s' hs => hs
  have fin : ∀ {σ' : St} {H' : Hp} {v : V} {u : Value}, Inv (cxOf CX P w K mg base N qual scope f cdv A outer s H E) [] σ' H' s' → RelV v u → Q v H' → CE outer P w H s Q u s' :=
    fun {σ' H' v u} J rv q => ⟨v, H', J.os, J.bare, J.base, J.hok, rv, q⟩
  cases fl with
  | ret u =>
    obtain ⟨v, σ', H', J, rv, q⟩ := hs
    exact fin J rv q
  | next =>
    obtain ⟨σ', H', J, q⟩ := hs
    exact fin (v := V.non) (u := Value.none) J rfl q
  | brk =>
    obtain ⟨_, _, _, q⟩ := hs
    exact False.elim q
  | cont =>
    obtain ⟨_, _, _, q⟩ := hs
    exact False.elim q
end L2

namespace L2
open PySem PySem.Spec PyProof.Rows
section
variable {X : Cx} {x : Str} {p pos : Pos} {e : Expr} {es : List Expr} {t : TA} {id T : String} {r : List V → Hp → VK → Prop}

def tCB (r : List V → Hp → VK → Prop) (t : TA) : TE := fun σ H Q => t σ H fun vs H1 => r vs H1 Q
/-- f(e, ..), f a built-in function -/
theorem pe_callB (hc : CallR X (.builtin id) r) (hg : Gl X x) (hm : X.mg x = none) (hv : bootBuiltins x = some (.builtin id)) (ha : PA X (e :: es) t) (hn : x ≠ "__name__" := by decide) (hdb : (x == ("__debug__" : Str)) = false := by decide)
    (he : starEach (e :: es) X.env = (false, eval e X.env) :: starEach es X.env := by rfl) (hpl : (backTo pos (starEach es X.env)).any (·.1) = false := by rfl) : PE X (.Call (.Name x p) (e :: es) [] pos) (tCB r t) := by
  intro pins s σ H Q I h
  refine wpAny_Call_Name_kw (ld_blt I hg hm hv ?_ hn hdb)
  exact PyProof.Rows.callWith_builtin1 (thn (ha pos pins s σ H _ I h) fun us s1 ⟨vs, H1, I1, r1, q1⟩ => hc pins s1 σ H1 vs us Q I1 r1 q1) he hpl
end
end L2

namespace HT
open PySem PyProof.Rows

section
open PySem.SeqAt
open PySem.AutoSeq1 (wpAny_loadPart')
open PySem.MeetsSeq PySem.MeetsSeq2 PySem.MeetsSeq3

end

section
variable {prog : Program} {w : World} {A : Around} {E : Value → Shared → Prop} {s : Shared}

/-! ### t[a:b], not the whole -/
/-- a slice's bound as a place among n (d where it is left out) -/
def sIx (n d : Nat) : Option Int → Nat
  | none => d
  | some v => if v < 0 then (v + (n : Int)).toNat else min v.toNat n
theorem sIx_none (n d : Nat) : sIx n d none = d := rfl
theorem sIx_nat (n d k : Nat) : sIx n d (some (k : Int)) = min k n := by
  show (if (k : Int) < 0 then ((k : Int) + (n : Int)).toNat else min (k : Int).toNat n) = min k n
  rw [if_neg (by omega), Int.toNat_natCast]
end
end HT

namespace L2
open PySem PySem.Spec PyProof.Rows

/-! ### the parts of a slice -/
abbrev TO := St → Hp → (Option Int → Hp → Prop) → Prop
/-- a slice's part (left out, or an int) -/
def PO (X : Cx) (e : Option Expr) (t : TO) : Prop :=
  ∀ (pins : List (Addr × Obj)) (s : Shared) (σ : St) (H : Hp) (Q : Option Int → Hp → Prop), Inv X pins σ H s → t σ H Q →
    wpAny (model X.prog X.w) X.A (evalPart e X.env) (fun u s' => ∃ o H', Inv X pins σ H' s' ∧ IsPart u o ∧ Q o H') X.xe s
def tNoPart : TO := fun _ H Q => Q none H
def tPart (t : TE) : TO := fun σ H Q => t σ H fun x H1 => ∃ i, x = .int i ∧ Q (some i) H1

section
variable {X : Cx} {e : Expr} {te : TE} {lo hi : Option Expr} {tl th : TO} {pos p2 : Pos}

theorem po_none : PO X none tNoPart := by
  intro pins s σ H Q I h
  rw [evalPart_none]
  exact wpAny_pure ⟨none, H, I, .none, h⟩
theorem po_some (h : PE X e te) : PO X (some e) (tPart te) := by
  intro pins s σ H Q I hw
  rw [evalPart_some]
  refine thn (h pins s σ H _ I hw) fun u s1 ⟨x, H1, I1, r1, q1⟩ => ?_
  obtain ⟨i, rfl, q⟩ := q1
  obtain ⟨t, rfl⟩ := r1
  exact ⟨some i, H1, I1, .int i t, q⟩

/-- what a slice of a value is, by values: the slice object stands at sl -/
def SlR (X : Cx) (r : V → Option Int → Option Int → Hp → VK → Prop) : Prop :=
  ∀ (pins : List (Addr × Obj)) (s : Shared) (σ : St) (H : Hp) (x : V) (v vl vu : Value) (lo hi : Option Int) (sl : Addr) (Q : VK), Inv X pins σ H s → RelV x v → s.heap.IsSliceOf sl vl vu .none → IsPart vl lo → IsPart vu hi → r x lo hi H Q →
    ∃ T id, typeLookup (.type T) "__getitem__" = pure (some (.builtin id)) ∧ s.TypeIs v T ∧ wpAny (model X.prog X.w) X.A (getItem v (.ref sl)) (EP X pins σ Q) X.xe s
theorem SlR.or {r r' : V → Option Int → Option Int → Hp → VK → Prop} (h : SlR X r) (h' : SlR X r') : SlR X (fun x lo hi H Q => r x lo hi H Q ∨ r' x lo hi H Q) := by
  intro pins s σ H x v vl vu lo hi sl Q I rx hs pl pu q
  rcases q with q | q
  · exact h pins s σ H x v vl vu lo hi sl Q I rx hs pl pu q
  · exact h' pins s σ H x v vl vu lo hi sl Q I rx hs pl pu q
def tSl (r : V → Option Int → Option Int → Hp → VK → Prop) (te : TE) (tl th : TO) : TE := fun σ H Q => te σ H fun x H1 => tl σ H1 fun l H2 => th σ H2 fun u H3 => r x l u H3 Q
/-- a[lo:hi], any a -/
theorem pe_slice {r : V → Option Int → Option Int → Hp → VK → Prop} (hr : SlR X r) (he : PE X e te) (hl : PO X lo tl) (hu : PO X hi th) : PE X (.Subscript e (.Slice lo hi none p2) pos) (tSl r te tl th) := by
  intro pins s σ H Q I h
  refine Subscript_ (thn (he pins s σ H _ I h) fun v s1 ⟨x, H1, I1, r1, q1⟩ => ?_)
  refine wpAny_Slice (thn (hl pins s1 σ H1 _ I1 q1) fun vl s2 ⟨l, H2, I2, pl, q2⟩ => thn (hu pins s2 σ H2 _ I2 q2) fun vu s3 ⟨u, H3, I3, pu, q3⟩ => ?_)
  rw [evalPart_none]
  refine wpAny_pure ?_
  have I4 : Inv X pins σ H3 { s3 with heap := s3.heap.push { cls := .type "slice", data := .fields #[vl, vu, .none] } } := I3.kept (t' := s3.toks) fun b ob q => Heap.get?_push_of_some _ q
  obtain ⟨T, id, hT, ht, hg⟩ := hr pins { s3 with heap := s3.heap.push { cls := .type "slice", data := .fields #[vl, vu, .none] } } σ H3 x v vl vu l u s3.heap.objs.size Q I4 r1 (Heap.IsSliceOf.new ..) pl pu q3
  show wpAny (model X.prog X.w) X.A (subscriptTail e (.Slice lo hi none p2) v (.ref s3.heap.objs.size)) (EP X pins σ Q) X.xe { s3 with heap := s3.heap.push { cls := .type "slice", data := .fields #[vl, vu, .none] } }
  exact tail_any (ops := [.ref s3.heap.objs.size, v]) ht hT hg (by with_unfolding_all rfl)

/-- the items of xs[lo:hi] -/
def cutV (xs : List V) (lo hi : Option Int) : List V := (xs.drop (HT.sIx xs.length 0 lo)).take (HT.sIx xs.length xs.length hi - HT.sIx xs.length 0 lo)
theorem cutV_length (xs : List V) (lo hi : Option Int) : (cutV xs lo hi).length ≤ xs.length := by
  unfold cutV
  rw [List.length_take, List.length_drop]
  omega
/-! ### t < u, t + u -/
end
end L2

namespace L2
open PySem PySem.Spec PyProof.Rows

/-! ### places -/
/-- the place that an index of any sign means -/
def ixN (n : Nat) (i : Int) : Option Nat := if 0 ≤ i then (if i < n then some i.toNat else none) else if -(n : Int) ≤ i then some (i + n).toNat else none
def atI {α : Type} (xs : List α) (i : Int) : Option α := (ixN xs.length i).bind fun j => xs[j]?
theorem ixN_seq {n : Nat} {i : Int} {j : Nat} (h : ixN n i = some j) : seqIndex? i n = some j ∧ j < n ∧ -(n : Int) ≤ i ∧ i < n := by
  unfold ixN at h
  by_cases h0 : 0 ≤ i
  · rw [if_pos h0] at h
    by_cases h1 : i < n
    · rw [if_pos h1] at h
      have e : i.toNat = j := Option.some.inj h
      exact ⟨by rw [seqIndex_of h0 h1, e], by omega, by omega, h1⟩
    · rw [if_neg h1] at h; cases h
  · rw [if_neg h0] at h
    by_cases h1 : -(n : Int) ≤ i
    · rw [if_pos h1] at h
      have e : (i + n).toNat = j := Option.some.inj h
      exact ⟨by rw [seqIndex_neg (by omega) h1, e], by omega, h1, by omega⟩
    · rw [if_neg h1] at h; cases h
theorem atI_get {α : Type} {xs : List α} {i : Int} {v : α} (h : atI xs i = some v) : ∃ j, seqIndex? i xs.length = some j ∧ xs[j]? = some v ∧ j < xs.length ∧ -(xs.length : Int) ≤ i ∧ i < xs.length := by
  unfold atI at h
  cases e : ixN xs.length i with
  | none => rw [e] at h; cases h
  | some j =>
    rw [e] at h
    obtain ⟨h1, h2, h3, h4⟩ := ixN_seq e
    exact ⟨j, h1, h, h2, h3, h4⟩
theorem atI_nat {α : Type} {xs : List α} {j : Nat} {v : α} (h : xs[j]? = some v) : atI xs (j : Int) = some v := by
  have hj : j < xs.length := (List.getElem?_eq_some_iff.mp h).1
  have e : ixN xs.length (j : Int) = some j := by
    unfold ixN
    rw [if_pos (by omega), if_pos (by omega)]; simp
  unfold atI; rw [e]; exact h
/-! ### what may be subscripted -/
/-- what stands as an index of a plain subscript -/
def PlainIx (b : Expr) : Prop := ∀ o i, subscripted b false o i = operate [o, i] (getItem o i)
/-- a subscript by values -/
def IxR (X : Cx) (r : R2) : Prop :=
  ∀ (value slice : Expr) (pins : List (Addr × Obj)) (s : Shared) (σ : St) (H : Hp) (x y : V) (v u : Value) (Q : VK), Inv X pins σ H s → RelV x v → RelV y u → r x y H Q →
    subscripted slice false v u = operate [v, u] (getItem v u) → wpAny (model X.prog X.w) X.A (subscriptTail value slice v u) (EP X pins σ Q) X.xe s
/-- a call of a builtin's method by values: the receiver, the arguments -/
def MtR (X : Cx) (id : String) (r : V → List V → Hp → VK → Prop) : Prop :=
  ∀ (pins : List (Addr × Obj)) (s : Shared) (σ : St) (H : Hp) (x : V) (xs : List V) (v : Value) (us : List Value) (Q : VK), Inv X pins σ H s → RelV x v → Vals xs us → r x xs H Q →
    wpAny (model X.prog X.w) X.A (call (.builtin id) (v :: us)) (EP X pins σ Q) X.xe s
section
variable {X : Cx} {a b : Expr} {ta tb : TE} {pos : Pos}
theorem IxR.or {r r' : R2} (h : IxR X r) (h' : IxR X r') : IxR X (fun x y H Q => r x y H Q ∨ r' x y H Q) := by
  intro value slice pins s σ H x y v u Q I rx ry q hs
  rcases q with q | q
  · exact h value slice pins s σ H x y v u Q I rx ry q hs
  · exact h' value slice pins s σ H x y v u Q I rx ry q hs
theorem MtR.or {id : String} {r r' : V → List V → Hp → VK → Prop} (h : MtR X id r) (h' : MtR X id r') : MtR X id (fun x xs H Q => r x xs H Q ∨ r' x xs H Q) := by
  intro pins s σ H x xs v us Q I rx rs q
  rcases q with q | q
  · exact h pins s σ H x xs v us Q I rx rs q
  · exact h' pins s σ H x xs v us Q I rx rs q
/-- a[b] -/
theorem pe_ix {r : R2} (hr : IxR X r) (ha : PE X a ta) (hb : PE X b tb) (hs : PlainIx b) : PE X (.Subscript a b pos) (tOp r ta tb) := by
  intro pins s σ H Q I h
  exact Subscript_ (binT ha hb I h fun v u s2 x y H2 I2 rx ry q => hr a b pins s2 σ H2 x y v u Q I2 rx ry q (hs _ _))

def rIxL (K : PySem.W.Frag) : R2 := fun x y H Q => ∃ p xs i v, x = .ref p ∧ y = .int i ∧ SqL K H p xs ∧ atI xs i = some v ∧ Q v H
def rIxT (K : PySem.W.Frag) : R2 := fun x y H Q => ∃ p xs i v, x = .ref p ∧ y = .int i ∧ SqT K H p xs ∧ atI xs i = some v ∧ Q v H
theorem ix_list : IxR X (rIxL X.K) := by
  intro value slice pins s σ H x y v u Q I rx ry h hs
  obtain ⟨p, xs, i, z, rfl, rfl, hq, he, q⟩ := h
  cases rx
  obtain ⟨t, rfl⟩ := ry
  obtain ⟨its, r, pl, hz⟩ := I.list hq
  obtain ⟨j, h1, h2, h3, h4, h5⟩ := atI_get he
  obtain ⟨w, ew, rw'⟩ := r.get h2
  have hl := r.length
  have hn := line63
  have fin : EP X pins σ Q w s := ⟨z, H, I, rw', q⟩
  by_cases h0 : 0 ≤ i
  · have hj : i.toNat = j := by
      rw [seqIndex_of h0 h5] at h1
      exact Option.some.inj h1
    exact item_listR pl.isList h0 (by omega) (by rw [hj]; simpa using ew) fin hs
  · have hj : (i + (its.toArray.size : Int)).toNat = j := by
      rw [seqIndex_neg (by omega) h4] at h1
      rw [List.size_toArray, ← hl]
      exact Option.some.inj h1
    exact subscriptTail_builtinR (x := w) pl.isList.typeIs slot_list_getitem.lookup
      (wpAny_getItem_list_neg (Q := fun r s' => r = w ∧ EP X pins σ Q r s') pl.isList (by omega) (by rw [List.size_toArray] <;> omega) (by omega) (by rw [hj]; simpa using ew) ⟨rfl, fin⟩) hs
theorem ix_tup : IxR X (rIxT X.K) := by
  intro value slice pins s σ H x y v u Q I rx ry h hs
  obtain ⟨p, xs, i, z, rfl, rfl, hq, he, q⟩ := h
  cases rx
  obtain ⟨t, rfl⟩ := ry
  obtain ⟨its, r, pl, hz⟩ := I.tuple hq
  obtain ⟨j, h1, h2, h3, h4, h5⟩ := atI_get he
  obtain ⟨w, ew, rw'⟩ := r.get h2
  have hl := r.length
  have hn := line63
  have fin : EP X pins σ Q w s := ⟨z, H, I, rw', q⟩
  exact subscriptTail_builtinR (x := w) pl.typeIs slot_tuple_getitem.lookup
    (getItem_tuple (j := j) (Q := fun r s' => r = w ∧ EP X pins σ Q r s') pl (by omega) (by omega) (by rw [List.size_toArray, ← hl]; exact h1) (by simpa using ew) ⟨rfl, fin⟩) hs
/-! ### xs[i] = v, any sign -/
theorem Inv.lst {pins : List (Addr × Obj)} {σ : St} {H : Hp} {s : Shared} {p : Addr} {xs : List V} (I : Inv X pins σ H s) (h : H p = some (.lst xs)) :
    ∃ (its : List Value) (n : Nat), Vals xs its ∧ s.heap.get? p = some { cls := .type "list", data := .seq its.toArray n } ∧ xs.length ≤ sizeLine := by
  obtain ⟨z, its, n, r, e⟩ := I.hok p _ h
  exact ⟨its, n, r, e, z⟩
/-! ### slices -/
theorem slice_bounds (lo hi : Option Int) (n : Nat) : (sliceBounds lo hi none n).1 = ((HT.sIx n 0 lo : Nat) : Int) ∧ (sliceBounds lo hi none n).2.1 = ((HT.sIx n n hi : Nat) : Int) ∧ (sliceBounds lo hi none n).2.2 = 1 := by
  refine ⟨?_, ?_, rfl⟩
  · cases lo with
    | none => simp [sliceBounds, HT.sIx]
    | some i =>
      simp only [sliceBounds, HT.sIx, Option.getD_none, show (1 : Int) > 0 by decide, if_true]
      by_cases h : i < 0
      · simp only [h, if_true] <;> omega
      · simp only [h, if_false] <;> omega
  · cases hi with
    | none => simp [sliceBounds, HT.sIx]
    | some i =>
      simp only [sliceBounds, HT.sIx, Option.getD_none, show (1 : Int) > 0 by decide, if_true]
      by_cases h : i < 0
      · simp only [h, if_true] <;> omega
      · simp only [h, if_false] <;> omega
theorem slicePick_cut (its : List Value) (lo hi : Option Int) : slicePick its.toArray lo hi none = ((its.drop (HT.sIx its.length 0 lo)).take (HT.sIx its.length its.length hi - HT.sIx its.length 0 lo)).toArray := by
  obtain ⟨h1, h2, h3⟩ := slice_bounds lo hi its.toArray.size
  unfold slicePick
  rw [h1, h2, h3]
  simp only [sliceRange_one, pick_run, List.size_toArray] <;> rfl
/-- xs[lo:hi] of a list: a new list -/
def rSlL (K : PySem.W.Frag) : V → Option Int → Option Int → Hp → VK → Prop := fun x lo hi H Q => ∃ a xs, x = .ref a ∧ SqL K H a xs ∧ ∀ p, H p = none → Q (.ref p) (upd H p (.lst (cutV xs lo hi)))
theorem sl_list : SlR X (rSlL X.K) := by
  intro pins s σ H x v vl vu lo hi sl Q I rx hs pl pu h
  obtain ⟨a, xs, rfl, hx, q⟩ := h
  cases rx
  obtain ⟨its, r, ht, hz⟩ := I.list hx
  have hlen := r.length
  refine ⟨"list", _, slot_list_getitem.lookup, ht.isList.typeIs, ?_⟩
  refine wpAny_getItem_list_slice ht.isList hs pl pu .none (by simp) ?_ (by rw [List.size_toArray] <;> omega)
  rw [slicePick_cut, ← hlen]
  refine ⟨.ref s.heap.objs.size, _, I.laid (t' := s.toks) (o := .lst (cutV xs lo hi)) (fun b ob q => Heap.get?_push_of_some _ q) (Nat.le_refl _) ?_, rfl, q _ (I.hok.fresh (Nat.le_refl _))⟩
  exact ⟨Nat.le_trans (cutV_length xs lo hi) hz, _, 0, (r.drop (HT.sIx xs.length 0 lo)).take (HT.sIx xs.length xs.length hi - HT.sIx xs.length 0 lo), Heap.get?_push_size _ rfl⟩

/-! ### in, not in: flat items -/
def flatV : V → Bool
  | .non => true
  | .bl _ => true
  | .int _ => true
  | .str _ => true
  | _ => false
/-- == of flat values -/
def eqV : V → V → Bool
  | .non, .non => true
  | .bl a, .bl b => a == b
  | .bl a, .int b => (if a then 1 else 0) == b
  | .int a, .bl b => a == (if b then 1 else 0)
  | .int a, .int b => a == b
  | .str a, .str b => a == b
  | _, _ => false
theorem eqAt_V {A : Around} {s : Shared} {y x : V} {u v : Value} (ry : RelV y u) (rx : RelV x v) (fy : flatV y = true) (fx : flatV x = true) : SeqAt.EqAt A s u v (eqV y x) := by
  cases y with
  | non =>
    cases ry
    cases x with
    | non => cases rx; exact SeqAt.EqAt.same _
    | bl b => cases rx; exact SeqAt.EqAt.none_bool b
    | int b => obtain ⟨t, rfl⟩ := rx; exact SeqAt.EqAt.none_int b t
    | str b => obtain ⟨t, rfl⟩ := rx; exact SeqAt.EqAt.none_str b t
    | _ => exact absurd (show false = true from fx) Bool.false_ne_true
  | bl a =>
    cases ry
    cases x with
    | non => cases rx; exact SeqAt.EqAt.bool_none a
    | bl b => cases rx; exact SeqAt.EqAt.bool_bool a b
    | int b => obtain ⟨t, rfl⟩ := rx; exact SeqAt.EqAt.bool_int a b t
    | str b => obtain ⟨t, rfl⟩ := rx; exact SeqAt.EqAt.bool_str a b t
    | _ => exact absurd (show false = true from fx) Bool.false_ne_true
  | int a =>
    obtain ⟨t', rfl⟩ := ry
    cases x with
    | non => cases rx; exact SeqAt.EqAt.int_none a t'
    | bl b => cases rx; exact SeqAt.EqAt.int_bool a t' b
    | int b => obtain ⟨t, rfl⟩ := rx; exact SeqAt.EqAt.int_int a t' b t
    | str b => obtain ⟨t, rfl⟩ := rx; exact SeqAt.EqAt.int_str a t' b t
    | _ => exact absurd (show false = true from fx) Bool.false_ne_true
  | str a =>
    obtain ⟨t', rfl⟩ := ry
    cases x with
    | non => cases rx; exact SeqAt.EqAt.str_none a t'
    | bl b => cases rx; exact SeqAt.EqAt.str_bool a t' b
    | int b => obtain ⟨t, rfl⟩ := rx; exact SeqAt.EqAt.str_int a t' b t
    | str b => obtain ⟨t, rfl⟩ := rx; exact SeqAt.EqAt.str_str a t' b t
    | _ => exact absurd (show false = true from fx) Bool.false_ne_true
  | _ => exact absurd (show false = true from fy) Bool.false_ne_true
/-- the items' answers, read off the values (a value's own answer does not lean on its token) -/
def eqU (x : V) (u : Value) : Bool := match u with
  | .none => eqV .non x
  | .bool b => eqV (.bl b) x
  | .int i _ => eqV (.int i) x
  | .str z _ => eqV (.str z) x
  | _ => false
theorem eqU_of {x y : V} {u : Value} (r : RelV y u) (f : flatV y = true) : eqU x u = eqV y x := by
  cases y with
  | non => cases r; rfl
  | bl b => cases r; rfl
  | int i => obtain ⟨t, rfl⟩ := r; rfl
  | str z => obtain ⟨t, rfl⟩ := r; rfl
  | _ => exact absurd (show false = true from f) Bool.false_ne_true
theorem any_eqU {x : V} : ∀ {xs : List V} {us : List Value}, Vals xs us → xs.all flatV = true → us.any (eqU x) = xs.any fun y => eqV y x
  | _, _, .nil, _ => rfl
  | y :: xs, u :: us, .cons r t, f => by
    rw [List.all_cons, Bool.and_eq_true] at f
    rw [List.any_cons, List.any_cons, eqU_of r f.1, any_eqU t f.2]
theorem mem_eqAt {A : Around} {s : Shared} {x : V} {v : Value} (rx : RelV x v) (fx : flatV x = true) : ∀ {xs : List V} {us : List Value}, Vals xs us → xs.all flatV = true → ∀ u ∈ us, SeqAt.EqAt A s u v (eqU x u)
  | _, _, .nil, _ => fun u hu => by cases hu
  | y :: xs, u :: us, .cons r t, f => fun u' hu => by
    rw [List.all_cons, Bool.and_eq_true] at f
    rcases List.mem_cons.mp hu with rfl | hu
    · rw [eqU_of r f.1]; exact eqAt_V r rx f.1 fx
    · exact mem_eqAt rx fx t f.2 u' hu
def inV (x : V) (xs : List V) : Bool := xs.any fun y => eqV y x
/-- x in a list or tuple of flat items -/
def rIn (K : PySem.W.Frag) (neg : Bool) : R2 := fun x y H Q => ∃ p xs, y = .ref p ∧ (SqL K H p xs ∨ SqT K H p xs) ∧ flatV x = true ∧ xs.all flatV = true ∧ Q (.bl (if neg then !inV x xs else inV x xs)) H
theorem op_in_seq : OpR X (compareOp .In) (rIn X.K false) := by
  intro pins s σ H x y v u Q I rx ry h
  obtain ⟨p, xs, rfl, hq, fx, fs, q⟩ := h
  cases ry
  rcases hq with hq | hq
  · obtain ⟨its, r, pl, hz⟩ := I.list hq
    refine SeqAt.in_listAt (eqU x) pl.isList (fun w hw => mem_eqAt rx fx r fs w (by simpa using hw)) ⟨.bl _, H, I, rfl, ?_⟩
    rw [show its.toArray.any (eqU x) = its.any (eqU x) by simp, any_eqU r fs]
    exact q
  · obtain ⟨its, r, pl, hz⟩ := I.tuple hq
    refine SeqAt.in_tupleAt (eqU x) pl (fun w hw => mem_eqAt rx fx r fs w (by simpa using hw)) ⟨.bl _, H, I, rfl, ?_⟩
    rw [show its.toArray.any (eqU x) = its.any (eqU x) by simp, any_eqU r fs]
    exact q
/-! ### len, list(x), tuple(x) of any list or tuple that is read -/
theorem call_len_seq : CallR X (.builtin "len") (fun xs H Q => ∃ p ys, xs = [.ref p] ∧ (SqL X.K H p ys ∨ SqT X.K H p ys) ∧ Q (.int ys.length) H) := by
  intro pins s σ H xs us Q I r h
  obtain ⟨p, ys, rfl, hq, q⟩ := h
  obtain ⟨u, rfl, rx⟩ := vals1 r
  cases rx
  have hn := line63
  rcases hq with hq | hq
  · obtain ⟨its, r', pl, hz⟩ := I.list hq
    have hlen := r'.length
    exact Calls.call_len_list pl.isList (by simp only [List.size_toArray] <;> omega) ⟨.int ys.length, H, I.tok _, ⟨s.toks + 1, by rw [List.size_toArray, hlen]⟩, q⟩
  · obtain ⟨its, r', pl, hz⟩ := I.tuple hq
    have hlen := r'.length
    exact len_tuple pl (by simp only [List.size_toArray] <;> omega) ⟨.int ys.length, H, I.tok _, ⟨s.toks + 1, by rw [List.size_toArray, hlen]⟩, q⟩
theorem CallR.or {f : Value} {r r' : List V → Hp → VK → Prop} (h : CallR X f r) (h' : CallR X f r') : CallR X f (fun xs H Q => r xs H Q ∨ r' xs H Q) := by
  intro pins s σ H xs us Q I rs q
  rcases q with q | q
  · exact h pins s σ H xs us Q I rs q
  · exact h' pins s σ H xs us Q I rs q
/-! ### the call of a builtin's method: o.m(..) -/
/-- the value is of that builtin type -/
def tyV (K : PySem.W.Frag) (T : String) (x : V) (H : Hp) : Prop := match x with
  | .str _ => T = "str"
  | .int _ => T = "int"
  | .ref p => (T = "list" ∧ ∃ xs, SqL K H p xs) ∨ (T = "tuple" ∧ ∃ o, K.lookup p = some o ∧ o.cls = .type "tuple" ∧ o.dict = none) ∨
      (T = "dict" ∧ ((∃ kvs, H p = some (.dK kvs)) ∨ ∃ kvs, H p = some (.dT kvs))) ∨ (T = "set" ∧ ∃ S n, H p = some (.set S n))
  | _ => False
theorem tyV_is {pins : List (Addr × Obj)} {σ : St} {H : Hp} {s : Shared} {T : String} {x : V} {v : Value} (I : Inv X pins σ H s) (r : RelV x v) (ty : tyV X.K T x H) :
    s.TypeIs v T ∧ ∀ a, v = .ref a → ∃ ob, s.heap.get? a = some ob ∧ ob.dict = none := by
  cases x with
  | str z =>
    obtain ⟨t, rfl⟩ := r
    cases (show T = "str" from ty)
    exact ⟨typeIs_str s z t, fun _ e => nomatch e⟩
  | int i =>
    obtain ⟨t, rfl⟩ := r
    cases (show T = "int" from ty)
    exact ⟨typeIs_int s i t, fun _ e => nomatch e⟩
  | ref p =>
    cases r
    rcases ty with ⟨rfl, xs, hq⟩ | ⟨rfl, o, hk, hc, hd⟩ | ⟨rfl, hk⟩ | ⟨rfl, S, n, hk⟩
    · obtain ⟨its, _, pl, _⟩ := I.list hq
      refine ⟨pl.isList.typeIs, fun a e => ?_⟩
      cases e
      obtain ⟨o, n, e, c, hd, _⟩ := pl
      exact ⟨o, e, hd⟩
    · refine ⟨⟨o, I.kIn p o hk, hc⟩, fun a e => ?_⟩
      cases e
      exact ⟨o, I.kIn _ o hk, hd⟩
    · have z : ∃ o, s.heap.get? p = some o ∧ o.ExactDict := by
        rcases hk with ⟨kvs, hk⟩ | ⟨kvs, hk⟩
        · obtain ⟨_, _, _, _, o, _, _, e, ex, _⟩ := I.hok p _ hk
          exact ⟨o, e, ex⟩
        · obtain ⟨_, _, _, _, o, _, _, e, ex, _⟩ := I.hok p _ hk
          exact ⟨o, e, ex⟩
      obtain ⟨o, e, ex⟩ := z
      refine ⟨⟨o, e, ex.1⟩, fun a e2 => ?_⟩
      cases e2
      exact ⟨o, e, ex.2.1⟩
    · obtain ⟨o, _, _, _, e, ex, _⟩ := I.hok p _ hk
      refine ⟨⟨o, e, ex.1⟩, fun a e2 => ?_⟩
      cases e2
      exact ⟨o, e, ex.2.1⟩
  | _ => exact False.elim ty
def tBM (K : PySem.W.Frag) (T : String) (r : V → List V → Hp → VK → Prop) (to : TE) (t : TA) : TE := fun σ H Q => to σ H fun x H1 => tyV K T x H1 ∧ t σ H1 fun xs H2 => r x xs H2 Q
variable {o e : Expr} {es : List Expr} {to : TE} {t : TA} {name : Str} {apos cpos : Pos} {T id : String} {r : V → List V → Hp → VK → Prop}
theorem pe_bm (pa : PlainAttrs T) (slot : Slot T name id) (hty : typeOf (.builtin id) = pure (.type "method_descriptor")) (hm : MtR X id r) (ho : PE X o to) (ha : PA X (e :: es) t)
    (hbase : attributeBase o name X.env (eval o X.env) = eval o X.env := by rfl)
    (hfew : ((backTo cpos (starEach (e :: es) X.env)).all (fun x => !x.1) && (backToKw cpos (keywordEach [] X.env)).all (fun x => x.1.isSome)
      && decide ((e :: es).length + ([] : List Keyword).length + (if ([] : List Keyword).isEmpty then 0 else 1) < 30)) = true := by rfl)
    (hline : (apos.endLine == cpos.line) = true := by rfl) (hs : starEach (e :: es) X.env = (false, eval e X.env) :: starEach es X.env := by rfl) (hplain : (backTo cpos (starEach es X.env)).any (·.1) = false := by rfl) :
    PE X (.Call (.Attribute o name apos) (e :: es) [] cpos) (tBM X.K T r to t) := by
  intro pins s σ H Q I h
  refine wpAny_Call_method_late hbase hfew hline rfl (thn (ho pins s σ H _ I h) fun v s1 ⟨x, H1, I1, r1, ty, q1⟩ => ?_)
  obtain ⟨h1, h2⟩ := tyV_is I1 r1 ty
  refine ⟨T, id, pa, slot, hty, h1, h2, ?_⟩
  have hA := ha cpos pins s1 σ H1 _ I1 q1
  rw [hs] at hA ⊢
  refine Calls.callWith_builtin (by show (false || (backTo cpos (starEach es X.env)).any (·.1)) = false; rw [hplain] <;> rfl) (Calls.evalArgs_plain ?_)
  exact thn hA fun us s2 ⟨vs, H2, I2, r2, q2⟩ => hm pins s2 σ H2 x vs v us Q I2 r1 r2 q2
/- xs.append(e), list.index on a module's tuple .. are MtR facts of 06m -/
end
end L2

namespace L2
open PySem PySem.Spec PyProof.Rows

def MtM (X : Cx) (id : String) (r : V → List V → Hp → VK → Prop) : Prop :=
  ∀ (pins : List (Addr × Obj)) (s : Shared) (σ : St) (H : Hp) (x : V) (xs : List V) (v : Value) (us : List Value) (Q : VK), Inv X pins σ H s → RelV x v → Vals xs us → r x xs H Q →
    wpAny (model X.prog X.w) X.A (call (.builtin id) (v :: us)) (EP X pins σ Q) X.xe s

/-! ### lists of values -/
theorem Vals.one : ∀ {x : V} {us : List Value}, Vals [x] us → ∃ u, us = [u] ∧ RelV x u
  | _, _, .cons r .nil => ⟨_, rfl, r⟩
theorem Vals.two : ∀ {x y : V} {us : List Value}, Vals [x, y] us → ∃ u v, us = [u, v] ∧ RelV x u ∧ RelV y v
  | _, _, _, .cons r (.cons q .nil) => ⟨_, _, rfl, r, q⟩
theorem Vals.zero : ∀ {us : List Value}, Vals [] us → us = []
  | _, .nil => rfl
theorem Vals.eraseIdx : ∀ {xs : List V} {us : List Value} (i : Nat), Vals xs us → Vals (xs.eraseIdx i) (us.eraseIdx i)
  | _, _, _, .nil => .nil
  | _, _, 0, .cons _ t => t
  | _, _, i + 1, .cons r t => .cons r (Vals.eraseIdx i t)
theorem len_erase {α : Type} : ∀ (l : List α) (i : Nat), (l.eraseIdx i).length ≤ l.length
  | [], _ => Nat.le_refl _
  | _ :: _, 0 => Nat.le_succ _
  | _ :: r, i + 1 => Nat.succ_le_succ (len_erase r i)
section
variable {X : Cx} {pins : List (Addr × Obj)} {σ : St} {H : Hp} {s : Shared} {l b : Addr} {xs ys zs : List V}

/-! ### the two steps: a tracked list is rewritten, a new list is laid -/
theorem Inv.lset {its its' : List Value} {n : Nat} {f : Array Value → Array Value} {t' : Nat} (I : Inv X pins σ H s) (hH : H l = some (.lst xs))
    (e : s.heap.get? l = some { cls := .type "list", data := .seq its.toArray n }) (hf : f its.toArray = its'.toArray) (hv : Vals ys its') (hz : ys.length ≤ sizeLine) :
    Inv X pins σ (upd H l (.lst ys)) { s with heap := s.heap.update l (Obj.mapSeq f), toks := t' } := by
  have q := PySem.IsL.update e f
  rw [hf] at q
  refine I.write (x := l) (e := l) (by rw [hH]; exact trivial) (.inl rfl) (fun b' u hb hu => (Heap.get?_update_other s.heap (Obj.mapSeq f) (Ne.symm hb)).trans hu) ⟨_, q⟩ ?_
  exact ⟨hz, its', _, hv, q⟩
theorem Inv.lnew {its : List Value} {t' : Nat} (I : Inv X pins σ H s) (hv : Vals ys its) (hz : ys.length ≤ sizeLine) :
    Inv X pins σ (upd H s.heap.objs.size (.lst ys)) { s with heap := s.heap.push { cls := .type "list", data := .seq its.toArray }, toks := t' } :=
  I.laid (fun _ _ q => Heap.get?_push_of_some _ q) (Nat.le_refl _) ⟨hz, its, 0, hv, Heap.get?_push_size _ rfl⟩
theorem Inv.fresh (I : Inv X pins σ H s) : H s.heap.objs.size = none := I.hok.fresh (Nat.le_refl _)
theorem Inv.lstM (I : Inv X pins σ H s) (hH : H l = some (.lst xs)) : xs.length ≤ sizeLine ∧ ∃ (its : List Value) (n : Nat), Vals xs its ∧ xs.length = its.length ∧ s.heap.get? l = some { cls := .type "list", data := .seq its.toArray n } := by
  obtain ⟨z, its, n, r, e⟩ := I.hok l _ hH
  exact ⟨z, its, n, r, r.length, e⟩

theorem notLongL {n : Nat} (h : n ≤ sizeLine) : Builtin.List.listTooLong n = false := by
  unfold Builtin.List.listTooLong
  exact decide_eq_false (by omega)
end

section
variable {X : Cx}

/-! ### methods -/
def rAppend : V → List V → Hp → VK → Prop := fun x vs H Q => ∃ l xs y, x = .ref l ∧ vs = [y] ∧ H l = some (.lst xs) ∧ xs.length < sizeLine ∧ Q .non (upd H l (.lst (xs ++ [y])))
theorem mt_append : MtM X "list.append" rAppend := by
  intro pins s σ H x vs v us Q I rx rv h
  obtain ⟨l, xs, y, rfl, rfl, hH, hz, q⟩ := h
  cases rx
  obtain ⟨u, rfl, ru⟩ := rv.one
  obtain ⟨z, its, n, r, hl, e⟩ := I.lstM hH
  refine call_meets F.slot_list_append ⟨_, e, rfl⟩ F.entry_list_append (F.args_list_append_2 _ _) (PySem.list_append l its.toArray n u (by rw [List.size_toArray]; omega)) ⟨e, ?_⟩
  refine ⟨.non, _, I.lset (its' := its ++ [u]) hH e (by simp) (r.append (.cons ru .nil)) ?_, rfl, q⟩
  rw [List.length_append, List.length_singleton]
  omega

def rExtend : V → List V → Hp → VK → Prop := fun x vs H Q => ∃ l b xs zs, x = .ref l ∧ vs = [.ref b] ∧ H l = some (.lst xs) ∧ H b = some (.lst zs) ∧ xs.length + zs.length ≤ sizeLine ∧ Q .non (upd H l (.lst (xs ++ zs)))
theorem mt_extend : MtM X "list.extend" rExtend := by
  intro pins s σ H x vs v us Q I rx rv h
  obtain ⟨l, b, xs, zs, rfl, rfl, hH, hB, hz, q⟩ := h
  cases rx
  obtain ⟨u, rfl, ru⟩ := rv.one
  cases ru
  obtain ⟨z, its, n, r, hl, e⟩ := I.lstM hH
  obtain ⟨z2, its2, n2, r2, hl2, e2⟩ := I.lstM hB
  have hsz : its.toArray.size + its2.toArray.size ≤ sizeLine := by rw [List.size_toArray, List.size_toArray]; omega
  have hlong : ¬ (!its.toArray.isEmpty && Builtin.List.listTooLong (its.toArray.size + its2.toArray.size)) = true := by
    rw [notLongL hsz, Bool.and_false]
    exact Bool.false_ne_true
  refine call_meets F.slot_list_extend ⟨_, e, rfl⟩ F.entry_list_extend (F.args_list_extend_2 _ _)
    (AutoSeq1.list_extend_list_list_0 l its.toArray n b its2.toArray n2 hlong (by rw [List.size_toArray]; omega) (by omega)) ⟨e, e2, ?_⟩
  refine ⟨.non, _, I.lset (its' := its ++ its2) hH e (by simp) (r.append r2) ?_, rfl, q⟩
  rw [List.length_append]
  omega

def rPopAt : V → List V → Hp → VK → Prop := fun x vs H Q => ∃ l xs i k y, x = .ref l ∧ vs = [.int i] ∧ H l = some (.lst xs) ∧ -(2 ^ 63) ≤ i ∧ i < 2 ^ 63 ∧ seqIndex? i xs.length = some k ∧ xs[k]? = some y ∧ Q y (upd H l (.lst (xs.eraseIdx k)))
theorem mt_popAt : MtM X "list.pop" rPopAt := by
  intro pins s σ H x vs v us Q I rx rv h
  obtain ⟨l, xs, i, k, y, rfl, rfl, hH, h1, h2, hk, hy, q⟩ := h
  cases rx
  obtain ⟨u, rfl, ru⟩ := rv.one
  obtain ⟨t, rfl⟩ := ru
  obtain ⟨z, its, n, r, hl, e⟩ := I.lstM hH
  obtain ⟨w, hw, rw'⟩ := r.get hy
  refine call_meets F.slot_list_pop ⟨_, e, rfl⟩ F.entry_list_pop (F.args_list_pop_2 _ _)
    (MeetsSeq.list_pop_at l its.toArray n i t k w (fitsIndex_both h1 h2) (by rw [List.size_toArray, ← hl]; exact hk) (by rw [← Array.getElem?_toList]; exact hw) (by rw [List.size_toArray]; omega)) ⟨e, ?_⟩
  refine ⟨y, _, I.lset (its' := its.eraseIdx k) hH e ?_ (r.eraseIdx k) ?_, rw', q⟩
  · show its.toArray.eraseIdxIfInBounds k = (its.eraseIdx k).toArray
    rw [List.eraseIdxIfInBounds_toArray]
  · have := len_erase xs k
    omega

/-! ### list + list, list += list, list * int -/
def rCat : R2 := fun x y H Q => ∃ l b xs zs, x = .ref l ∧ y = .ref b ∧ H l = some (.lst xs) ∧ H b = some (.lst zs) ∧ xs.length + zs.length ≤ sizeLine ∧ ∀ p, H p = none → Q (.ref p) (upd H p (.lst (xs ++ zs)))
theorem op_cat : OpR X (binaryOp .Add) rCat := by
  intro pins s σ H x y v u Q I rx ry h
  obtain ⟨l, b, xs, zs, rfl, rfl, hH, hB, hz, q⟩ := h
  cases rx
  cases ry
  obtain ⟨z, its, n, r, hl, e⟩ := I.lstM hH
  obtain ⟨z2, its2, n2, r2, hl2, e2⟩ := I.lstM hB
  refine PySem.P.add_list e e2 ?_ (by rw [List.size_toArray, List.size_toArray]; omega)
  have ea : its.toArray ++ its2.toArray = (its ++ its2).toArray := by simp
  rw [ea]
  exact ⟨.ref _, _, I.lnew (t' := s.toks) (r.append r2) (by rw [List.length_append]; omega), rfl, q _ I.fresh⟩
/-! ### del xs[i] -/
end

/-! ### xs[a:b] = ys -/
section
variable {prog : Program} {w : World} {A : Around} {E : Value → Shared → Prop} {s : Shared}
set_option maxRecDepth 100000 in
end

section
variable {X : Cx}
end
end L2

namespace L2
open PySem PySem.Spec PyProof.Rows

theorem Vals.ints : ∀ {ns : List Int} {us : List Value}, Vals (ns.map V.int) us → IntsAre us ns
  | [], us, h => by
    rw [List.map_nil] at h
    cases h
    exact IntsAre.nil
  | n :: ns, us, h => by
    rw [List.map_cons] at h
    cases h with
    | cons r t =>
      obtain ⟨k, rfl⟩ := r
      exact IntsAre.cons n k (Vals.ints t)
theorem Vals.strs : ∀ {xs : List Str} {us : List Value}, Vals (xs.map V.str) us → StrsAre us xs
  | [], us, h => by
    rw [List.map_nil] at h
    cases h
    exact StrsAre.nil
  | x :: xs, us, h => by
    rw [List.map_cons] at h
    cases h with
    | cons r t =>
      obtain ⟨k, rfl⟩ := r
      exact StrsAre.cons x k (Vals.strs t)
/-! ### the library's walks over a list of ints, kept objects alone -/
section
variable {prog : Program} {w : World} {A : Around} {E : Value → Shared → Prop} {s : Shared} {l : Addr} {its : List Value} {ns : List Int} {Q : Value → Shared → Prop}
end

/-! ### the calls, by values (CallR of 03t; MtR of 06l) -/
section
variable {X : Cx}
/-! sorted, sort (fewer than 64 items: the library's own bound) -/
end

/-! ### list.index, flat items -/
section
variable {X : Cx}
end

/-! ### type(x) of an own instance; is, is not of a module's class -/
section
variable {X : Cx}
end

/-! ### any(xs), all(xs) of a list of bools -/
section
variable {X : Cx}
end

/-! ### == and != of data at any depth: none, bools, ints, texts, lists, tuples -/
mutual
inductive Dp (K : PySem.W.Frag) (H : Hp) : V → PyData → Prop
  | non : Dp K H .non .none
  | bl (b : Bool) : Dp K H (.bl b) (.bool b)
  | int (i : Int) : Dp K H (.int i) (.int i)
  | str (x : Str) : Dp K H (.str x) (.str x)
  | lst {a : Addr} {xs : List V} {ds : List PyData} : SqL K H a xs → DpAll K H xs ds → Dp K H (.ref a) (.list ds)
  | tup {a : Addr} {xs : List V} {ds : List PyData} : SqT K H a xs → DpAll K H xs ds → Dp K H (.ref a) (.tuple ds)
inductive DpAll (K : PySem.W.Frag) (H : Hp) : List V → List PyData → Prop
  | nil : DpAll K H [] []
  | cons {v : V} {vs : List V} {d : PyData} {ds : List PyData} : Dp K H v d → DpAll K H vs ds → DpAll K H (v :: vs) (d :: ds)
end
section
variable {X : Cx} {pins : List (Addr × Obj)} {σ : St} {H : Hp} {s : Shared}
mutual
theorem Dp.reads (I : Inv X pins σ H s) : ∀ (d : PyData) (v : V) (u : Value), Dp X.K H v d → RelV v u → ∃ as, Reads s.heap u d as
  | .none, _, _, h, r => by
    cases h
    cases r
    exact ⟨_, Reads.none⟩
  | .bool b, _, _, h, r => by
    cases h
    cases r
    exact ⟨_, Reads.bool b⟩
  | .int i, _, _, h, r => by
    cases h
    obtain ⟨t, rfl⟩ := r
    exact ⟨_, Reads.int i t⟩
  | .str x, _, _, h, r => by
    cases h
    obtain ⟨t, rfl⟩ := r
    exact ⟨_, Reads.str x t⟩
  | .list ds, _, _, h, r => by
    cases h with
    | lst hs ha =>
      cases r
      obtain ⟨its, rv, ⟨o, n, ho, hc, _, hd⟩, _⟩ := I.list hs
      obtain ⟨as, hr⟩ := Dp.readsAll I ds _ its ha rv
      exact ⟨_, Reads.list ho hc hd hr⟩
  | .tuple ds, _, _, h, r => by
    cases h with
    | tup hs ha =>
      cases r
      obtain ⟨its, rv, ⟨o, ho, hc, n, hd⟩, _⟩ := I.tuple hs
      obtain ⟨as, hr⟩ := Dp.readsAll I ds _ its ha rv
      exact ⟨_, Reads.tuple ho hc hd hr⟩
  | .dict _, _, _, h, _ => by cases h
theorem Dp.readsAll (I : Inv X pins σ H s) : ∀ (ds : List PyData) (vs : List V) (us : List Value), DpAll X.K H vs ds → Vals vs us → ∃ as, ReadsAll s.heap us ds as
  | [], _, _, h, r => by
    cases h
    cases r
    exact ⟨_, ReadsAll.nil⟩
  | d :: ds, _, _, h, r => by
    cases h with
    | cons h1 h2 =>
      cases r with
      | cons r1 r2 =>
        obtain ⟨as, q1⟩ := Dp.reads I d _ _ h1 r1
        obtain ⟨bs, q2⟩ := Dp.readsAll I ds _ _ h2 r2
        exact ⟨_, ReadsAll.cons q1 q2⟩
end
end
section
variable {X : Cx}
end
end L2

namespace L2
open PySem PySem.Spec PyProof.Rows
abbrev CellAt (h : Heap) (c : Addr) (v : Option Value) : Prop := h.IsCell c v
def relS (scope sc : Scope) : Scope :=
  { scope with names := scope.names.map fun (n, k) => if (k == .free && sc.kind == .function && sc.names.lookup n == some .cell) then (n, .cell) else (n, k) }

def cloFrom (cells : List (Str × Addr)) : List (Str × NameKind) → List (Str × Addr) → List (Str × Addr)
  | [], acc => acc
  | (n, k) :: r, acc => if k == .free then cloFrom cells r ((n, (cells.lookup n).getD 0) :: acc) else cloFrom cells r acc

theorem closure_loop (env : Env) (f : Str × NameKind → List (Str × Addr) → Sem (ForInStep (List (Str × Addr))))
    (hf : ∀ n k c, f (n, k) c = if k == .free then (do let a ← cellOf env n; pure (.yield ((n, a) :: c))) else pure (.yield c)) :
    ∀ (names : List (Str × NameKind)) (acc : List (Str × Addr)), (∀ y ∈ names, y.2 = .free → ∃ c, env.cells.lookup y.1 = some c) → forIn names acc f = pure (cloFrom env.cells names acc)
  | [], acc, _ => by rw [List.forIn_nil]; rfl
  | (n, k) :: r, acc, h => by
    rw [List.forIn_cons, hf]
    have ih := fun acc => closure_loop env f hf r acc fun y hy => h y (List.mem_cons_of_mem _ hy)
    unfold cloFrom
    by_cases hk : (k == NameKind.free) = true
    · rw [if_pos hk, if_pos hk]
      obtain ⟨c, hc⟩ := h (n, k) List.mem_cons_self (by simpa using hk)
      have e : cellOf env n = pure c := by unfold cellOf; rw [hc]
      rw [e]
      have e2 : (env.cells.lookup n).getD 0 = c := by rw [hc]; rfl
      rw [e2]
      exact ih _
    · rw [if_neg hk, if_neg hk]
      exact ih _
theorem closure_ok {scope : Scope} {env : Env} (h : ∀ y ∈ scope.names, y.2 = .free → ∃ c, env.cells.lookup y.1 = some c) : closureFor scope env = pure (cloFrom env.cells scope.names []) := by
  simp only [closureFor]
  rw [closure_loop env _ (fun n k c => rfl) scope.names [] h]
  rfl

theorem mem_lookup {α : Type} : ∀ {l : List (Str × α)} {n : Str} {c : α}, (n, c) ∈ l → ∃ c', l.lookup n = some c'
  | (k, v) :: r, n, c, h => by
    rw [List.lookup_cons]
    cases hb : n == k with
    | true => exact ⟨_, rfl⟩
    | false =>
      rcases List.mem_cons.mp h with e | h
      · cases e; simp at hb
      · exact mem_lookup h

theorem cloFrom_mem {cells : List (Str × Addr)} : ∀ {names : List (Str × NameKind)} {acc : List (Str × Addr)} {n : Str} {c : Addr}, (n, c) ∈ cloFrom cells names acc → (n, c) ∈ acc ∨ ((n, .free) ∈ names ∧ c = (cells.lookup n).getD 0)
  | [], _, _, _, h => .inl h
  | (m, k) :: r, acc, n, c, h => by
    unfold cloFrom at h
    split at h
    · rename_i hk
      have hk : k = .free := by simpa using hk
      rcases cloFrom_mem h with h | ⟨h1, h2⟩
      · rcases List.mem_cons.mp h with e | h
        · cases e; exact .inr ⟨hk ▸ List.mem_cons_self, rfl⟩
        · exact .inl h
      · exact .inr ⟨List.mem_cons_of_mem _ h1, h2⟩
    · rcases cloFrom_mem h with h | ⟨h1, h2⟩
      · exact .inl h
      · exact .inr ⟨List.mem_cons_of_mem _ h1, h2⟩
theorem cloFrom_acc {cells : List (Str × Addr)} : ∀ {names : List (Str × NameKind)} {acc : List (Str × Addr)} {p : Str × Addr}, p ∈ acc → p ∈ cloFrom cells names acc
  | [], _, _, h => h
  | (m, k) :: r, acc, p, h => by
    unfold cloFrom
    split
    · exact cloFrom_acc (List.mem_cons_of_mem _ h)
    · exact cloFrom_acc h
theorem cloFrom_has {cells : List (Str × Addr)} : ∀ {names : List (Str × NameKind)} {acc : List (Str × Addr)} {n : Str}, (n, .free) ∈ names → (n, (cells.lookup n).getD 0) ∈ cloFrom cells names acc
  | (m, k) :: r, acc, n, h => by
    unfold cloFrom
    rcases List.mem_cons.mp h with e | h
    · cases e
      exact cloFrom_acc List.mem_cons_self
    · split
      · exact cloFrom_has h
      · exact cloFrom_has h

theorem cells_mem : ∀ {names : List (Str × NameKind)} {h : Heap} {acc : List (Str × Addr)} {x : Str} {c : Addr}, (x, c) ∈ cellsFrom h.objs.size names acc →
    (x, c) ∈ acc ∨ ((x, .cell) ∈ names ∧ h.objs.size ≤ c ∧ CellAt (pushCells h names) c none)
  | [], _, _, _, _, h => .inl h
  | (n, k) :: r, h, acc, x, c, hm => by
    unfold cellsFrom at hm
    unfold pushCells
    split at hm
    · rename_i hk
      rw [if_pos hk]
      have hk : k = .cell := by simpa using hk
      rw [← Heap.size_push h { cls := .type "cell", data := .cell none }] at hm
      rcases cells_mem hm with hm | ⟨h1, h2, h3⟩
      · rcases List.mem_cons.mp hm with e | hm
        · cases e
          exact .inr ⟨hk ▸ List.mem_cons_self, Nat.le_refl _, _, pushCells_keeps r _ _ _ (Heap.get?_push_size _ rfl), rfl⟩
        · exact .inl hm
      · rw [Heap.size_push] at h2
        exact .inr ⟨List.mem_cons_of_mem _ h1, Nat.le_of_succ_le h2, h3⟩
    · rename_i hk
      rw [if_neg hk]
      rcases cells_mem hm with hm | ⟨h1, h2, h3⟩
      · exact .inl hm
      · exact .inr ⟨List.mem_cons_of_mem _ h1, h2, h3⟩
theorem cells_acc : ∀ {names : List (Str × NameKind)} {n : Nat} {acc : List (Str × Addr)} {p : Str × Addr}, p ∈ acc → p ∈ cellsFrom n names acc
  | [], _, _, _, h => h
  | (m, k) :: r, n, acc, p, h => by
    unfold cellsFrom
    split
    · exact cells_acc (List.mem_cons_of_mem _ h)
    · exact cells_acc h
theorem cells_has : ∀ {names : List (Str × NameKind)} {n : Nat} {acc : List (Str × Addr)} {x : Str}, (x, .cell) ∈ names → ∃ c, (x, c) ∈ cellsFrom n names acc
  | (m, k) :: r, n, acc, x, h => by
    unfold cellsFrom
    rcases List.mem_cons.mp h with e | h
    · cases e
      exact ⟨n, cells_acc List.mem_cons_self⟩
    · split
      · exact cells_has h
      · exact cells_has h
theorem cells_inj : ∀ {names : List (Str × NameKind)} {h : Heap} {acc : List (Str × Addr)} {x y : Str} {c : Addr}, (∀ p ∈ acc, p.2 < h.objs.size) → (∀ x y c, (x, c) ∈ acc → (y, c) ∈ acc → x = y) →
    (x, c) ∈ cellsFrom h.objs.size names acc → (y, c) ∈ cellsFrom h.objs.size names acc → x = y
  | [], _, _, _, _, _, _, hi, h1, h2 => hi _ _ _ h1 h2
  | (n, k) :: r, h, acc, x, y, c, hl, hi, h1, h2 => by
    unfold cellsFrom at h1 h2
    split at h1
    · rename_i hk
      rw [if_pos hk] at h2
      rw [← Heap.size_push h { cls := .type "cell", data := .cell none }] at h1 h2
      refine cells_inj (h := h.push _) (fun p hp => ?_) (fun x y c a b => ?_) h1 h2
      · rw [Heap.size_push]
        rcases List.mem_cons.mp hp with rfl | hp
        · exact Nat.lt_succ_self _
        · exact Nat.lt_succ_of_lt (hl p hp)
      · rcases List.mem_cons.mp a with e | a <;> rcases List.mem_cons.mp b with e' | b
        · cases e; cases e'; rfl
        · cases e; exact absurd (hl _ b) (Nat.lt_irrefl _)
        · cases e'; exact absurd (hl _ a) (Nat.lt_irrefl _)
        · exact hi _ _ _ a b
    · rename_i hk
      rw [if_neg hk] at h2
      exact cells_inj hl hi h1 h2

theorem newEnv_comp {M : Model} {A : Around} {E : Value → Shared → Prop} {s : Shared} {scope : Scope} {globals : Addr} {closure : List (Str × Addr)} {qual : Str} {func : Option Addr} {code : Value} {around : Env} {builtins : Addr} {Q : Env → Shared → Prop}
    (h : Q (newEnv scope s.heap.objs.size globals (cellsFrom (s.heap.objs.size + 1) scope.names closure) qual func code (some around) builtins)
      { s with heap := pushCells (s.heap.push { cls := .type "dict", data := .dict #[] }) scope.names }) :
    wpAny M A (newFunctionEnv scope globals closure [] qual func code (some around) builtins) Q E s := by
  simp only [newFunctionEnv, Option.isSome_some, if_true]
  refine wpAny_bind (wpAny_alloc ?_)
  refine wpAny_bind (wpAny_layCells _ (fun n k c => rfl) scope.names closure _ _ ?_)
  rw [show ({ s with heap := s.heap.push { cls := .type "dict", data := .dict #[] } } : Shared).heap.objs.size = s.heap.objs.size + 1 from Heap.size_push ..]
  rw [List.forIn_nil]
  exact wpAny_bind (wpAny_pure (wpAny_pure h))

/-- every name of the written scope, in the scope that runs -/
theorem lookup_relS {sc : Scope} : ∀ {names : List (Str × NameKind)} {x : Str} {k : NameKind},
    (names.map fun (n, k) => if (k == NameKind.free && sc.kind == .function && sc.names.lookup n == some .cell) then (n, NameKind.cell) else (n, k)).lookup x = some k →
    ∃ k', names.lookup x = some k' ∧ (k = k' ∨ (k' = .free ∧ k = .cell))
  | [], _, _, h => by simp at h
  | (n, k₀) :: r, x, k, h => by
    have ih := @lookup_relS sc r x k
    have h' : List.lookup x ((if (k₀ == NameKind.free && sc.kind == .function && sc.names.lookup n == some .cell) = true then (n, NameKind.cell) else (n, k₀)) :: (r.map _)) = some k := h
    cases hx : x == n with
    | true =>
      simp only [List.lookup_cons, hx]
      by_cases hc : (k₀ == NameKind.free && sc.kind == .function && sc.names.lookup n == some .cell) = true
      · rw [if_pos hc] at h'
        simp only [List.lookup_cons, hx] at h'
        cases h'
        simp only [Bool.and_eq_true, beq_iff_eq] at hc
        exact ⟨k₀, rfl, .inr ⟨hc.1.1, rfl⟩⟩
      · rw [if_neg hc] at h'
        simp only [List.lookup_cons, hx] at h'
        cases h'
        exact ⟨_, rfl, .inl rfl⟩
    | false =>
      simp only [List.lookup_cons, hx]
      by_cases hc : (k₀ == NameKind.free && sc.kind == .function && sc.names.lookup n == some .cell) = true
      · rw [if_pos hc] at h'
        simp only [List.lookup_cons, hx] at h'
        exact ih h'
      · rw [if_neg hc] at h'
        simp only [List.lookup_cons, hx] at h'
        exact ih h'
/-- the names of a comprehension's block: its own (with their places in N), or captured -/
structure BlkOk (N : List Str) (sc scope : Scope) (own : List (Str × Nat)) : Prop where
  kind : scope.kind = .function
  uniq : ∀ y ∈ scope.names, scope.names.lookup y.1 = some y.2
  ix : ∀ p ∈ own, N[p.2]? = some p.1
  free : ∀ y ∈ scope.names, y.2 = .free → sc.names.lookup y.1 = some .cell ∨ sc.names.lookup y.1 = some .free
  own : ∀ y ∈ scope.names, y.2 = .local ∨ y.2 = .cell → y.1 ∈ own.map (·.1) ∨ y.1 ∉ N
/-- the slots of the block's own names forgotten -/
def wipe (σ : St) : List Nat → St
  | [] => σ
  | v :: vs => (wipe σ vs).set v none
theorem wipe_length (σ : St) : ∀ vs : List Nat, (wipe σ vs).length = σ.length
  | [] => rfl
  | v :: vs => by unfold wipe; rw [List.length_set, wipe_length σ vs]
theorem wipe_some {σ : St} {i : Nat} {x : V} : ∀ {vs : List Nat}, (wipe σ vs)[i]? = some (some x) → σ[i]? = some (some x) ∧ i ∉ vs
  | [], h => ⟨h, by simp⟩
  | v :: vs, h => by
    unfold wipe at h
    by_cases hi : v = i
    · subst hi
      by_cases hv : v < (wipe σ vs).length
      · rw [List.getElem?_set_self hv] at h; cases h
      · rw [List.getElem?_eq_none (by simpa using hv)] at h; cases h
    · rw [List.getElem?_set_ne hi] at h
      obtain ⟨h1, h2⟩ := wipe_some h
      exact ⟨h1, by simp only [List.mem_cons, not_or]; exact ⟨fun e => hi e.symm, h2⟩⟩

/-- the context of a block that starts at s, its iterator's objects at fp -/
abbrev Cx.blk (X : Cx) (s : Shared) (H : Hp) (scope : Scope) (cenv : Env) (fp : List Addr) : Cx := { X with s_0 := s, H_0 := H, env := cenv, outer := X.stack, ex := fp, fn := fun x => scope.names.lookup x == some .cell, pn := [], xe := fun _ _ => False }
section
variable {X : Cx} {pins : List (Addr × Obj)} {σ : St} {H : Hp} {s : Shared}
theorem block_start {scope : Scope} {own : List (Str × Nat)} {fp : List Addr} (I : Inv X pins σ H s) (ok : BlkOk X.N X.env.scope scope own) (hN : X.N.Nodup) (hfp : ∀ b ∈ fp, FpOk X pins H b ∧ b < s.heap.objs.size) :
    Inv (X.blk s H scope (compEnvC scope (cellsFrom (s.heap.objs.size + 1) scope.names (cloFrom X.env.cells scope.names [])) s.heap.objs.size X.env) fp) [] (wipe σ (own.map (·.2))) H { s with heap := pushCells (s.heap.push { cls := .type "dict", data := .dict #[] }) scope.names } := by
  have hfree : ∀ y ∈ scope.names, y.2 = .free → ∃ c, X.env.cells.lookup y.1 = some c := fun y hy e => by
    rcases ok.free y hy e with k | k
    · exact I.ok.has _ (.inl k)
    · exact I.ok.has _ (.inr k)
  generalize hcenv : compEnvC scope (cellsFrom (s.heap.objs.size + 1) scope.names (cloFrom X.env.cells scope.names [])) s.heap.objs.size X.env = cenv
  have kp : ∀ b o, s.heap.get? b = some o → (pushCells (s.heap.push { cls := .type "dict", data := .dict #[] }) scope.names).get? b = some o := fun b o e => pushCells_keeps _ _ _ _ (Heap.get?_push_of_some _ e)
  have hL : cenv.locals = s.heap.objs.size := by rw [← hcenv]; rfl
  have hcl : cenv.cells = cellsFrom (s.heap.objs.size + 1) scope.names (cloFrom X.env.cells scope.names []) := by rw [← hcenv]; rfl
  have hsc : cenv.scope = relS scope X.env.scope := by rw [← hcenv]; rfl
  rw [← Heap.size_push s.heap { cls := .type "dict", data := .dict #[] }] at hcl
  have cm : ∀ {y c}, (y, c) ∈ cloFrom X.env.cells scope.names [] → X.env.cells.lookup y = some c ∧ c < s.heap.objs.size := fun {y c} hm => by
    rcases cloFrom_mem hm with hm | ⟨h1, rfl⟩
    · cases hm
    · obtain ⟨c, hc⟩ := hfree _ h1 rfl
      rw [hc]
      obtain ⟨w, z⟩ := I.cell _ _ hc
      exact ⟨rfl, z.lt⟩
  have mem : ∀ {y c}, cenv.cells.lookup y = some c → (X.env.cells.lookup y = some c ∧ c < s.heap.objs.size) ∨ (s.heap.objs.size + 1 ≤ c ∧ CellAt (pushCells (s.heap.push { cls := .type "dict", data := .dict #[] }) scope.names) c none) := fun {y c} e => by
    rw [hcl] at e
    rcases cells_mem (PySem.mem_of_lookup e) with hm | ⟨_, h2, h3⟩
    · exact .inl (cm hm)
    · rw [Heap.size_push] at h2; exact .inr ⟨h2, h3⟩
  have look : ∀ {y}, scope.names.lookup y = some .free → ∃ c, cenv.cells.lookup y = some c ∧ X.env.cells.lookup y = some c := fun {y} hl => by
    have hy : (y, NameKind.free) ∈ scope.names := PySem.mem_of_lookup hl
    obtain ⟨c', e'⟩ := mem_lookup (cells_acc (names := scope.names) (n := (s.heap.push { cls := .type "dict", data := .dict #[] }).objs.size) (cloFrom_has (cells := X.env.cells) (acc := []) hy))
    rw [← hcl] at e'
    refine ⟨c', e', ?_⟩
    rw [hcl] at e'
    rcases cells_mem (PySem.mem_of_lookup e') with hm | ⟨h1, _, _⟩
    · exact (cm hm).1
    · have := ok.uniq _ h1
      rw [hl] at this; cases this
  have okB : (X.blk s H scope cenv fp).Ok := by
    refine ⟨I.ok.mod, by show cenv.scope.kind = _; rw [hsc]; exact ok.kind, by show cenv.globals = _; rw [← hcenv]; exact I.ok.glob, by show cenv.builtins = _; rw [← hcenv]; exact I.ok.blt, by show s.heap.objs.size ≤ cenv.locals; rw [hL]; exact Nat.le_refl _,
      fun y z c e1 e2 => ?_, fun y hy => ?_, fun y c z e => ?_, I.ok.hd, I.ok.frames, .inl rfl, fun b hb => ⟨?_, fun y c e z => ?_⟩, I.bs, Nat.le_trans I.ok.bsz I.sz, fun b o e hb => ?_, fun b hb z => ?_, I.stack, I.stkFree⟩
    · have e1 : cenv.cells.lookup y = some c := e1
      have e2 : cenv.cells.lookup z = some c := e2
      rw [hcl] at e1 e2
      refine cells_inj (fun p hp => ?_) (fun y z c a b => I.ok.inj y z c (cm a).1 (cm b).1) (PySem.mem_of_lookup e1) (PySem.mem_of_lookup e2)
      rw [Heap.size_push]
      exact Nat.lt_succ_of_lt (cm (y := p.1) (c := p.2) hp).2
    · show ∃ c, cenv.cells.lookup y = some c
      have key : ∀ k, cenv.kindOf y = some k → (k = .cell ∨ k = .free) → ∃ c, cenv.cells.lookup y = some c := fun k hk hk' => by
        unfold Env.kindOf at hk
        rw [hsc] at hk
        obtain ⟨k', e, r⟩ := lookup_relS hk
        have : k' = .cell ∨ k' = .free := by
          rcases r with rfl | ⟨rfl, _⟩
          · exact hk'
          · exact .inr rfl
        rcases this with rfl | rfl
        · obtain ⟨c, hm⟩ := cells_has (n := (s.heap.push { cls := .type "dict", data := .dict #[] }).objs.size) (acc := cloFrom X.env.cells scope.names []) (PySem.mem_of_lookup e)
          obtain ⟨c', e'⟩ := mem_lookup hm
          exact ⟨c', by rw [hcl]; exact e'⟩
        · obtain ⟨c, h1, _⟩ := look e
          exact ⟨c, h1⟩
      rcases hy with hy | hy
      · exact key _ hy (.inl rfl)
      · exact key _ hy (.inr rfl)
    · have z : (scope.names.lookup y == some NameKind.cell) = true := z
      have z : scope.names.lookup y = some .cell := by simpa using z
      have e : cenv.cells.lookup y = some c := e
      rw [hcl] at e
      rcases cells_mem (PySem.mem_of_lookup e) with hm | ⟨_, h2, _⟩
      · rcases cloFrom_mem hm with hm | ⟨h1, _⟩
        · cases hm
        · have q := ok.uniq _ h1
          rw [z] at q; cases q
      · rw [Heap.size_push] at h2
        exact Nat.le_of_succ_le h2
    · show b ≠ cenv.locals
      rw [hL]; exact Nat.ne_of_lt (hfp b hb).2
    · have e : cenv.cells.lookup y = some c := e
      rcases mem e with ⟨h1, _⟩ | ⟨h1, _⟩
      · exact (hfp b hb).1.2.2.2.2.1 y c h1 z
      · have h2 : s.heap.objs.size + 1 ≤ b := by rw [← z]; exact h1
        exact absurd (Nat.lt_of_lt_of_le (hfp b hb).2 (Nat.le_of_succ_le h2)) (Nat.lt_irrefl _)
    · rcases (hfp b hb).1.2.2.2.1 with z | z
      · exact I.ok.noex b o e z
      · exact absurd (Nat.lt_of_lt_of_le (Heap.lt_size e) (Nat.le_trans I.ok.bsz z)) (Nat.lt_irrefl _)
    · rcases List.mem_cons.mp (I.stkSub b z) with z | z
      · exact (hfp b hb).1.2.1 z
      · exact (hfp b hb).1.2.2.1 z
  refine ⟨okB, rfl, I.bare, Un.kept kp, ⟨fun _ => none, ?_, fun i y av e1 e2 e3 => ?_⟩, fun y c e => ?_, ?_, fun y c e => ?_, fun p hp => ?_, I.hok.kept kp, by rw [wipe_length]; exact I.len⟩
  · show Heap.Ns _ cenv.locals _
    rw [hL]
    exact Heap.Ns.keeps (Heap.Ns.new ..) fun b o e => pushCells_keeps _ _ _ _ e
  · obtain ⟨e2, hne⟩ := wipe_some e2
    have hfr : scope.names.lookup y = some .free ∧ (cenv.kindOf y = some .cell ∨ cenv.kindOf y = some .free) := by
      have key : ∀ k, cenv.scope.names.lookup y = some k → k = .local ∨ k = .cell ∨ k = .free → scope.names.lookup y = some .free ∧ (cenv.kindOf y = some .cell ∨ cenv.kindOf y = some .free) := fun k hk hk' => by
        have hk0 := hk
        rw [hsc] at hk
        obtain ⟨k', e, r⟩ := lookup_relS hk
        have no : ¬ (k' = .local ∨ k' = .cell) := fun hh => by
          rcases ok.own _ (PySem.mem_of_lookup e) hh with e' | e'
          · obtain ⟨p, hp, hpy⟩ := List.mem_map.mp e'
            have e3 := ok.ix p hp
            have : p.1 = y := hpy
            rw [this] at e3
            exact hne (List.mem_map.mpr ⟨p, hp, nodup_ix hN e3 e1⟩)
          · exact e' (List.mem_of_getElem? e1)
        rcases r with rfl | ⟨rfl, rfl⟩
        · rcases hk' with rfl | rfl | rfl
          · exact absurd (.inl rfl) no
          · exact absurd (.inr rfl) no
          · exact ⟨e, .inr hk0⟩
        · exact ⟨e, .inl hk0⟩
      have e3 : Vis cenv.scope y := e3
      rcases e3 with e3 | e3 | e3
      · exact key _ e3 (.inl rfl)
      · exact key _ e3 (.inr (.inl rfl))
      · exact key _ e3 (.inr (.inr rfl))
    obtain ⟨m, hn, hl⟩ := I.loc
    have hvis : Vis X.env.scope y := (ok.free _ (PySem.mem_of_lookup hfr.1) rfl).elim (fun k => .inr (.inl k)) (fun k => .inr (.inr k))
    obtain ⟨w, r, q⟩ := hl i y av e1 e2 hvis
    refine ⟨w, r, .inr ⟨hfr.2, ?_⟩⟩
    obtain ⟨c, h1, h2⟩ := look hfr.1
    rcases q with ⟨k, _⟩ | ⟨_, c', e', z⟩
    · have k : X.env.scope.names.lookup y = some .local := k
      rcases ok.free _ (PySem.mem_of_lookup hfr.1) rfl with k' | k' <;> rw [show X.env.scope.names.lookup y = _ from k'] at k <;> cases k
    · rw [h2] at e'; cases e'
      exact ⟨c, h1, z.keeps kp⟩
  · have e : cenv.cells.lookup y = some c := e
    rcases mem e with ⟨h1, _⟩ | ⟨_, z⟩
    · obtain ⟨w, z⟩ := I.cell y c h1
      exact ⟨w, z.keeps kp⟩
    · exact ⟨_, z⟩
  · show H cenv.locals = none
    rw [hL]; exact I.hok.fresh (Nat.le_refl _)
  · have e : cenv.cells.lookup y = some c := e
    rcases mem e with ⟨h1, _⟩ | ⟨h1, _⟩
    · exact I.freeC y c h1
    · exact I.hok.fresh (Nat.le_of_succ_le h1)
  · exact absurd (show p ∈ ([] : List (Addr × Obj)) ++ [] from hp) (by simp)

/-- an item appended to a tracked list -/
theorem app_ok {E : Value → Shared → Prop} {D : Addr} {xs : List V} {y : V} {v : Value} {Q : Value → Shared → Prop} (I : Inv X pins σ H s) (hD : H D = some (.lst xs)) (hz : xs.length < sizeLine) (r : RelV y v)
    (h : ∀ s', Inv X pins σ (upd H D (.lst (xs ++ [y]))) s' → Q .none s') : wpAny (model X.prog X.w) X.A (call (.builtin "list.append") [.ref D, v]) Q E s := by
  obtain ⟨hz', its, n, ri, e⟩ := I.hok D _ hD
  have hl := ri.length
  refine append_at (hsz := by rw [List.size_toArray]; omega) e fun h' sb ho' => ?_
  refine h { s with heap := h' } (I.write (t' := s.toks) (by rw [hD]; trivial) (.inl rfl) (fun b u hb q => (sb.2 b hb).trans q) ⟨_, ho'⟩ ⟨by rw [List.length_append]; exact hz, its ++ [v], n + 1, ri.append (.cons r .nil), ?_⟩)
  rw [ho']
  simp

/-- a clause's tests -/
def PTs (X : Cx) (ifs : List Expr) (t : TT) : Prop :=
  ∀ (pins : List (Addr × Obj)) (s : Shared) (σ : St) (H : Hp) (Q : Bool → Hp → Prop), Inv X pins σ H s → t σ H Q →
    wpAny (model X.prog X.w) X.A (forIn ifs true fun c r => if r = true then do let ok ← isTrue c X.env (eval c X.env); pure (ForInStep.yield ok) else pure (ForInStep.yield r)) (TP X pins σ Q) X.xe s
theorem pts_one {c : Expr} {t : TT} (h : PT X c t) : PTs X [c] t := fun pins s σ H Q I hw => wpAny_tests_one (h pins s σ H Q I hw)
end

theorem thnF {α : Type} {t : Sem α} {Q Q' : α → Shared → Prop} {M : Model} {A : Around} {E : Value → Shared → Prop} {s : Shared} (h : wpAny M A t Q (fun _ _ => False) s) (hQ : ∀ a s, Q a s → Q' a s) : wpAny M A t Q' E s := wpAny_mono h hQ fun _ _ z => False.elim z

/-- the loop of a list comprehension's block, the target of any form (codeAny_compLoop_tests asks a target that no tuple goes to; statement and proof follow it, PyProof/CompMap.lean:41-61, with the step letOwnedTupleGo kept) -/
theorem compLoop_any {prog : Program} {w : World} {A : Around} {R : Result → Shared → Prop} {s : Shared} {elt target iter : Expr} {ifs : List Expr} {scope : Scope} {pos : Pos} {it acc : Value} {env : Env} (I : Nat → Shared → Prop)
    (turn : ∀ n s, I n s → wpAny (model prog w) A (pyNext it) (fun r s₁ => match r with
      | none => R (.ok .next) s₁
      | some v => wpAny (model prog w) A (letOwnedTupleGo target it v) (fun _ s₁' => wpAny (model prog w) A (assign target env v) (fun _ s₂ =>
          wpAny (model prog w) A (forIn ifs true fun c r => if r = true then do let ok ← isTrue c env (eval c env); pure (ForInStep.yield ok) else pure (ForInStep.yield r)) (fun ok s₃ =>
            if ok = true then wpAny (model prog w) A (eval elt env) (fun x s₄ =>
              wpAny (model prog w) A (call (.builtin "list.append") [acc, x]) (fun _ s₅ => ∃ m, m < n ∧ I m s₅) (notedBy (model prog w) A env fun e s' => R (.error e) s') s₄) (notedBy (model prog w) A env fun e s' => R (.error e) s') s₃
            else ∃ m, m < n ∧ I m s₃) (notedBy (model prog w) A env fun e s' => R (.error e) s') s₂) (notedBy (model prog w) A env fun e s' => R (.error e) s') s₁') (notedBy (model prog w) A env fun e s' => R (.error e) s') s₁) (notedBy (model prog w) A env fun e s' => R (.error e) s') s)
    (n : Nat) (h : I n s) :
    codeAny (model prog w) A (.compLoop (.ListComp elt [⟨target, iter, ifs, 0⟩] scope pos) 0 it acc env) R s := by
  refine codeAny_loop rfl I (fun n s hI => ?_) n h
  show wpAny _ A ((compTurn (.ListComp elt [⟨target, iter, ifs, 0⟩] scope pos) 0 it acc env).onRaise (fun x => do noteFrame x env; theTreesLotGoes x)) _ _ s
  refine wpAny_noted ?_
  rw [compTurn_list]
  refine wpAny_bind (wpAny_standAt (wpAny_bind (wpAny_mono (turn n s hI) (fun r s₁ h₁ => ?_) fun _ _ h' => h')))
  cases r with
  | none => exact wpAny_pure h₁
  | some v =>
    refine wpAny_bind (wpAny_mono h₁ (fun _ s₁' h₁' => ?_) fun _ _ h' => h')
    refine wpAny_bind (wpAny_mono h₁' (fun _ s₂ h₂ => wpAny_bind (wpAny_mono h₂ (fun ok s₃ h₃ => ?_) fun _ _ h' => h')) fun _ _ h' => h')
    cases ok with
    | false => exact wpAny_pure ⟨rfl, h₃⟩
    | true =>
      exact wpAny_bind (wpAny_bind (wpAny_mono h₃ (fun x s₄ h₄ => wpAny_bind (wpAny_mono h₄ (fun _ s₅ h₅ => wpAny_pure (wpAny_pure ⟨rfl, h₅⟩)) fun _ _ h' => h')) fun _ _ h' => h'))

section
variable {X : Cx}
/-- [elt for target in iter if ..]: D the new list; W by the turn and a measure, Nx what a turn is to reach -/
def tLc (wi : TI) (g : TG) (tt : TT) (te : TE) (vs : List Nat) : TE := fun σ H Q => wi σ H fun J H1 => ∀ D, H1 D = none → ∃ W : Nat → Nat → Hp → Prop, (∃ m, W 0 m (upd H1 D (.lst []))) ∧ ∀ i m H, W i m H →
  (J.stop i H ∧ Q (.ref D) H) ∨ (J.go i H ∧ ∃ Nx : Hp → Prop, (∀ H', Nx H' → ∃ m', m' < m ∧ W (i + 1) m' H') ∧ ∀ x H', J.yld i H x H' → g x (wipe σ vs) H' fun σ2 H2 => wipe σ2 vs = wipe σ vs ∧ tt σ2 H2 fun b H3 =>
    if b = true then te σ2 H3 fun y H4 => ∃ acc, H4 D = some (.lst acc) ∧ acc.length < sizeLine ∧ Nx (upd H4 D (.lst (acc ++ [y]))) else Nx H3)
theorem lc_core {pins : List (Addr × Obj)} {s : Shared} {σ : St} {H : Hp} {Q : VK} {elt tg iter : Expr} {ifs : List Expr} {scope : Scope} {own : List (Str × Nat)} {pos pos' : Pos} {wi : TI} {g : TG} {tt : TT} {te : TE} {use : Option (Value → Sem Unit)} {Qf : Value → Shared → Prop}
    (hc : X.calm = true) (hN : X.N.Nodup) (I : Inv X pins σ H s) (hi : PI X tg iter wi) (ok : BlkOk X.N X.env.scope scope own)
    (hg : ∀ (s : Shared) (H : Hp) (C : Addr) (cl : List (Str × Addr)) (fp : List Addr), PG (X.blk s H scope (compEnvC scope cl C X.env) fp) tg g) (ht : ∀ (s : Shared) (H : Hp) (C : Addr) (cl : List (Str × Addr)) (fp : List Addr), PTs (X.blk s H scope (compEnvC scope cl C X.env) fp) ifs tt)
    (he : ∀ (s : Shared) (H : Hp) (C : Addr) (cl : List (Str × Addr)) (fp : List Addr), PE (X.blk s H scope (compEnvC scope cl C X.env) fp) elt te) (hs : ∀ x, foldedSetIterable iter X.env x = pure x)
    (h : tLc wi g tt te (own.map (·.2)) σ H Q)
    (hRR : ∀ D C s' m H', Inv X pins σ H' s' → Q (.ref D) H' → s'.heap.Ns C m → FpOk X pins H' C → compPost (model X.prog X.w) X.A X.xe use Qf (.ref D) C (.ok .next) s') :
    wpAny (model X.prog X.w) X.A (comprehension (.ListComp elt [⟨tg, iter, ifs, 0⟩] scope pos) scope X.env pos' (newList []) false (eval iter X.env) use) Qf X.xe s := by
  have hfree : ∀ y ∈ scope.names, y.2 = .free → ∃ c, X.env.cells.lookup y.1 = some c := fun y hy e => by
    rcases ok.free y hy e with k | k
    · exact I.ok.has _ (.inl k)
    · exact I.ok.has _ (.inr k)
  refine wpAny_comprehension_free (use := use) rfl hs (closure_ok hfree) ok.kind (fun y hy e => by rw [ok.uniq y hy, e])
    (thn (hi pins s σ H _ I h) fun xv s1 hx => thn hx fun itv s2 h2 => ?_)
  obtain ⟨it, fp, tn, J, H2, e, I2, T, st2, f2, q⟩ := h2
  subst e
  refine wpAny_newObj_type (newEnv_comp ?_) (by show 0 ≤ sizeLine; decide)
  generalize hD : s2.heap.objs.size = D
  have hDn : H2 D = none := I2.hok.fresh (Nat.le_of_eq hD)
  obtain ⟨W, ⟨m0, w0⟩, turn⟩ := q D hDn
  -- the new list
  generalize hs3 : ({ s2 with heap := s2.heap.push { cls := .type "list", data := .seq ([] : List Value).toArray } } : Shared) = s3
  have I3 : Inv X pins σ (upd H2 D (.lst [])) s3 := by
    rw [← hs3]
    refine I2.laid (t' := s2.toks) (fun b o e => Heap.get?_push_of_some _ e) (Nat.le_of_eq hD) ⟨Nat.zero_le _, [], 0, .nil, ?_⟩
    rw [← hD]
    exact Heap.get?_push_size _ rfl
  have h3 : s3.heap = s2.heap.push { cls := .type "list", data := .seq ([] : List Value).toArray } := by rw [← hs3]
  have sz : ∀ b ∈ fp, b < s2.heap.objs.size := fun b hb => by
    obtain ⟨o, e, _⟩ := T.obj _ _ st2 b hb
    exact Heap.lt_size e
  have f3 : ∀ b ∈ fp, FpOk X pins (upd H2 D (.lst [])) b ∧ b < s3.heap.objs.size := fun b hb => by
    have hlt := sz b hb
    refine ⟨⟨?_, (f2 b hb).2⟩, by rw [h3, Heap.size_push]; exact Nat.lt_succ_of_lt hlt⟩
    rw [upd_ne (by rw [← hD]; exact Nat.ne_of_lt hlt)]
    exact (f2 b hb).1
  have st3 : tn 0 s3.heap := T.keep _ _ _ st2 fun b _ o e => by rw [h3]; exact Heap.get?_push_of_some _ e
  have I4 := block_start I3 ok hN f3
  have pg := hg s3 (upd H2 D (.lst [])) s3.heap.objs.size (cellsFrom (s3.heap.objs.size + 1) scope.names (cloFrom X.env.cells scope.names [])) fp
  have pt := ht s3 (upd H2 D (.lst [])) s3.heap.objs.size (cellsFrom (s3.heap.objs.size + 1) scope.names (cloFrom X.env.cells scope.names [])) fp
  have pe := he s3 (upd H2 D (.lst [])) s3.heap.objs.size (cellsFrom (s3.heap.objs.size + 1) scope.names (cloFrom X.env.cells scope.names [])) fp
  show codeAny _ _ (.compStart (.ListComp elt [⟨tg, iter, ifs, 0⟩] scope pos) 0 (.ref it) (.ref D) (compEnvC scope (cellsFrom (s3.heap.objs.size + 1) scope.names (cloFrom X.env.cells scope.names [])) s3.heap.objs.size X.env)) (compPost (model X.prog X.w) X.A X.xe use Qf (.ref D) s3.heap.objs.size) { s3 with heap := pushCells (s3.heap.push { cls := .type "dict", data := .dict #[] }) scope.names }
  have nfp : ∀ b ∈ fp, (upd H2 D (.lst [])) b = none := fun b hb => (f3 b hb).1.1
  generalize hce : compEnvC scope (cellsFrom (s3.heap.objs.size + 1) scope.names (cloFrom X.env.cells scope.names [])) s3.heap.objs.size X.env = ce at I4 pg pt pe ⊢
  have cL : ce.locals = s3.heap.objs.size := by subst hce; rfl
  generalize hH3 : upd H2 D (.lst []) = H3 at I3 I4 pg pt pe w0 nfp f3
  generalize hs4 : ({ s3 with heap := pushCells (s3.heap.push { cls := .type "dict", data := .dict #[] }) scope.names } : Shared) = s4 at I4 ⊢
  have st4 : tn 0 s4.heap := T.keep _ _ _ st3 fun b _ o e => by rw [← hs4]; exact pushCells_keeps _ _ _ _ (Heap.get?_push_of_some _ e)
  have stat : ∀ {σ' : St} {H' : Hp} {s' : Shared}, Inv (X.blk s3 H3 scope ce fp) [] σ' H' s' → (∀ b ∈ fp, H' b = none) → ∀ b ∈ fp, FpOk (X.blk s3 H3 scope ce fp) [] H' b := fun {σ' H' s'} I' hn b hb =>
    ⟨hn b hb, (I'.ok.exf b hb).1, I'.ok.exfs b hb, .inl hb, fun x c e => (I'.ok.exf b hb).2 x c e, fun p hp => absurd (show p ∈ ([] : List (Addr × Obj)) ++ [] from hp) (by simp)⟩
  have loop : codeAny (model X.prog X.w) X.A (.compLoop (.ListComp elt [⟨tg, iter, ifs, 0⟩] scope pos) 0 (.ref it) (.ref D) ce) (compPost (model X.prog X.w) X.A X.xe use Qf (.ref D) s3.heap.objs.size) s4 := by
    refine compLoop_any (fun n s' => ∃ i H', Inv (X.blk s3 H3 scope ce fp) [] (wipe σ (own.map (·.2))) H' s' ∧ tn i s'.heap ∧ (∀ b ∈ fp, H' b = none) ∧ W i n H') ?_ m0 ⟨0, H3, I4, st4, nfp, w0⟩
    rintro n s5 ⟨i, H5, I5, st5, n5, w5⟩
    rcases turn i n H5 w5 with ⟨stop, qq⟩ | ⟨go, Nx, hNx, step⟩
    · have td := T.done (X.blk s3 H3 scope ce fp) rfl rfl rfl hc i [] s5 _ H5 (fun _ _ => False) I5 (stat I5 n5) st5 stop
      refine thnF td fun r s6 ⟨hr, I6⟩ => ?_
      subst hr
      -- back in the def's context
      have I7 : Inv X pins σ H5 s6 := I3.call' (ch := fp) I6.os I6.base I6.hok I6.bare fun b hb => ⟨(f3 b hb).1.2.2.2.1, (f3 b hb).1.2.1, (f3 b hb).1.2.2.2.2.1, (f3 b hb).1.2.2.2.2.2⟩
      have nC : H5 s3.heap.objs.size = none := by
        have z : H5 ce.locals = none := I6.free
        rw [cL] at z
        exact z
      obtain ⟨m, hn, _⟩ := I6.loc
      have hn : s6.heap.Ns ce.locals m := hn
      rw [cL] at hn
      exact hRR D s3.heap.objs.size s6 m H5 I7 qq hn (I3.fpOk (Nat.le_refl _) nC)
    · have ti := T.item (X.blk s3 H3 scope ce fp) rfl rfl rfl hc i [] s5 _ H5 (fun _ _ => False) I5 (stat I5 n5) st5 go
      refine thnF ti fun r s6 ⟨u, hr, h6⟩ => ?_
      subst hr
      refine thnF h6 fun _ s7 ⟨x, H7, I7, r7, y7, st7, n7⟩ => ?_
      have I7' := I7.pinned (stat I7 n7) (T.obj _ _ st7)
      refine thnF (pg _ s7 _ H7 x u _ I7' r7 (step x H7 y7)) fun _ s8 ⟨σ8, H8, I8, hw8, q8⟩ => ?_
      refine thnF (pt _ s8 σ8 H8 _ I8 q8) fun b s9 ⟨H9, I9, q9⟩ => ?_
      -- the turn's end
      have fin : ∀ {s' : Shared} {H' : Hp}, Inv (X.blk s3 H3 scope ce fp) ([] ++ pinsAt fp s7.heap) σ8 H' s' → Nx H' → ∃ m, m < n ∧ ∃ i H', Inv (X.blk s3 H3 scope ce fp) [] (wipe σ (own.map (·.2))) H' s' ∧ tn i s'.heap ∧ (∀ b ∈ fp, H' b = none) ∧ W i m H' := fun {s' H'} I' nx => by
        obtain ⟨m', hm, w'⟩ := hNx H' nx
        have pin' : ∀ b ∈ fp, ∀ o, s7.heap.get? b = some o → s'.heap.get? b = some o ∧ H' b = none := fun b hb o e =>
          let z := I'.pin (b, o) (List.mem_append_right _ (List.mem_append_right _ (mem_pinsAt hb e)))
          ⟨z.1, z.2.1⟩
        have hl : (wipe σ (own.map (·.2))).length = σ8.length := by rw [← hw8, wipe_length]
        refine ⟨m', hm, i + 1, H', (I'.unpinned (pins := [])).weak hl (fun j v e => ?_), T.keep _ _ _ st7 fun b hb o e => (pin' b hb o e).1, fun b hb => ?_, w'⟩
        · rw [← hw8] at e
          exact (wipe_some e).1
        · obtain ⟨o, e, _⟩ := T.obj _ _ st7 b hb
          exact (pin' b hb o e).2
      cases b with
      | false =>
        simp only [Bool.false_eq_true, if_false] at q9 ⊢
        exact fin I9 q9
      | true =>
        simp only [if_true] at q9 ⊢
        refine thnF (pe _ s9 σ8 H9 _ I9 q9) fun z s10 ⟨yv, H10, I10, r10, acc, hD10, hz10, nx⟩ => ?_
        exact app_ok (X := X.blk s3 H3 scope ce fp) I10 hD10 hz10 r10 fun s11 I11 => fin I11 nx
  exact codeAny_compStart_list loop (T.self X.A 0 _ _ _ st4 loop)
/-- as a value -/
theorem pe_lc {elt tg iter : Expr} {ifs : List Expr} {scope : Scope} {own : List (Str × Nat)} {pos : Pos} {wi : TI} {g : TG} {tt : TT} {te : TE} (hc : X.calm = true) (hN : X.N.Nodup) (hi : PI X tg iter wi) (ok : BlkOk X.N X.env.scope scope own)
    (hg : ∀ (s : Shared) (H : Hp) (C : Addr) (cl : List (Str × Addr)) (fp : List Addr), PG (X.blk s H scope (compEnvC scope cl C X.env) fp) tg g) (ht : ∀ (s : Shared) (H : Hp) (C : Addr) (cl : List (Str × Addr)) (fp : List Addr), PTs (X.blk s H scope (compEnvC scope cl C X.env) fp) ifs tt)
    (he : ∀ (s : Shared) (H : Hp) (C : Addr) (cl : List (Str × Addr)) (fp : List Addr), PE (X.blk s H scope (compEnvC scope cl C X.env) fp) elt te) (hs : ∀ x, foldedSetIterable iter X.env x = pure x := by intro _; rfl) :
    PE X (.ListComp elt [⟨tg, iter, ifs, 0⟩] scope pos) (tLc wi g tt te (own.map (·.2))) := by
  intro pins s σ H Q I h
  rw [eval_ListComp]
  refine lc_core hc hN I hi ok hg ht he hs h fun D C s' m H' I' q hn f => ⟨m, hn, fun h'' sb => ?_⟩
  obtain ⟨f0, f1, f2, f3, f4, f5⟩ := f
  exact ⟨.ref D, H', I'.turned (t' := s'.toks) (fun b o hb e => (sb.2 b hb).trans e) f0 f1 f3 f4 f5, rfl, q⟩
end

/-! ### the forms one uses -/
/-- over a list that the block leaves as it is -/
theorem lc_list {K : PySem.W.Frag} {a : Addr} {xs : List V} {g : TG} {tt : TT} {te : TE} {vs : List Nat} {σ : St} {H1 : Hp} {D : Addr} {Qd : Hp → Prop} (Pv : Nat → Hp → Prop) (h0 : Pv 0 (upd H1 D (.lst []))) (hl : ∀ i H, i ≤ xs.length → Pv i H → SqL K H a xs)
    (hs : ∀ i x H, xs[i]? = some x → Pv i H → g x (wipe σ vs) H fun σ2 H2 => wipe σ2 vs = wipe σ vs ∧ tt σ2 H2 fun b H3 =>
      if b = true then te σ2 H3 fun y H4 => ∃ acc, H4 D = some (.lst acc) ∧ acc.length < sizeLine ∧ Pv (i + 1) (upd H4 D (.lst (acc ++ [y]))) else Pv (i + 1) H3) (hd : ∀ H, Pv xs.length H → Qd H) :
    ∃ W : Nat → Nat → Hp → Prop, (∃ m, W 0 m (upd H1 D (.lst []))) ∧ ∀ i m H, W i m H →
      ((Itl K a).stop i H ∧ Qd H) ∨ ((Itl K a).go i H ∧ ∃ Nx : Hp → Prop, (∀ H', Nx H' → ∃ m', m' < m ∧ W (i + 1) m' H') ∧ ∀ x H', (Itl K a).yld i H x H' → g x (wipe σ vs) H' fun σ2 H2 => wipe σ2 vs = wipe σ vs ∧ tt σ2 H2 fun b H3 =>
        if b = true then te σ2 H3 fun y H4 => ∃ acc, H4 D = some (.lst acc) ∧ acc.length < sizeLine ∧ Nx (upd H4 D (.lst (acc ++ [y]))) else Nx H3) := by
  refine ⟨fun i m H => m = xs.length - i ∧ i ≤ xs.length ∧ Pv i H, ⟨xs.length, by simp, Nat.zero_le _, h0⟩, ?_⟩
  rintro i m H ⟨rfl, hi, p⟩
  have q := hl i H hi p
  by_cases hlt : i < xs.length
  · refine .inr ⟨⟨xs, xs[i], q, by simp [hlt]⟩, Pv (i + 1), fun H' p' => ⟨xs.length - (i + 1), by omega, rfl, hlt, p'⟩, fun x H' y => ?_⟩
    obtain ⟨e, y⟩ := y
    subst e
    exact hs i x _ (y xs q) p
  · have e : i = xs.length := by omega
    subst e
    exact .inl ⟨⟨xs, q, Nat.le_refl _⟩, hd H p⟩
end L2

namespace L2
open PySem PySem.Spec PyProof.Rows

section
variable {prog : Program} {w : World} {A : Around} {R : Result → Shared → Prop} {s : Shared} {elt t0 i0 t1 i1 : Expr} {ifs0 ifs1 : List Expr} {scope : Scope} {pos : Pos} {it acc : Value} {env : Env}
end

section
variable {X : Cx}
end
end L2

namespace L2
open PySem PySem.Spec PyProof.Rows

/-! ### lists of pairs as tables -/
section
variable {κ : Type} [DecidableEq κ]
def valV (kvs : List (κ × V)) (k : κ) : Option V := (kvs.find? fun kv => decide (kv.1 = k)).map (·.2)
/-- in its place, or at the end -/
def putK (kvs : List (κ × V)) (k : κ) (v : V) : List (κ × V) :=
  if (kvs.any fun kv => decide (kv.1 = k)) = true then kvs.map (fun kv => if kv.1 = k then (kv.1, v) else kv) else kvs ++ [(k, v)]
def dropK (kvs : List (κ × V)) (k : κ) : List (κ × V) := kvs.filter fun kv => decide (kv.1 ≠ k)

theorem valV_pos {p : κ × V} {r : List (κ × V)} {k : κ} (e : p.1 = k) : valV (p :: r) k = some p.2 := by simp [valV, List.find?_cons, e]
theorem valV_neg {p : κ × V} {r : List (κ × V)} {k : κ} (e : ¬ p.1 = k) : valV (p :: r) k = valV r k := by simp [valV, List.find?_cons, e]
theorem valV_any (k : κ) : ∀ kvs : List (κ × V), (kvs.any fun kv => decide (kv.1 = k)) = (valV kvs k).isSome
  | [] => rfl
  | p :: r => by
    rw [List.any_cons]
    by_cases e : p.1 = k
    · simp only [valV_pos e, decide_eq_true e, Bool.true_or, Option.isSome_some]
    · rw [valV_neg e, decide_eq_false e, Bool.false_or]; exact valV_any k r
theorem RelO.isSome_eq {o : Option V} {u : Option Value} (r : RelO o u) : o.isSome = u.isSome := by
  cases o with
  | none => cases u with
    | none => rfl
    | some _ => exact (show False from r).elim
  | some _ => cases u with
    | none => exact (show False from r).elim
    | some _ => rfl
theorem RelO.getD {o : Option V} {u : Option Value} {d : V} {d' : Value} (r : RelO o u) (rd : RelV d d') : RelV (o.getD d) (u.getD d') := by
  cases o with
  | none => cases u with
    | none => exact rd
    | some _ => exact (show False from r).elim
  | some _ => cases u with
    | none => exact (show False from r).elim
    | some _ => exact r

/-- raw tables of the same keys -/
theorem KV.val {kvs : List (κ × V)} {vs : List (κ × Value)} (r : KV kvs vs) (k : κ) : RelO (valV kvs k) (valueAt vs k) := by
  unfold KV at r
  induction r with
  | nil => exact True.intro
  | @cons p q ps qs h t ih =>
    obtain ⟨h1, h2⟩ := h
    by_cases e : p.1 = k
    · have e' : q.1 = k := h1.symm.trans e
      have b : valueAt (q :: qs) k = some q.2 := by simp [valueAt, List.find?_cons, e']
      rw [valV_pos e, b]; exact h2
    · have e' : ¬ q.1 = k := fun z => e (h1.trans z)
      have b : valueAt (q :: qs) k = valueAt qs k := by simp [valueAt, List.find?_cons, e']
      rw [valV_neg e, b]; exact ih
theorem KV.any {kvs : List (κ × V)} {vs : List (κ × Value)} (r : KV kvs vs) (k : κ) : (kvs.any fun kv => decide (kv.1 = k)) = vs.any fun kv => decide (kv.1 = k) := by
  unfold KV at r
  induction r with
  | nil => rfl
  | cons h t ih => rw [List.any_cons, List.any_cons, ih, h.1]
theorem KV.repl {kvs : List (κ × V)} {vs : List (κ × Value)} (r : KV kvs vs) (k : κ) {y : V} {u : Value} (ry : RelV y u) :
    KV (kvs.map fun kv => if kv.1 = k then (kv.1, y) else kv) (vs.map fun kv => if kv.1 = k then (kv.1, u) else kv) := by
  unfold KV at r ⊢
  induction r with
  | nil => exact .nil
  | @cons p q ps qs h t ih =>
    rw [List.map_cons, List.map_cons]
    refine .cons ?_ ih
    obtain ⟨h1, h2⟩ := h
    by_cases e : p.1 = k
    · rw [if_pos e, if_pos (h1.symm.trans e)]; exact ⟨h1, ry⟩
    · rw [if_neg e, if_neg (fun z => e (h1.trans z))]; exact ⟨h1, h2⟩
theorem KV.put {kvs : List (κ × V)} {vs : List (κ × Value)} (r : KV kvs vs) (k : κ) {y : V} {u : Value} (ry : RelV y u) : KV (putK kvs k y) (stored vs k u) := by
  unfold putK stored
  rw [r.any k]
  by_cases e : (vs.any fun kv => decide (kv.1 = k)) = true
  · rw [if_pos e, if_pos e]; exact r.repl k ry
  · rw [if_neg e, if_neg e]; exact Paired.snoc r ⟨rfl, ry⟩
theorem KV.drop {kvs : List (κ × V)} {vs : List (κ × Value)} (r : KV kvs vs) (k : κ) : KV (dropK kvs k) (without vs k) := by
  unfold KV at r ⊢
  unfold dropK without
  induction r with
  | nil => exact .nil
  | @cons p q ps qs h t ih =>
    obtain ⟨h1, h2⟩ := h
    rw [List.filter_cons, List.filter_cons]
    by_cases e : p.1 = k
    · have a : ¬ decide (p.1 ≠ k) = true := by simp [e]
      have b : ¬ decide (q.1 ≠ k) = true := by simp [h1.symm.trans e]
      rw [if_neg a, if_neg b]; exact ih
    · have e' : ¬ q.1 = k := fun z => e (h1.trans z)
      have a : decide (p.1 ≠ k) = true := by simp [e]
      have b : decide (q.1 ≠ k) = true := by simp [e']
      rw [if_pos a, if_pos b]; exact .cons ⟨h1, h2⟩ ih
theorem KV.keys {kvs : List (κ × V)} {vs : List (κ × Value)} (r : KV kvs vs) : kvs.map (·.1) = vs.map (·.1) := by
  unfold KV at r
  induction r with
  | nil => rfl
  | cons h t ih => rw [List.map_cons, List.map_cons, ih, h.1]
theorem KV.length {kvs : List (κ × V)} {vs : List (κ × Value)} (r : KV kvs vs) : kvs.length = vs.length := Paired.length r
end


/-! ### a tracked dict, its keys ints and texts or tuples of these -/
/-- raw entries of a dict with tuple keys -/
abbrev KT (H : Hp) : List (List Key × V) → List (List Key × Addr × Value) → Prop := Paired fun p q => p.1 = q.1 ∧ H q.2.1 = some (.tup (p.1.map kV)) ∧ RelV p.2 q.2.2
theorem KT.val {H : Hp} {kvs : List (List Key × V)} {xs : List (List Key × Addr × Value)} (r : KT H kvs xs) (k : List Key) : RelO (valV kvs k) ((atKey xs k).map (·.2)) := by
  induction r with
  | nil => exact True.intro
  | @cons p q ps qs h t ih =>
    obtain ⟨h1, _, h2⟩ := h
    by_cases e : p.1 = k
    · have e' : q.1 = k := h1.symm.trans e
      have b : atKey (q :: qs) k = some q.2 := by simp [atKey, List.find?_cons, e']
      rw [valV_pos e, b]; exact h2
    · have e' : ¬ q.1 = k := fun z => e (h1.trans z)
      have b : atKey (q :: qs) k = atKey qs k := by simp [atKey, List.find?_cons, e']
      rw [valV_neg e, b]; exact ih
theorem KT.repl {H : Hp} {kvs : List (List Key × V)} {xs : List (List Key × Addr × Value)} (r : KT H kvs xs) (k : List Key) {y : V} {u : Value} (ry : RelV y u) :
    KT H (kvs.map fun kv => if kv.1 = k then (kv.1, y) else kv) (xs.map (putAt k u)) := by
  induction r with
  | nil => exact .nil
  | @cons p q ps qs h t ih =>
    rw [List.map_cons, List.map_cons]
    refine .cons ?_ ih
    obtain ⟨h1, h2, h3⟩ := h
    unfold putAt
    by_cases e : p.1 = k
    · rw [if_pos e, if_pos (h1.symm.trans e)]; exact ⟨h1, h2, ry⟩
    · rw [if_neg e, if_neg (fun z => e (h1.trans z))]; exact ⟨h1, h2, h3⟩
theorem KT.put {H : Hp} {kvs : List (List Key × V)} {xs : List (List Key × Addr × Value)} (r : KT H kvs xs) (k : List Key) {b : Addr} {y : V} {u : Value} (hb : H b = some (.tup (k.map kV))) (ry : RelV y u) :
    KT H (putK kvs k y) (storedH xs k b u) := by
  have e : (kvs.any fun kv => decide (kv.1 = k)) = (atKey xs k).isSome := by
    rw [valV_any, (r.val k).isSome_eq, Option.isSome_map]
  unfold putK storedH
  rw [e]
  by_cases q : (atKey xs k).isSome = true
  · rw [if_pos q, if_pos q]; exact r.repl k ry
  · rw [if_neg q, if_neg q]; exact Paired.snoc r ⟨rfl, hb, ry⟩
theorem KT.keeps {H H' : Hp} {kvs : List (List Key × V)} {xs : List (List Key × Addr × Value)} (r : KT H kvs xs) (ht : ∀ b ys, H b = some (.tup ys) → H' b = some (.tup ys)) : KT H' kvs xs :=
  Paired.mapP r fun _ _ z => ⟨z.1, ht _ _ z.2.1, z.2.2⟩

section
variable {P : Program} {w : World} {H : Hp} {h : Heap} {a : Addr}
end

/-- what the dict at a holds at the key y -/
def DGet (H : Hp) (a : Addr) (y : V) (r : Option V) : Prop :=
  (∃ kvs k, Rd H a (.dK kvs) ∧ y = kV k ∧ r = valV kvs k) ∨ ∃ kvs k b, Rd H a (.dT kvs) ∧ y = .ref b ∧ H b = some (.tup (k.map kV)) ∧ r = valV kvs k
/-- the heap behind a[y] = v -/
def DPut (H : Hp) (a : Addr) (y v : V) (H' : Hp) : Prop :=
  (∃ kvs k, H a = some (.dK kvs) ∧ y = kV k ∧ kvs.length < sizeLine ∧ H' = upd H a (.dK (putK kvs k v))) ∨
  ∃ kvs k b, H a = some (.dT kvs) ∧ y = .ref b ∧ H b = some (.tup (k.map kV)) ∧ kvs.length < sizeLine ∧ H' = upd H a (.dT (putK kvs k v))
theorem DGet.k {H : Hp} {a : Addr} {kvs : List (Key × V)} {k : Key} (e : H a = some (.dK kvs)) : DGet H a (kV k) (valV kvs k) := .inl ⟨kvs, k, .inl e, rfl, rfl⟩
theorem DGet.t {H : Hp} {a b : Addr} {kvs : List (List Key × V)} {k : List Key} (e : H a = some (.dT kvs)) (eb : H b = some (.tup (k.map kV))) : DGet H a (.ref b) (valV kvs k) := .inr ⟨kvs, k, b, .inl e, rfl, eb, rfl⟩
theorem DPut.k {H : Hp} {a : Addr} {kvs : List (Key × V)} {k : Key} {v : V} (e : H a = some (.dK kvs)) (hl : kvs.length < sizeLine) : DPut H a (kV k) v (upd H a (.dK (putK kvs k v))) := .inl ⟨kvs, k, e, rfl, hl, rfl⟩
theorem DPut.t {H : Hp} {a b : Addr} {kvs : List (List Key × V)} {k : List Key} {v : V} (e : H a = some (.dT kvs)) (eb : H b = some (.tup (k.map kV))) (hl : kvs.length < sizeLine) :
    DPut H a (.ref b) v (upd H a (.dT (putK kvs k v))) := .inr ⟨kvs, k, b, e, rfl, eb, hl, rfl⟩


section
variable {X : Cx} {pins : List (Addr × Obj)} {σ : St} {H : Hp} {s : Shared} {a : Addr} {y v : V} {u r : Value} {o : Option V} {A : Around} {E : Value → Shared → Prop}

theorem Inv.big (I : Inv X pins σ H s) : sysModules < s.heap.objs.size := by
  have h : mainGlobals < s.heap.objs.size := (I.mod.glob.keeps I.bk).lt
  exact Nat.lt_trans (by decide) h

end

section
variable {X : Cx} {pins : List (Addr × Obj)} {σ : St} {H : Hp} {s : Shared} {a : Addr} {kvs : List (Key × V)} {k : Key} {u : Value} {A : Around} {E : Value → Shared → Prop}
end


/-! ### readings and rules -/
section
variable {X : Cx} {o i e value : Expr} {pos pos' tpos : Pos} {td ty tv : TE}
end


/-! ### displays -/
section
variable {X : Cx} {pos : Pos}
end

/-! ### methods -/
section
variable {X : Cx} {pins : List (Addr × Obj)} {σ : St} {H : Hp} {s : Shared} {a : Addr} {y d : V} {u r : Value} {o : Option V} {A : Around} {E : Value → Shared → Prop}
end

section
variable {X : Cx} {o e f : Expr} {apos cpos : Pos} {td ty tx : TE}
end

/-! ### dict(d): a copy -/
section
variable {X : Cx} {pins : List (Addr × Obj)} {σ : St} {H : Hp} {s : Shared} {a : Addr} {kvs : List (Key × V)} {A : Around} {E : Value → Shared → Prop}
end


section
variable {X : Cx} {pins : List (Addr × Obj)} {σ : St} {H : Hp} {s : Shared} {a : Addr} {y : V} {u : Value} {A : Around} {E : Value → Shared → Prop}
end
end L2

namespace L2
open PySem PySem.Spec PyProof.Rows

section
variable {prog : Program} {w : World} {A : Around} {E : Value → Shared → Prop}
end

section
variable {X : Cx}
end
end L2

namespace L2
open PySem PySem.Spec PyProof.Rows

section
variable {X : Cx} {pins : List (Addr × Obj)} {σ : St} {H : Hp} {s : Shared} {h' : Heap}
/-! ### locking a thing while a statement runs -/
end
section
variable {X : Cx}
/-! ### one iterator just laid -/
end

/-! ### range with a step -/
/-- range(i, j, c): small bounds, n items -/
def RgC (i j c : Int) (n : Nat) : Prop := c ≠ 0 ∧ c.natAbs < 1073741824 ∧ Builtin.Range.small i j c = true ∧ Builtin.Range.rangeSize i j c = n
theorem RgC.neg {i j : Int} (ha : -(2 ^ 62) ≤ i) (ha' : i < 2 ^ 62) (hb : -(2 ^ 62) ≤ j) (hb' : j < 2 ^ 62) : RgC i j (-1) (i - j).toNat :=
  ⟨by decide, by decide, PySem.W.small_down ha ha' hb hb', PySem.W.rangeSize_downNat i j⟩
section
variable {X : Cx} {tg : Expr}
end
/-! ### reversed(list) -/
section
variable {X : Cx} {tg : Expr}
end

/-! ### a str -/
/-! ### a dict's keys: any dict's entries -/
section
variable {prog : Program} {w : World} {A : Around} {E : Value → Shared → Prop} {s : Shared}
end

/-! ### a locked dict -/
section
variable {X : Cx} {pins : List (Addr × Obj)} {σ : St} {H : Hp} {s : Shared} {d : Addr} {o : Obj}
end

section
variable {P : Program} {w : World} {K : PySem.W.Frag} {tg : Expr} {d : Addr} {o : Obj} {es : Array DictEntry} {ep : Nat}
end

/-! ### for k in d, d.keys(), d.values(), d.items() -/
section
variable {X : Cx} {tg e : Expr} {td : TE} {apos cpos : Pos}
end

/-! ### enumerate(list) -/
/-! ### zip(list, list) -/
end L2

section 
namespace Bits
open PySem PyProof.Rows

end Bits
end 

section 
namespace TL
open PySem PySem.Builtin PySem.Builtin.Str PySem.StrLaws

abbrev tl (x : Str) : List Nat := x.cps.toList
/-! ### the list functions -/
/-- S stands at the head of l -/
def pre (S l : List Nat) : Bool := l.take S.length == S
/-- l cut at each S from the left; k signs are still to be passed over -/
def spl (S : List Nat) : Nat → List Nat → List Nat → List (List Nat)
  | _, acc, [] => [acc]
  | 0, acc, c :: r => if pre S (c :: r) = true then acc :: spl S (S.length - 1) [] r else spl S 0 (acc ++ [c]) r
  | k + 1, acc, _ :: r => spl S k acc r
/-- what stands before the first S, and behind it -/
def par (S : List Nat) : List Nat → List Nat → Option (List Nat × List Nat)
  | _, [] => none
  | acc, c :: r => if pre S (c :: r) = true then some (acc, (c :: r).drop S.length) else par S (acc ++ [c]) r

/-! ### the model's split and partition are these -/
theorem kind_ok {x y : Str} (h : y.cps.all (· < 256) = true) : ¬ Builtin.Str.strKind x < Builtin.Str.strKind y := by
  have e : Builtin.Str.strKind y = 1 := by unfold PySem.Builtin.Str.strKind; rw [if_pos h]
  rw [e]
  unfold PySem.Builtin.Str.strKind
  split
  · omega
  · split <;> omega

/-! ### computing spl and par -/
/-! ### digits -/
/-! ### words: x.split() -/
end TL
end 

namespace L2
open PySem PySem.Spec PyProof.Rows

section
variable {X : Cx} {pins : List (Addr × Obj)} {σ : St} {H : Hp} {s : Shared} {Q : VK}
end

section
variable {X : Cx}

/-! ### of a text alone -/
/-! ### of a text and a text -/
end

section
variable {X : Cx} {o e : Expr} {to te : TE}
end
end L2

namespace L2
open PySem PySem.Spec PyProof.Rows

section
variable {X : Cx}
end

/-! ### slices of a text -/
theorem IsPart.raw {v : Value} {o : Option Int} (p : IsPart v o) : ∃ l : Option (Int × Tok), v = partValue l ∧ l.map (·.1) = o := by
  cases p with
  | none => exact ⟨none, rfl, rfl⟩
  | int i t => exact ⟨some (i, t), rfl, rfl⟩

end L2

namespace Att
open PySem PySem.W PySem.Calls PyProof.Rows

/-! ### the script -/
theorem ints_of_wellAll {P : Params} {h : Heap} : ∀ (ns : List Int) (vs : List Value), WellAll P h vs (ns.map WData.int) → IntsAre vs ns := by
  intro ns
  induction ns with
  | nil =>
    intro vs w
    rw [List.map_nil] at w
    cases w
    exact .nil
  | cons n ns ih =>
    intro vs w
    rw [List.map_cons] at w
    cases w with
    | cons a b =>
      cases a
      exact .cons _ _ (ih _ b)

theorem script_of {l : OpenLaw} {n : Nat} (hn : l.most = some n) {P : Params} {h : Heap} {args : List WData} {vals : List Value}
    (hpre : l.row.toRowW.claim.pre args = true) (hwl : WellAll P h vals args) :
    ∃ a vs ns, vals = [Value.ref a] ∧ args = [WData.list (ns.map WData.int)] ∧ h.get? a = some { cls := .type "list", data := .seq vs.toArray } ∧ IntsAre vs ns ∧ ns.length ≤ n := by
  have hsh : WShape.hasAll [] args [.list .int] = true := (pre_splitW hpre).1
  have hc : l.pre.holds [] { args := args } = true := (pre_splitW hpre).2
  obtain ⟨d, r, rfl, h1, h2⟩ := hasAllW_cons hsh
  obtain rfl := hasAllW_nil h2
  obtain ⟨xs, rfl, h3⟩ := hasW_list h1
  obtain ⟨ns, rfl⟩ := items_int h3
  have hlen : ns.length ≤ n := by
    unfold OpenLaw.pre at hc
    have h4 : (WTm.not (.lt (.lit (.int (n : Int))) (.len (.arg 0)))).holds [] { args := [.list (ns.map .int)] } = true := by
      have h4 := (holds_andW hc).1
      rw [hn] at h4
      exact h4
    have h5 := condW_of h4 (w_not (w_lt w_lit (w_len_list (w_arg rfl))))
    rw [List.length_map] at h5
    refine Nat.le_of_not_lt fun q => ?_
    have q' : (n : Int) < ((ns.length : Nat) : Int) := by omega
    first
      | (rw [decide_eq_true q'] at h5; exact absurd h5 (by decide))
      | (simp at h5; omega)
  cases hwl with
  | cons w1 w2 =>
    cases w2
    cases w1 with
    | list ho hall => exact ⟨_, _, ns, rfl, rfl, ho, ints_of_wellAll ns _ hall, hlen⟩

theorem post_true (l : OpenLaw) (args : List WData) : l.row.toRowW.claim.post args (.bool true) args = true :=
  postW_of (r := l.row.toRowW) (X := (true == true))
    (show WShape.has [] (.bool true) .bool = true by first | rfl | decide | simp [WShape.has, WShape.arms, WShape.armsAll])
    (show (WTm.eq .res (.lit (.bool true))).value [] { args := args, res := some (.bool true), after := args } = some (.bool (true == true)) from w_eq_bool (w_res rfl) w_lit) rfl

/-! ### the attachment: holds_open's last premise (the goal 'hc' behind k_head) from a wpAny of the law's body -/
/-- the same from a codeAny of the CALL (for a layer whose function contracts speak of calls) -/
theorem attach_call {l : OpenLaw} {n : Nat} {q : Program} {loose : List Str} {XP : (Str → Option Value) → Heap → Prop} {YP : World → Heap → Prop} {d : DefRec}
    (hn : l.most = some n) (hdf : d.params.defaults = [])
    (call : ∀ (w : World) (s₀ s₁ : Shared) (mg mb : Str → Option Value) (fa : Addr) (o : Obj) (pm cd doc : Value) (a : Addr) (vs : List Value) (ns : List Int),
      Ground q loose [] XP w s₀ mg mb s₁.heap → YP w s₁.heap →
      s₁.heap.get? fa = some o → o.data = .func (docDef d.name d.params d.body d.scope pm cd doc) → s₁.heap.CodeRec cd d.name → mg d.name = some (.ref fa) →
      s₁.heap.get? a = some { cls := .type "list", data := .seq vs.toArray } → IntsAre vs ns → ns.length ≤ n → s₁.gens = #[] →
      codeAny (model l.prog w) callerA (.call (.ref fa) ⟨[.ref a], []⟩) (fun r s' => r = .ok (.ret (.bool true)) ∧ OldK s₁.heap s'.heap ∧ s'.os = s₁.os ∧ AllBare s'.gens) s₁) :
    WalkO q loose XP YP l.row.toRowW d [] (fun f vs => PySem.call f vs) := by
  intro w s₀ s₁ mg mb G Y fa o pm cd doc dV kV ho hd hcd hD hmg hg args vals as hpre hlay hrd hwl hlo
  obtain rfl : dV = .none := Dflts.none hD hdf
  obtain rfl : kV = .none := Dflts.noKw hD
  obtain ⟨a, vs, ns, rfl, rfl, hobj, hints, hlen⟩ := script_of hn hpre hwl
  refine enter_call (codeAny_mono (call w s₀ s₁ mg mb fa o pm cd doc a vs ns G Y ho (fd_plain hd) hcd hmg hobj hints hlen hg) fun r s' hq => ?_)
  obtain ⟨rfl, h2, h3, h4⟩ := hq
  exact ⟨.inl ⟨.bool true, .bool true, [], rfl, fun _ => rfl, .bool true, post_true l _, fun _ => ⟨List.Pairwise.nil, fun _ hm => (nomatch hm)⟩⟩, h2, h3, h4⟩

/-! ### rules over ANY heap (no ledger) from facts about the written part K: the library's own take a ledger (News) for what they write -/
section
variable {prog : Program} {w : World} {A : Around} {E : Value → Shared → Prop} {s : Shared} {K : Frag}

/-! the whole heap as the ledger: makes every rule that writes through a ledger a rule over any heap -/
def ledger (h : Heap) (L d : Addr) : List (Addr × Obj) := (List.range h.objs.size).filterMap fun a => if a = L ∨ a = d then none else (h.get? a).map fun o => (a, o)
end
end Att

namespace L2
open PySem PySem.Spec PyProof.Rows

theorem vals_ints : ∀ {vs : List Value} {ns : List Int}, IntsAre vs ns → Vals (ns.map V.int) vs
  | _, _, .nil => .nil
  | _, _, .cons n t h => .cons ⟨t, rfl⟩ (vals_ints h)

/-- nothing is tracked but the script, known to the object (or it is an object of the module) -/
def Only (H : Hp) : Prop := ∀ b, H b = none ∨ ∃ o xs, H b = some (.frz o (.lst xs))

/-- THE HEAD: the law's promise, at the heap behind the top. F, the promise of the law's def, may use that base is part of the heap (so K.In base, base.Ns mainGlobals mg stand in Mod) -/
theorem law_call {P : Program} {w : World} {K : PySem.W.Frag} {mg mb : Str → Option Value} {CX : CXT} {k : Nat} {fa a : Addr} {fd : FuncData} {x : Str} {sp : Sp} {s₁ : Shared} {vs : List Value} {ns : List Int}
    (KX : K.In s₁.heap) (hns : s₁.heap.Ns mainGlobals mg) (hb : s₁.heap.Ns builtinsNs mb) (hbb : ∀ x : Str, x ≠ "__name__" → mb x = bootBuiltins x) (hlim : s₁.heap.NoLimit) (hg : s₁.gens = #[])
    (ha : s₁.heap.get? a = some { cls := .type "list", data := .seq vs.toArray }) (hi : IntsAre vs ns) (hl : ns.length ≤ sizeLine) (hr : Room k callerA)
    (F : ∀ base : Heap, K.In base → base.Ns mainGlobals mg → FnOk P w K mg base CX k fa fd [x] sp) (hbind : ∀ (s : Shared) (u : Value), BindsTo s fd ⟨[u], []⟩ [(x, u)])
    (hsp : ∀ H : Hp, Only H → SqL K H a (ns.map V.int) → sp [.ref a] H (fun v _ => v = .bl true) fun _ _ _ => False)
    (hCX : ∀ H e s', CX [] H s₁ (fun _ _ _ => False) e s' → False) :
    codeAny (model P w) callerA (.call (.ref fa) ⟨[.ref a], []⟩) (fun r s' => r = .ok (.ret (.bool true)) ∧ OldK s₁.heap s'.heap ∧ s'.os = s₁.os ∧ AllBare s'.gens) s₁ := by
  have rv := vals_ints hi
  have lenV := hi.length
  -- from an abstract heap in which nothing but the script may be tracked
  have core : ∀ H : Hp, Only H → SqL K H a (ns.map V.int) → HOk P w H s₁.heap → (∀ b, H b ≠ none → b = a) → (H a ≠ none → K.lookup a = none) →
      codeAny (model P w) callerA (.call (.ref fa) ⟨[.ref a], []⟩) (fun r s' => r = .ok (.ret (.bool true)) ∧ OldK s₁.heap s'.heap ∧ s'.os = s₁.os ∧ AllBare s'.gens) s₁ := by
    intro H hO hS hok hA hK
    have base_of : ∀ {b : Addr} {o : Obj}, s₁.heap.get? b = some o → H b = none → (hidT s₁.heap H).get? b = some o := fun e n => hidT_get e n
    have noA : ∀ {b : Addr} {o : Obj} {es : Array DictEntry} {ep : Nat}, s₁.heap.get? b = some o → o.data = .dict es ep → H b = none := fun {b o es ep} e d => by
      cases q : H b with
      | none => rfl
      | some u =>
        have e' : b = a := hA b (by rw [q]; simp)
        subst e'
        rw [ha] at e; cases e
        have d' : Data.seq vs.toArray _ = Data.dict es ep := d
        cases d'
    have nsK : ∀ {b : Addr} {m : Str → Option Value}, s₁.heap.Ns b m → (hidT s₁.heap H).Ns b m := fun {b m} ⟨o, es, ep, e, d, r⟩ => ⟨o, es, ep, base_of e (noA e d), d, r⟩
    have hKb : K.In (hidT s₁.heap H) := fun b o e => base_of (KX b o e) (by
      cases q : H b with
      | none => rfl
      | some u =>
        have e' : b = a := hA b (by rw [q]; simp)
        subst e'
        rw [hK (by rw [q]; simp)] at e; cases e)
    have hM : Mod K mg (hidT s₁.heap H) := ⟨hKb, nsK hns, ⟨mb, nsK hb, hbb⟩, let ⟨mc, h1, h2⟩ := hlim; ⟨mc, nsK h1, h2⟩⟩
    have e0 : Env0 P w K mg (hidT s₁.heap H) callerA [] s₁ H := ⟨rfl, hM, fun b o e => of_hidT e, Nat.le_of_eq (hidT_size _ _), trivial, fun b hb => absurd (show b ∈ ([] : List Addr) from hb) (by simp), hok, .of_eq hg⟩
    refine codeAny_mono ((F _ hKb (nsK hns)).run callerA [] s₁ H ⟨[.ref a], []⟩ [.ref a] [.ref a] _ _ hr e0 (hbind s₁ (.ref a)) (.cons rfl .nil) (hsp H hO hS)) fun r s' h => ?_
    cases r with
    | error e => exact (hCX H e s' h).elim
    | ok fl =>
      cases fl with
      | next => exact False.elim h
      | brk => exact False.elim h
      | cont => exact False.elim h
      | ret u =>
        obtain ⟨v, H', os, bare, un, hok', r', q⟩ := h
        have q' : v = .bl true := q
        subst q'
        obtain rfl : u = Value.bool true := r'
        refine ⟨rfl, OldK.of_keep fun b o e => ?_, os, bare⟩
        cases q : H b with
        | none => exact un.keep b o e q (by intro z; exact absurd (show b ∈ ([] : List Addr) from z) (by simp)) (by simp)
        | some u =>
          rcases hO b with z | ⟨ob, xs, z⟩
          · rw [q] at z; cases z
          · have z2 := un.frzs b ob _ z
            obtain ⟨e1, _⟩ := hok b _ z
            obtain ⟨e2, _⟩ := hok' b _ z2
            rw [e] at e1; cases e1
            exact e2
  cases hk : K.lookup a with
  | some o =>
    -- the script is one of the module's own objects
    have e := KX a o hk
    rw [ha] at e
    cases e
    refine core (fun _ => none) (fun _ => .inl rfl) (.inr ⟨_, vs.toArray, _, hk, rfl, rfl, rfl, by rw [List.size_toArray, lenV]; exact hl, by simpa using rv⟩) (fun b u z => by have z' : (none : Option HO) = some u := z; cases z') (fun b z => absurd rfl z) fun z => absurd rfl z
  | none =>
    refine core (fun b => if b = a then some (.frz { cls := .type "list", data := .seq vs.toArray } (.lst (ns.map V.int))) else none) (fun b => ?_) (.inl (.inr ⟨{ cls := .type "list", data := .seq vs.toArray }, if_pos rfl⟩)) (fun b u z => ?_) (fun b z => ?_) fun _ => hk
    · by_cases hb : b = a
      · exact .inr ⟨_, _, if_pos hb⟩
      · exact .inl (if_neg hb)
    · by_cases hb : b = a
      · have z' := (if_pos hb).symm.trans z
        cases z'
        subst hb
        exact ⟨ha, by rw [List.length_map]; exact hl, vs, _, rv, ha⟩
      · have z' := (if_neg hb).symm.trans z
        cases z'
    · by_cases hb : b = a
      · exact hb
      · exact absurd (if_neg hb) z
end L2

namespace L2
open PySem PySem.Spec PyProof.Rows

abbrev KOf {K : PySem.W.Frag} {h : Heap} (_ : K.In h) : PySem.W.Frag := K

/-- the goal that k_head leaves (case hc), from the law's promise. F gives the function object fd (K's own) once, then the promise over every base -/
theorem walk_of {l : PySem.W.OpenLaw} {n k : Nat} {q : Program} {loose : List Str} {XP : (Str → Option Value) → Heap → Prop} {YP : World → Heap → Prop} {d : DefRec} {K : Params → PySem.W.Frag} {CX : World → CXT} {sp : World → Sp} {x : Str}
    (hn : l.most = some n) (hn2 : n ≤ sizeLine) (hdf : d.params.defaults = []) (hr : Room k callerA)
    (hY : ∀ (w : World) (h : Heap), YP w h → (K w.params).In h)
    (F : ∀ (w : World) (mg : Str → Option Value) (fa : Addr) (h : Heap), (K w.params).In h → h.Ns mainGlobals mg → mg d.name = some (.ref fa) →
      ∃ fd : FuncData, (∀ (s : Shared) (u : Value), BindsTo s fd ⟨[u], []⟩ [(x, u)]) ∧
        ∀ base : Heap, (K w.params).In base → base.Ns mainGlobals mg → FnOk l.prog w (K w.params) mg base (CX w) k fa fd [x] (sp w))
    (hsp : ∀ (w : World) (H : Hp) (a : Addr) (ns : List Int), ns.length ≤ n → Only H → SqL (K w.params) H a (ns.map V.int) → sp w [.ref a] H (fun v _ => v = .bl true) fun _ _ _ => False)
    (hCX : ∀ (w : World) (H : Hp) (s : Shared) (e : Value) (s' : Shared), CX w [] H s (fun _ _ _ => False) e s' → False) :
    PySem.W.WalkO q loose XP YP l.row.toRowW d [] (fun f vs => PySem.call f vs) := by
  refine Att.attach_call hn hdf fun w s₀ s₁ mg mb fa o pm cd doc a vs ns G Y ho hd hcd hmg hobj hints hlen hg => ?_
  have KX := hY w _ Y
  obtain ⟨fd, hb, hF⟩ := F w mg fa _ KX G.T.g hmg
  exact law_call KX G.T.g G.T.b G.T.builtins G.T.nolimit hg hobj hints (Nat.le_trans hlen hn2) hr hF hb (fun H hO hS => hsp w H a ns hlen hO hS) fun H e s' => hCX w H s₁ e s'
end L2

/- THE LAST THEOREM (shape; LID, My.* are yours):
   My.Adr: a structure of the addresses that your layer names (classes, functions); My.Txt K t: a structure (Prop) of the equations over K;
   My.txt_mk : {K} {implicit addresses ..} (e1 : nsIn K mainGlobals "law" = some (some (.ref f))) (e2 : K.lookup f = some ⟨oc, od, .func (fnOf "law" "law" params body scope dV kV doc pm an cdv ct), sl⟩) (e3 : codeIn K cdv "law" = true) .. : ∃ t, My.Txt K t

set_option maxRecDepth 100000 in
set_option maxHeartbeats 0 in
theorem PySem.Challenge.cw_LID_holds : PySem.Challenge.rw_LID.Holds := by
  w_on; o_law; k_head; (case hw => w_witness2)
  k_fill
  refine L2.walk_of (l := PySem.Challenge.rw_LID) (n := 63) (k := 40) (x := "script") (CX := fun w => ..) (sp := fun _ => My.sp_law) rfl (by decide) rfl ⟨rfl, by decide, by decide⟩ (fun w h Y => PySem.W.kIn_of Y) ?F ?S ?C
  case F =>
    intro w mg fa h KX G hmg
    have T : ∃ t, My.Txt (L2.KOf KX) t := by
      dsimp only [L2.KOf]                          -- K must stand as «<heap const> w.params» for k_is
      refine' My.txt_mk ?e1 ?e2 ?e3 ..
      (case e1 => PySem.W.k_is)                    -- in the order: a name -> its address -> its object -> its parts
      (case e2 => PySem.W.k_is)
      ..
    obtain ⟨t, T⟩ := T
    have e0 := hmg.symm.trans (PySem.W.mg_of KX G T.law)
    cases e0                                       -- fa is the law's own address
    exact ⟨_, fun s u => .of_eq rfl, fun base kb nb => My.law_fn T kb nb⟩     -- if «.of_eq rfl» comes too early: refine' ⟨_, ?b, fun base kb nb => My.law_fn T kb nb⟩; exact fun s u => .of_eq rfl
  case S => exact fun w H a ns hl hO hS => ..
  case C => exact ..
(the tactic k_is has no namespace: write k_is) -/

/-! SHORT WORDS over the layer: a def of the text, its body, what a loop and a test want. -/
namespace L2
open PySem PySem.Spec PyProof.Rows

/-! ### the text by places -/
/-- the j-th statement of a class's body -/
def inClass (s : Stmt) (j : Nat) : Stmt := match s with
  | .ClassDef _ _ _ body _ _ _ _ _ _ _ => body.getD j (.Pass ⟨0, 0, 0, 0⟩)
  | _ => .Pass ⟨0, 0, 0, 0⟩
def defArgs (s : Stmt) : Arguments := match s with
  | .FunctionDef _ a _ _ _ _ _ _ _ _ => a
  | _ => { posonlyargs := [], args := [], vararg := none, kwonlyargs := [], kw_defaults := [], kwarg := none, defaults := [] }
def defBody (s : Stmt) : List Stmt := match s with
  | .FunctionDef _ _ b _ _ _ _ _ _ _ => b
  | _ => []
def defScope (s : Stmt) : Scope := match s with
  | .FunctionDef _ _ _ _ _ _ sc _ _ _ => sc
  | _ => { kind := .function, names := [], isGenerator := false, isCoroutine := false }

/-! ### no exception leaves a def -/
abbrev CX0 : CXT := fun _ _ _ _ _ _ => False
abbrev E0 : XK := fun _ _ _ => False
theorem pass0 {X : Cx} : Passes CX0 X E0 := fun _ _ _ _ _ _ _ h => h.elim

/-! ### a def (or method) of the text as it stands behind the top -/
structure Fun (K : PySem.W.Frag) (x qual : Str) (st : Stmt) (f : Addr) (fd : FuncData) : Prop where
  ex : ∃ (oc : Value) (od : Option Addr) (kV doc pm : Value) (an : Option Addr) (cdv ct : Value) (osl : Array (Option Value)),
    fd = PySem.W.fnOf x qual (defArgs st) (defBody st) (defScope st) .none kV doc pm an cdv ct ∧ K.lookup f = some ⟨oc, od, .func fd, osl⟩ ∧ PySem.W.codeIn K cdv qual = true
  kp : PySem.W.keepIn K (.ref f) = true
section
variable {P : Program} {w : World} {K : PySem.W.Frag} {mg : Str → Option Value} {base : Heap}
/-- THE RULE for a def: its body as a term of rules, and the reading of that term -/
theorem Fun.ok {x qual : Str} {st : Stmt} {f : Addr} {fd : FuncData} {N ps : List Str} {k : Nat} {sp : Sp} (F : Fun K x qual st f fd) (S : FnScope N ps (defScope st)) (len : ∀ vs H Q E, sp vs H Q E → vs.length = ps.length)
    (hbody : ∀ (cdv : Value) (A : Around) (outer : List Env) (s : Shared) (H : Hp) (vs : List V) (Q : VK) (E : XK), Room k (A.deeper (envOfC qual (defScope st) s.heap.objs.size f cdv)) → sp vs H Q E →
      ∃ t, PSs (cxOf CX0 P w K mg base N qual (defScope st) f cdv A outer s H E).nox (defBody st) t ∧ t { nx := fun _ H' => Q .non H', rt := Q } (start N vs) H) : FnOk P w K mg base CX0 (k + 1) f fd ps sp := by
  obtain ⟨oc, od, kV, doc, pm, an, cdv, ct, osl, rfl, lk, hcd⟩ := F.ex
  refine fn_of lk hcd S len fun A outer s H vs Q E hr hsp => ?_
  obtain ⟨t, h, q⟩ := hbody cdv A outer s H vs Q E hr hsp
  exact ⟨t, h.nox, q⟩
/-- how its arguments bind (no defaults): h is «fun _ _ _ _ _ _ us hl => match us, hl with | [_, _], _ => rfl», one _ a parameter -/
theorem Fun.binds {x qual : Str} {st : Stmt} {f : Addr} {fd : FuncData} {ps : List Str} (F : Fun K x qual st f fd)
    (h : ∀ (kV doc pm : Value) (an : Option Addr) (cdv ct : Value) (us : List Value), us.length = ps.length → bindArgs (PySem.W.fnOf x qual (defArgs st) (defBody st) (defScope st) .none kV doc pm an cdv ct) ⟨us, []⟩ = pure (ps.zip us)) : Binds K fd ps [] := by
  obtain ⟨oc, od, kV, doc, pm, an, cdv, ct, osl, rfl, lk, hcd⟩ := F.ex
  exact .all (h kV doc pm an cdv ct)
theorem fun_mk {x qual : Str} {st : Stmt} {f : Addr} {oc : Value} {od an : Option Addr} {osl : Array (Option Value)} {kV doc pm cdv ct : Value} (l : K.lookup f = some ⟨oc, od, .func (PySem.W.fnOf x qual (defArgs st) (defBody st) (defScope st) .none kV doc pm an cdv ct), osl⟩)
    (c : PySem.W.codeIn K cdv qual = true) (k : PySem.W.keepIn K (.ref f) = true) : Fun K x qual st f (PySem.W.fnOf x qual (defArgs st) (defBody st) (defScope st) .none kV doc pm an cdv ct) := ⟨⟨oc, od, kV, doc, pm, an, cdv, ct, osl, rfl, l, c⟩, k⟩
end
/-! ### expressions in short: the name that stands in the i-th slot -/
section
variable {X : Cx}
theorem pv (i : Nat) {x : Str} {pos : Pos} (hN : X.N[i]? = some x := by rfl) (hv : Vis X.env.scope x := by first | exact Or.inl rfl | exact Or.inr (Or.inl rfl) | exact Or.inr (Or.inr rfl)) (hd : (x == ("__debug__" : Str)) = false := by decide)
    (hcd : (x == ("__classdict__" : Str)) = false := by decide) : PE X (.Name x pos) (tVar i) := pe_var hN hv hd hcd
end

/-! ### tests -/
theorem iteT {A B : Prop} (h : A) : if true = true then A else B := by
  rw [if_pos rfl]
  exact h
theorem ite2 {c A B : Prop} [Decidable c] (h1 : c → A) (h2 : ¬ c → B) : if c then A else B := by
  by_cases h : c
  · rw [if_pos h]
    exact h1 h
  · rw [if_neg h]
    exact h2 h
/-! ### heaps -/
/-- all that was tracked is as it was -/
def Same (H H' : Hp) : Prop := ∀ b o, H b = some o → H' b = some o
theorem Same.refl (H : Hp) : Same H H := fun _ _ h => h
theorem Same.trans {H H1 H2 : Hp} (a : Same H H1) (b : Same H1 H2) : Same H H2 := fun c o h => b c o (a c o h)
theorem Same.free {H H' : Hp} (e : Same H H') {l : Addr} (h : H' l = Option.none) : H l = Option.none := by
  cases q : H l with
  | none => rfl
  | some o =>
    rw [e l o q] at h
    cases h
theorem Same.seq {K : PySem.W.Frag} {H H' : Hp} {a : Addr} {xs : List V} (e : Same H H') (h : SqL K H a xs) : SqL K H' a xs := by
  rcases h with (h | ⟨o, h⟩) | h
  · exact .inl (.inl (e _ _ h))
  · exact .inl (.inr ⟨o, e _ _ h⟩)
  · exact .inr h

/-! ### a dict's pairs: keys that differ -/
section
variable {κ : Type} [DecidableEq κ]
end
/-! ### lists -/
theorem at_of {xs : List V} {z : Int} {j : Nat} {v : V} (e : z = (j : Int)) (h : xs[j]? = some v) : atI xs z = some v := by
  rw [e]
  exact atI_nat h
/-- a new instance and its __init__ leave all that was tracked as it was -/
theorem Same.made {H H1 : Hp} {x dx C : Addr} (nx : H x = Option.none) (nd : H dx = Option.none) (k : ∀ b o, (upd (upd H dx (.own x)) x (.ins C dx [])) b = some o → b ≠ x → H1 b = some o) : Same H H1 := fun b o e =>
  k b o (by rw [upd_ne (ne_of_none e nx), upd_ne (ne_of_none e nd)]; exact e) (ne_of_none e nx)
end L2

end
section
set_option Elab.async false
set_option linter.all false
set_option maxRecDepth 100000
set_option maxHeartbeats 2000000
namespace L2
open PySem PySem.Spec PyProof.Rows
open PySem.W (WData Codec OpenSpec Well WellAll ReadsW ReadsAllW)
/-! ### an answer as data -/
mutual
/-- x stands for the datum d, lists and tuples all the way -/
inductive Dw (K : PySem.W.Frag) (H : Hp) : V → WData → Prop
  | non : Dw K H .non .none
  | bl (b : Bool) : Dw K H (.bl b) (.bool b)
  | int (i : Int) : Dw K H (.int i) (.int i)
  | str (x : Str) : Dw K H (.str x) (.str x)
  | byt (b : Array UInt8) : Dw K H (.byt b) (.bytes b.toList)
  | lst {a : Addr} {xs : List V} {ds : List WData} : SqL K H a xs → DwAll K H xs ds → Dw K H (.ref a) (.list ds)
  | tup {a : Addr} {xs : List V} {ds : List WData} : SqT K H a xs → DwAll K H xs ds → Dw K H (.ref a) (.tuple ds)
inductive DwAll (K : PySem.W.Frag) (H : Hp) : List V → List WData → Prop
  | nil : DwAll K H [] []
  | cons {v : V} {vs : List V} {d : WData} {ds : List WData} : Dw K H v d → DwAll K H vs ds → DwAll K H (v :: vs) (d :: ds)
end
theorem dw_ints {K : PySem.W.Frag} {H : Hp} : ∀ ns : List Int, DwAll K H (ns.map V.int) (ns.map WData.int)
  | [] => .nil
  | n :: r => .cons (.int n) (dw_ints r)
theorem ints_dw {K : PySem.W.Frag} {H : Hp} : ∀ (ns : List Int) (xs : List V), DwAll K H xs (ns.map WData.int) → xs = ns.map V.int
  | [], xs, h => by
    cases h
    rfl
  | n :: r, xs, h => by
    cases h with
    | cons h1 h2 =>
      cases h1
      rw [ints_dw r _ h2] <;> rfl
section
variable {P : Program} {w : World} {K : PySem.W.Frag} {H : Hp} {h : Heap} {R : PySem.W.WRecords} {cl : Str → Option Addr}
theorem sqL_at {a : Addr} {xs : List V} (hok : HOk P w H h) (KX : K.In h) (q : SqL K H a xs) : ∃ (its : List Value) (o : Obj) (n : Nat), Vals xs its ∧ h.get? a = some o ∧ o.cls = .type "list" ∧ o.data = .seq its.toArray n := by
  rcases q with q | ⟨o, its, n, e, hc, _, hd, _, hv⟩
  · obtain ⟨_, its, n, hv, e⟩ := (show ObjOk P w H h a (.lst xs) from q.ok hok)
    exact ⟨its, _, n, hv, e, rfl, rfl⟩
  · exact ⟨its.toList, o, n, hv, KX _ _ e, hc, by simp [hd]⟩
theorem sqT_at {a : Addr} {xs : List V} (hok : HOk P w H h) (KX : K.In h) (q : SqT K H a xs) : ∃ (its : List Value) (o : Obj) (n : Nat), Vals xs its ∧ h.get? a = some o ∧ o.cls = .type "tuple" ∧ o.data = .seq its.toArray n := by
  rcases q with q | ⟨o, its, n, e, hc, hd, _, hv⟩
  · obtain ⟨_, its, hv, o, e, hc, n, hd⟩ := (show ObjOk P w H h a (.tup xs) from q.ok hok)
    exact ⟨its, o, n, hv, e, hc, hd⟩
  · exact ⟨its.toList, o, n, hv, KX _ _ e, hc, by simp [hd]⟩
mutual
theorem Dw.reads (hok : HOk P w H h) (KX : K.In h) : ∀ (d : WData) (v : V) (u : Value), Dw K H v d → RelV v u → ∃ as, ReadsW R cl h u d as
  | .none, _, _, x, r => by
    cases x
    cases r
    exact ⟨_, ReadsW.none⟩
  | .bool b, _, _, x, r => by
    cases x
    cases r
    exact ⟨_, ReadsW.bool b⟩
  | .int i, _, _, x, r => by
    cases x
    obtain ⟨t, rfl⟩ := r
    exact ⟨_, ReadsW.int i t⟩
  | .str s, _, _, x, r => by
    cases x
    obtain ⟨t, rfl⟩ := r
    exact ⟨_, ReadsW.str s t⟩
  | .bytes b, _, _, x, r => by
    cases x
    obtain ⟨t, rfl⟩ := r
    exact ⟨_, ReadsW.bytes _ t⟩
  | .list ds, _, _, x, r => by
    cases x with
    | lst hs ha =>
      cases r
      obtain ⟨its, o, n, rv, ho, hc, hd⟩ := sqL_at hok KX hs
      obtain ⟨as, hr⟩ := Dw.readsAll hok KX ds _ its ha rv
      exact ⟨_, ReadsW.list ho hc hd hr⟩
  | .tuple ds, _, _, x, r => by
    cases x with
    | tup hs ha =>
      cases r
      obtain ⟨its, o, n, rv, ho, hc, hd⟩ := sqT_at hok KX hs
      obtain ⟨as, hr⟩ := Dw.readsAll hok KX ds _ its ha rv
      exact ⟨_, ReadsW.tuple ho hc hd hr⟩
  | .float _, _, _, x, _ => by cases x
  | .dict _, _, _, x, _ => by cases x
  | .bytearray _, _, _, x, _ => by cases x
  | .set _, _, _, x, _ => by cases x
  | .frozenset _, _, _, x, _ => by cases x
  | .obj _ _, _, _, x, _ => by cases x
theorem Dw.readsAll (hok : HOk P w H h) (KX : K.In h) : ∀ (ds : List WData) (vs : List V) (us : List Value), DwAll K H vs ds → Vals vs us → ∃ as, ReadsAllW R cl h us ds as
  | [], _, _, x, r => by
    cases x
    cases r
    exact ⟨_, ReadsAllW.nil⟩
  | d :: ds, _, _, x, r => by
    cases x with
    | cons h1 h2 =>
      cases r with
      | cons r1 r2 =>
        obtain ⟨as, q1⟩ := Dw.reads hok KX d _ _ h1 r1
        obtain ⟨bs, q2⟩ := Dw.readsAll hok KX ds _ _ h2 r2
        exact ⟨_, ReadsAllW.cons q1 q2⟩
end
end
/-! ### the arguments -/
mutual
/-- data that a codec tells -/
def plW : WData → Bool
  | .none => true
  | .bool _ => true
  | .int _ => true
  | .str _ => true
  | .bytes _ => true
  | .list xs => plWs xs
  | .tuple xs => plWs xs
  | _ => false
def plWs : List WData → Bool
  | [] => true
  | x :: r => plW x && plWs r
end
theorem plWs_map {α : Type} {f : α → WData} (h : ∀ a, plW (f a) = true) : ∀ l : List α, plWs (l.map f) = true
  | [] => rfl
  | x :: r => by
    show (plW (f x) && plWs (r.map f)) = true
    rw [h x, plWs_map h r] <;> rfl
theorem pl_enc : ∀ (c : Codec) (a : c.denote), plW (c.enc a) = true
  | .unit, _ => rfl
  | .bool, _ => rfl
  | .int _ _, _ => rfl
  | .nat _ _, _ => rfl
  | .u8, _ => rfl
  | .bytes _ _, _ => rfl
  | .text _ _ _ _, _ => rfl
  | .list _ _ c, a => plWs_map (fun x => pl_enc c x) a
  | .pair c d, a => by
    show (plW (c.enc a.1) && (plW (d.enc a.2) && true)) = true
    rw [pl_enc c a.1, pl_enc d a.2] <;> rfl
  | .triple c d e, a => by
    show (plW (c.enc a.1) && (plW (d.enc a.2.1) && (plW (e.enc a.2.2) && true))) = true
    rw [pl_enc c a.1, pl_enc d a.2.1, pl_enc e a.2.2] <;> rfl
  | .option c, none => rfl
  | .option c, some x => pl_enc c x
theorem pl_encAll : ∀ (cs : List Codec) (a : Codec.denoteAll cs), plWs (Codec.encAll cs a) = true
  | [], _ => rfl
  | c :: cs, a => by
    show (plW (c.enc a.1) && plWs (Codec.encAll cs a.2)) = true
    rw [pl_enc c a.1, pl_encAll cs a.2] <;> rfl
theorem weight_mem : ∀ {xs : List WData} {d : WData}, d ∈ xs → d.weight ≤ WData.weightAll xs
  | [], d, h => absurd h (by simp)
  | x :: r, d, h => by
    show d.weight ≤ x.weight + 1 + WData.weightAll r
    rcases List.mem_cons.mp h with e | m
    · rw [e]
      omega
    · have z := weight_mem m
      omega
def toV : Value → V
  | .none => .non
  | .bool b => .bl b
  | .int i _ => .int i
  | .str x _ => .str x
  | .bytes b _ => .byt b
  | .ref a => .ref a
  | _ => .non
/-- a value of the arguments, its objects among A -/
def OkU (A : List Addr) : Value → Prop
  | .none => True
  | .bool _ => True
  | .int _ _ => True
  | .str _ _ => True
  | .bytes _ _ => True
  | .ref a => a ∈ A
  | _ => False
theorem OkU.mono {A B : List Addr} (h : ∀ a ∈ A, a ∈ B) : ∀ {u : Value}, OkU A u → OkU B u := fun {u} x => by
  cases u with
  | ref a => exact h a x
  | none => trivial
  | bool b => trivial
  | int i t => trivial
  | str s t => trivial
  | bytes b t => trivial
  | _ => exact False.elim x
theorem relV_toV {A : List Addr} {u : Value} (x : OkU A u) : RelV (toV u) u := by
  cases u with
  | ref a => rfl
  | none => rfl
  | bool b => rfl
  | int i t => exact ⟨t, rfl⟩
  | str s t => exact ⟨t, rfl⟩
  | bytes b t => exact ⟨t, rfl⟩
  | _ => exact False.elim x
theorem vals_toV {A : List Addr} : ∀ {vs : List Value}, (∀ u ∈ vs, OkU A u) → Vals (vs.map toV) vs
  | [], _ => .nil
  | u :: r, h => .cons (relV_toV (h u (List.mem_cons_self ..))) (vals_toV fun x hx => h x (List.mem_cons_of_mem _ hx))
/-- an object of the arguments -/
def ArgOb (h : Heap) (A : List Addr) (a : Addr) : Prop := ∃ vs : List Value, vs.length ≤ sizeLine ∧ (∀ u ∈ vs, OkU A u) ∧
  (h.get? a = some { cls := .type "list", data := .seq vs.toArray } ∨ h.get? a = some { cls := .type "tuple", data := .seq vs.toArray })
theorem ArgOb.mono {h : Heap} {A B : List Addr} {a : Addr} (k : ∀ a ∈ A, a ∈ B) (x : ArgOb h A a) : ArgOb h B a := by
  obtain ⟨vs, h1, h2, h3⟩ := x
  exact ⟨vs, h1, fun u hu => (h2 u hu).mono k, h3⟩
theorem wellAll_len {P : Params} {h : Heap} : ∀ {vs : List Value} {ds : List WData}, WellAll P h vs ds → vs.length = ds.length
  | _, _, .nil => rfl
  | _, _, .cons _ b => by
    show _ + 1 = _ + 1
    rw [wellAll_len b]
theorem well_list {P : Params} {h : Heap} {v : Value} {ds : List WData} (x : Well P h v (.list ds)) : ∃ (a : Addr) (vs : List Value), v = .ref a ∧ h.get? a = some { cls := .type "list", data := .seq vs.toArray } ∧ WellAll P h vs ds := by
  cases x with
  | list ho hall => exact ⟨_, _, rfl, ho, hall⟩
theorem well_tuple {P : Params} {h : Heap} {v : Value} {ds : List WData} (x : Well P h v (.tuple ds)) : ∃ (a : Addr) (vs : List Value), v = .ref a ∧ h.get? a = some { cls := .type "tuple", data := .seq vs.toArray } ∧ WellAll P h vs ds := by
  cases x with
  | tuple ho hall => exact ⟨_, _, rfl, ho, hall⟩
theorem well_cons {P : Params} {h : Heap} {us : List Value} {d : WData} {ds : List WData} (x : WellAll P h us (d :: ds)) : ∃ (v : Value) (vs : List Value), us = v :: vs ∧ Well P h v d ∧ WellAll P h vs ds := by
  cases x with
  | cons a b => exact ⟨_, _, rfl, a, b⟩
theorem line_of {n : Nat} (h : n ≤ 1048576) : n ≤ sizeLine := Nat.le_trans h (by decide)
section
variable {P : Params} {h : Heap}
mutual
theorem area_one : ∀ (d : WData) (v : Value), Well P h v d → plW d = true → d.weight ≤ 1048576 → ∃ A : List Addr, OkU A v ∧ ∀ a ∈ A, ArgOb h A a
  | .none, _, x, _, _ => by
    cases x
    exact ⟨[], trivial, fun a m => absurd m (by simp)⟩
  | .bool b, _, x, _, _ => by
    cases x
    exact ⟨[], trivial, fun a m => absurd m (by simp)⟩
  | .int i, _, x, _, _ => by
    cases x
    exact ⟨[], trivial, fun a m => absurd m (by simp)⟩
  | .str s, _, x, _, _ => by
    cases x
    exact ⟨[], trivial, fun a m => absurd m (by simp)⟩
  | .bytes b, _, x, _, _ => by
    cases x
    exact ⟨[], trivial, fun a m => absurd m (by simp)⟩
  | .list ds, _, x, p, z => by
    obtain ⟨a, vs, rfl, ho, hall⟩ := well_list x
    have z2 : WData.weightAll ds ≤ 1048576 := z
    obtain ⟨A, h1, h2⟩ := area_all ds _ hall p fun d hd => Nat.le_trans (weight_mem hd) z2
    have k : ∀ b ∈ A, b ∈ a :: A := fun b hb => List.mem_cons_of_mem _ hb
    refine ⟨a :: A, List.mem_cons_self .., fun b hb => ?_⟩
    rcases List.mem_cons.mp hb with e | m
    · rw [e]
      exact ⟨vs, line_of (by rw [wellAll_len hall]; exact Nat.le_trans (PySem.W.length_le_weightAllW ds) z2), fun u hu => (h1 u hu).mono k, .inl ho⟩
    · exact (h2 b m).mono k
  | .tuple ds, _, x, p, z => by
    obtain ⟨a, vs, rfl, ho, hall⟩ := well_tuple x
    have z2 : WData.weightAll ds ≤ 1048576 := z
    obtain ⟨A, h1, h2⟩ := area_all ds _ hall p fun d hd => Nat.le_trans (weight_mem hd) z2
    have k : ∀ b ∈ A, b ∈ a :: A := fun b hb => List.mem_cons_of_mem _ hb
    refine ⟨a :: A, List.mem_cons_self .., fun b hb => ?_⟩
    rcases List.mem_cons.mp hb with e | m
    · rw [e]
      exact ⟨vs, line_of (by rw [wellAll_len hall]; exact Nat.le_trans (PySem.W.length_le_weightAllW ds) z2), fun u hu => (h1 u hu).mono k, .inr ho⟩
    · exact (h2 b m).mono k
  | .float _, _, _, p, _ => Bool.noConfusion (show false = true from p)
  | .dict _, _, _, p, _ => Bool.noConfusion (show false = true from p)
  | .bytearray _, _, _, p, _ => Bool.noConfusion (show false = true from p)
  | .set _, _, _, p, _ => Bool.noConfusion (show false = true from p)
  | .frozenset _, _, _, p, _ => Bool.noConfusion (show false = true from p)
  | .obj _ _, _, _, p, _ => Bool.noConfusion (show false = true from p)
theorem area_all : ∀ (ds : List WData) (vs : List Value), WellAll P h vs ds → plWs ds = true → (∀ d ∈ ds, d.weight ≤ 1048576) → ∃ A : List Addr, (∀ u ∈ vs, OkU A u) ∧ ∀ a ∈ A, ArgOb h A a
  | [], _, x, _, _ => by
    cases x
    exact ⟨[], fun u m => absurd m (by simp), fun a m => absurd m (by simp)⟩
  | d :: ds, _, x, p, z => by
    obtain ⟨v, vs, rfl, x1, x2⟩ := well_cons x
    have q : plW d = true ∧ plWs ds = true := Bool.and_eq_true_iff.mp p
    obtain ⟨A, a1, a2⟩ := area_one d v x1 q.1 (z d (List.mem_cons_self ..))
    obtain ⟨B, b1, b2⟩ := area_all ds vs x2 q.2 fun e he => z e (List.mem_cons_of_mem _ he)
    have kA : ∀ b ∈ A, b ∈ A ++ B := fun b hb => List.mem_append.mpr (.inl hb)
    have kB : ∀ b ∈ B, b ∈ A ++ B := fun b hb => List.mem_append.mpr (.inr hb)
    refine ⟨A ++ B, fun u hu => ?_, fun b hb => ?_⟩
    · rcases List.mem_cons.mp hu with e | m
      · rw [e]
        exact a1.mono kA
      · exact (b1 u m).mono kB
    · rcases List.mem_append.mp hb with m | m
      · exact (a2 b m).mono kA
      · exact (b2 b m).mono kB
end
end
/-- what is tracked of an argument's object -/
def hoOf (o : Obj) : Option HO := match o.data with
  | .seq vs _ => if (o.cls == Value.type "list") = true then some (.frz o (.lst (vs.toList.map toV))) else some (.frz o (.tup (vs.toList.map toV)))
  | _ => none
def argH (K : PySem.W.Frag) (h : Heap) (A : List Addr) : Hp := fun b => if b ∈ A then (if (K.lookup b).isNone = true then (h.get? b).bind hoOf else none) else none
/-- nothing is tracked but what is known to the object -/
def OnlyF (H : Hp) : Prop := ∀ b, H b = none ∨ ∃ o u, H b = some (.frz o u)
theorem hoOf_lst (vs : List Value) : hoOf { cls := .type "list", data := .seq vs.toArray } = some (.frz { cls := .type "list", data := .seq vs.toArray } (.lst (vs.map toV))) := by
  show (if (Value.type "list" == Value.type "list") = true then some (HO.frz { cls := .type "list", data := .seq vs.toArray } (.lst (vs.toArray.toList.map toV))) else some (HO.frz { cls := .type "list", data := .seq vs.toArray } (.tup (vs.toArray.toList.map toV)))) = _
  rw [if_pos (beq_self_eq_true _)]
theorem hoOf_tup (vs : List Value) : hoOf { cls := .type "tuple", data := .seq vs.toArray } = some (.frz { cls := .type "tuple", data := .seq vs.toArray } (.tup (vs.map toV))) := by
  show (if (Value.type "tuple" == Value.type "list") = true then some (HO.frz { cls := .type "tuple", data := .seq vs.toArray } (.lst (vs.toArray.toList.map toV))) else some (HO.frz { cls := .type "tuple", data := .seq vs.toArray } (.tup (vs.toArray.toList.map toV)))) = _
  rw [if_neg (by decide)]
section
variable {P : Program} {w : World} {K : PySem.W.Frag} {h : Heap} {A : List Addr}
theorem argH_at {b : Addr} {o : Obj} (hb : b ∈ A) (hk : K.lookup b = none) (e : h.get? b = some o) : argH K h A b = hoOf o := by
  unfold argH
  rw [if_pos hb, hk, if_pos (show (none : Option Obj).isNone = true from rfl), e] <;> rfl
theorem of_argH {b : Addr} {u : HO} (q : argH K h A b = some u) : b ∈ A ∧ K.lookup b = none := by
  unfold argH at q
  by_cases hb : b ∈ A
  · rw [if_pos hb] at q
    cases hk : K.lookup b with
    | none => exact ⟨hb, rfl⟩
    | some o =>
      rw [hk, if_neg (by simp)] at q
      cases q
  · rw [if_neg hb] at q
    cases q
/-- what stands tracked -/
theorem argH_is (ar : ∀ a ∈ A, ArgOb h A a) {b : Addr} {u : HO} (q : argH K h A b = some u) : K.lookup b = none ∧ ∃ vs : List Value, vs.length ≤ sizeLine ∧ (∀ u ∈ vs, OkU A u) ∧
    ((h.get? b = some { cls := .type "list", data := .seq vs.toArray } ∧ u = .frz { cls := .type "list", data := .seq vs.toArray } (.lst (vs.map toV))) ∨
     (h.get? b = some { cls := .type "tuple", data := .seq vs.toArray } ∧ u = .frz { cls := .type "tuple", data := .seq vs.toArray } (.tup (vs.map toV)))) := by
  obtain ⟨hb, hk⟩ := of_argH q
  obtain ⟨vs, h1, h2, h3⟩ := ar b hb
  refine ⟨hk, vs, h1, h2, ?_⟩
  rcases h3 with e | e
  · rw [argH_at hb hk e, hoOf_lst] at q
    exact .inl ⟨e, (Option.some.inj q).symm⟩
  · rw [argH_at hb hk e, hoOf_tup] at q
    exact .inr ⟨e, (Option.some.inj q).symm⟩
theorem argH_only (ar : ∀ a ∈ A, ArgOb h A a) : OnlyF (argH K h A) := fun b => by
  cases q : argH K h A b with
  | none => exact .inl rfl
  | some u =>
    obtain ⟨_, vs, _, _, ⟨_, e⟩ | ⟨_, e⟩⟩ := argH_is ar q
    · exact .inr ⟨_, _, by rw [e]⟩
    · exact .inr ⟨_, _, by rw [e]⟩
theorem argH_ok (ar : ∀ a ∈ A, ArgOb h A a) : HOk P w (argH K h A) h := fun b u q => by
  obtain ⟨_, vs, h1, h2, ⟨e, rfl⟩ | ⟨e, rfl⟩⟩ := argH_is ar q
  · exact ⟨e, by rw [List.length_map]; exact h1, vs, _, vals_toV h2, e⟩
  · exact ⟨e, by rw [List.length_map]; exact h1, vs, vals_toV h2, _, e, rfl, _, rfl⟩
theorem seq_inj {c c' : Value} {vs us : List Value} (e : (some { cls := c, data := .seq vs.toArray } : Option Obj) = some { cls := c', data := .seq us.toArray }) : c = c' ∧ vs = us := by
  have e1 := Option.some.inj e
  have e2 : c = c' := congrArg Obj.cls e1
  have e3 : Data.seq vs.toArray = Data.seq us.toArray := congrArg Obj.data e1
  injection e3 with e4
  refine ⟨e2, ?_⟩
  have e5 := congrArg Array.toList e4
  simpa using e5
/-- a list argument -/
theorem argL (KX : K.In h) (ar : ∀ a ∈ A, ArgOb h A a) {a : Addr} {vs : List Value} (ha : a ∈ A) (e : h.get? a = some { cls := .type "list", data := .seq vs.toArray }) : (∀ u ∈ vs, OkU A u) ∧ SqL K (argH K h A) a (vs.map toV) := by
  obtain ⟨us, h1, h2, h3⟩ := ar a ha
  have hu : us = vs := by
    rcases h3 with q | q
    · rw [e] at q
      exact (seq_inj q).2.symm
    · rw [e] at q
      exact absurd (Value.type.inj (seq_inj q).1) (by decide)
  subst hu
  refine ⟨h2, ?_⟩
  cases hk : K.lookup a with
  | none => exact .inl (.inr ⟨_, by rw [argH_at ha hk e, hoOf_lst]⟩)
  | some o =>
    have e2 := KX a o hk
    rw [e] at e2
    obtain rfl := Option.some.inj e2
    exact .inr ⟨_, us.toArray, _, hk, rfl, rfl, rfl, by rw [List.size_toArray]; exact h1, by simpa using vals_toV h2⟩
theorem argT (KX : K.In h) (ar : ∀ a ∈ A, ArgOb h A a) {a : Addr} {vs : List Value} (ha : a ∈ A) (e : h.get? a = some { cls := .type "tuple", data := .seq vs.toArray }) : (∀ u ∈ vs, OkU A u) ∧ SqT K (argH K h A) a (vs.map toV) := by
  obtain ⟨us, h1, h2, h3⟩ := ar a ha
  have hu : us = vs := by
    rcases h3 with q | q
    · rw [e] at q
      exact absurd (Value.type.inj (seq_inj q).1) (by decide)
    · rw [e] at q
      exact (seq_inj q).2.symm
  subst hu
  refine ⟨h2, ?_⟩
  cases hk : K.lookup a with
  | none => exact .inl (.inr ⟨_, by rw [argH_at ha hk e, hoOf_tup]⟩)
  | some o =>
    have e2 := KX a o hk
    rw [e] at e2
    obtain rfl := Option.some.inj e2
    exact .inr ⟨_, us.toArray, _, hk, rfl, rfl, by rw [List.size_toArray]; exact h1, by simpa using vals_toV h2⟩
mutual
theorem dw_one {Pm : Params} (KX : K.In h) (ar : ∀ a ∈ A, ArgOb h A a) : ∀ (d : WData) (v : Value), Well Pm h v d → plW d = true → OkU A v → Dw K (argH K h A) (toV v) d
  | .none, _, x, _, _ => by
    cases x
    exact .non
  | .bool b, _, x, _, _ => by
    cases x
    exact .bl b
  | .int i, _, x, _, _ => by
    cases x
    exact .int i
  | .str s, _, x, _, _ => by
    cases x
    exact .str s
  | .bytes b, _, x, _, _ => by
    cases x
    have z := Dw.byt (K := K) (H := argH K h A) b.toArray
    exact z
  | .list ds, _, x, p, hu => by
    obtain ⟨a, vs, rfl, ho, hall⟩ := well_list x
    obtain ⟨h2, hs⟩ := argL KX ar hu ho
    exact .lst hs (dw_all KX ar ds _ hall p h2)
  | .tuple ds, _, x, p, hu => by
    obtain ⟨a, vs, rfl, ho, hall⟩ := well_tuple x
    obtain ⟨h2, hs⟩ := argT KX ar hu ho
    exact .tup hs (dw_all KX ar ds _ hall p h2)
  | .float _, _, _, p, _ => Bool.noConfusion (show false = true from p)
  | .dict _, _, _, p, _ => Bool.noConfusion (show false = true from p)
  | .bytearray _, _, _, p, _ => Bool.noConfusion (show false = true from p)
  | .set _, _, _, p, _ => Bool.noConfusion (show false = true from p)
  | .frozenset _, _, _, p, _ => Bool.noConfusion (show false = true from p)
  | .obj _ _, _, _, p, _ => Bool.noConfusion (show false = true from p)
theorem dw_all {Pm : Params} (KX : K.In h) (ar : ∀ a ∈ A, ArgOb h A a) : ∀ (ds : List WData) (vs : List Value), WellAll Pm h vs ds → plWs ds = true → (∀ u ∈ vs, OkU A u) → DwAll K (argH K h A) (vs.map toV) ds
  | [], _, x, _, _ => by
    cases x
    exact .nil
  | d :: ds, _, x, p, hu => by
    obtain ⟨v, vs, rfl, x1, x2⟩ := well_cons x
    have q : plW d = true ∧ plWs ds = true := Bool.and_eq_true_iff.mp p
    exact .cons (dw_one KX ar d v x1 q.1 (hu _ (List.mem_cons_self ..))) (dw_all KX ar ds vs x2 q.2 fun u m => hu u (List.mem_cons_of_mem _ m))
end
end
/-! ### the call -/
theorem spec_call {P : Program} {w : World} {K : PySem.W.Frag} {mg mb : Str → Option Value} {CX : CXT} {k : Nat} {fa : Addr} {fd : FuncData} {ps : List Str} {sp : Sp} {s₁ : Shared} {vals : List Value} {ds : List WData} {R : PySem.W.WRecords} {cl : Str → Option Addr} {d0 : WData}
    (KX : K.In s₁.heap) (hns : s₁.heap.Ns mainGlobals mg) (hb : s₁.heap.Ns builtinsNs mb) (hbb : ∀ x : Str, x ≠ "__name__" → mb x = bootBuiltins x) (hlim : s₁.heap.NoLimit) (hg : s₁.gens = #[])
    (hwl : WellAll w.params s₁.heap vals ds) (hpl : plWs ds = true) (hwt : ∀ d ∈ ds, d.weight ≤ 1048576) (hr : Room k callerA)
    (F : ∀ base : Heap, K.In base → base.Ns mainGlobals mg → FnOk P w K mg base CX k fa fd ps sp) (hbind : ∀ (s : Shared) (us : List Value), us.length = ps.length → BindsTo s fd ⟨us, []⟩ (ps.zip us)) (hlen : ds.length = ps.length)
    (hsp : ∀ (H : Hp) (xs : List V), OnlyF H → DwAll K H xs ds → sp xs H (fun v H' => Dw K H' v d0) fun _ _ _ => False)
    (hCX : ∀ H e s', CX [] H s₁ (fun _ _ _ => False) e s' → False) :
    codeAny (model P w) callerA (.call (.ref fa) ⟨vals, []⟩) (fun r s' => ∃ u as, r = .ok (.ret u) ∧ ReadsW R cl s'.heap u d0 as ∧ OldK s₁.heap s'.heap ∧ s'.os = s₁.os ∧ AllBare s'.gens) s₁ := by
  obtain ⟨A, ho, ar⟩ := area_all ds vals hwl hpl hwt
  have hO : OnlyF (argH K s₁.heap A) := argH_only ar
  have hok : HOk P w (argH K s₁.heap A) s₁.heap := argH_ok ar
  have hS := dw_all KX ar ds vals hwl hpl ho
  have hV := vals_toV ho
  have hK : ∀ b u, argH K s₁.heap A b = some u → K.lookup b = none := fun b u q => (argH_is ar q).1
  have noA : ∀ {b : Addr} {o : Obj} {es : Array DictEntry} {ep : Nat}, s₁.heap.get? b = some o → o.data = .dict es ep → argH K s₁.heap A b = none := fun {b o es ep} e d => by
    cases q : argH K s₁.heap A b with
    | none => rfl
    | some u =>
      obtain ⟨_, vs, _, _, ⟨e2, _⟩ | ⟨e2, _⟩⟩ := argH_is ar q
      · rw [e2] at e
        cases e
        have d' : Data.seq vs.toArray _ = Data.dict es ep := d
        cases d'
      · rw [e2] at e
        cases e
        have d' : Data.seq vs.toArray _ = Data.dict es ep := d
        cases d'
  generalize argH K s₁.heap A = H at hO hok hS hK noA
  have base_of : ∀ {b : Addr} {o : Obj}, s₁.heap.get? b = some o → H b = none → (hidT s₁.heap H).get? b = some o := fun e n => hidT_get e n
  have nsK : ∀ {b : Addr} {m : Str → Option Value}, s₁.heap.Ns b m → (hidT s₁.heap H).Ns b m := fun {b m} ⟨o, es, ep, e, d, r⟩ => ⟨o, es, ep, base_of e (noA e d), d, r⟩
  have nK : ∀ b o, K.lookup b = some o → H b = none := fun b o e => by
    cases q : H b with
    | none => rfl
    | some u =>
      rw [hK b u q] at e
      cases e
  have hKb : K.In (hidT s₁.heap H) := fun b o e => base_of (KX b o e) (nK b o e)
  have hM : Mod K mg (hidT s₁.heap H) := ⟨hKb, nsK hns, ⟨mb, nsK hb, hbb⟩, let ⟨mc, h1, h2⟩ := hlim; ⟨mc, nsK h1, h2⟩⟩
  have e0 : Env0 P w K mg (hidT s₁.heap H) callerA [] s₁ H := ⟨rfl, hM, fun b o e => of_hidT e, Nat.le_of_eq (hidT_size _ _), trivial, fun b hb => absurd (show b ∈ ([] : List Addr) from hb) (by simp), hok, .of_eq hg⟩
  have hl : vals.length = ps.length := by rw [wellAll_len hwl]; exact hlen
  refine codeAny_mono ((F _ hKb (nsK hns)).run callerA [] s₁ H ⟨vals, []⟩ vals (vals.map toV) _ _ hr e0 (hbind s₁ vals hl) hV (hsp H _ hO hS)) fun r s' x => ?_
  cases r with
  | error e => exact (hCX H e s' x).elim
  | ok fl =>
    cases fl with
    | next => exact False.elim x
    | brk => exact False.elim x
    | cont => exact False.elim x
    | ret u =>
      obtain ⟨v, H', os, bare, un, hok', r', q⟩ := x
      have kept : ∀ b o, s₁.heap.get? b = some o → s'.heap.get? b = some o := fun b o e => by
        cases q2 : H b with
        | none => exact un.keep b o e q2 (by intro z; exact absurd (show b ∈ ([] : List Addr) from z) (by simp)) (by simp)
        | some u2 =>
          rcases hO b with z | ⟨ob, u3, z⟩
          · rw [q2] at z
            cases z
          · have z2 := un.frzs b ob _ z
            obtain ⟨e1, _⟩ := hok b _ z
            obtain ⟨e2, _⟩ := hok' b _ z2
            rw [e] at e1
            cases e1
            exact e2
      have KX' : K.In s'.heap := fun b o e => kept b o (KX b o e)
      obtain ⟨as, hrd⟩ := Dw.reads (R := R) (cl := cl) hok' KX' d0 v u q r'
      exact ⟨u, as, rfl, hrd, OldK.of_keep kept, os, bare⟩
/-! ### the row -/
theorem layable_weight {ds : List WData} (h : WData.layableAll ds = true) : ∀ d ∈ ds, d.weight ≤ 1048576 := fun d hd =>
  (PySem.W.layableW_iff.mp (List.all_eq_true.mp h d hd)).2.2
theorem encAll_len : ∀ (cs : List Codec) (a : Codec.denoteAll cs), (Codec.encAll cs a).length = cs.length
  | [], _ => rfl
  | c :: cs, a => by
    show (Codec.encAll cs a.2).length + 1 = cs.length + 1
    rw [encAll_len cs a.2]
/-- the goal that k_headS leaves (case hc), from the promise of the row's def: whatever the arguments that the codecs let and the row asks for, the def gives what stands for enc (f ..) -/
theorem walk_spec {r : OpenSpec} {k : Nat} {q : Program} {loose : List Str} {XP : (Str → Option Value) → Heap → Prop} {YP : World → Heap → Prop} {d : DefRec} {K : Params → PySem.W.Frag} {CX : World → CXT} {ps : List Str} {sp : World → Sp}
    (hwell : r.wellSaid = true) (hdf : d.params.defaults = []) (hlen : r.args.length = ps.length) (hr : Room k callerA)
    (hY : ∀ (w : World) (h : Heap), YP w h → (K w.params).In h)
    (F : ∀ (w : World) (mg : Str → Option Value) (fa : Addr) (h : Heap), YP w h → (K w.params).In h → h.Ns mainGlobals mg → mg d.name = some (.ref fa) →
      ∃ fd : FuncData, (∀ (s : Shared) (us : List Value), us.length = ps.length → BindsTo s fd ⟨us, []⟩ (ps.zip us)) ∧
        ∀ base : Heap, (K w.params).In base → base.Ns mainGlobals mg → FnOk r.prog w (K w.params) mg base (CX w) k fa fd ps (sp w))
    (hsp : ∀ (w : World) (H : Hp) (xs : List V) (a : Codec.denoteAll r.args), OnlyF H → Codec.withinAll r.args a = true → Codec.app r.args r.asked a = true → DwAll (K w.params) H xs (Codec.encAll r.args a) →
      sp w xs H (fun v H' => Dw (K w.params) H' v (r.ret.enc (Codec.app r.args r.f a))) fun _ _ _ => False)
    (hCX : ∀ (w : World) (H : Hp) (s : Shared) (e : Value) (s' : Shared), CX w [] H s (fun _ _ _ => False) e s' → False) :
    PySem.W.WalkOS q loose XP YP r d [] (fun f vs => PySem.call f vs) := by
  intro w s_0 s₁ mg mb G Y fa o pm cd doc dV kV ho hd hcd hD hmg hg args vals as hpre hlay hrd hwl hlo
  obtain ⟨a, e1, e2⟩ := PySem.W.os_pre_some hpre
  obtain ⟨e3, hwi⟩ := Codec.encAll_of_decAll r.args args a e1
  subst e3
  have KX := hY w _ Y
  obtain ⟨fd, hb, hF⟩ := F w mg fa _ Y KX G.T.g hmg
  refine PySem.W.enter_call (codeAny_mono (spec_call (R := []) (cl := classAt s_0.heap) (d0 := r.ret.enc (Codec.app r.args r.f a)) KX G.T.g G.T.b G.T.builtins G.T.nolimit hg hwl (pl_encAll _ _) (layable_weight hlay) hr hF hb (by rw [encAll_len]; exact hlen)
    (fun H xs hO hS => hsp w H xs a hO hwi e2 hS) fun H e s' => hCX w H s₁ e s') fun r' s' hq => ?_)
  obtain ⟨u, as', rfl, h1, h2, h3, h4⟩ := hq
  exact ⟨.inl ⟨u, _, as', rfl, fun _ => rfl, h1, (OpenSpec.post_iff hwell hwi _ _).mpr rfl, fun z => Bool.noConfusion (show false = true from z)⟩, h2, h3, h4⟩
/-- the same where the promise hangs on the written part alone -/
theorem walk_specK {r : OpenSpec} {k : Nat} {q : Program} {loose : List Str} {XP : (Str → Option Value) → Heap → Prop} {YP : World → Heap → Prop} {d : DefRec} {K : Params → PySem.W.Frag} {CX : CXT} {ps : List Str} {sp : PySem.W.Frag → Sp}
    (hwell : r.wellSaid = true) (hdf : d.params.defaults = []) (hlen : r.args.length = ps.length) (hr : Room k callerA)
    (hY : ∀ (w : World) (h : Heap), YP w h → (K w.params).In h)
    (F : ∀ (w : World) (mg : Str → Option Value) (fa : Addr) (h : Heap), YP w h → (K w.params).In h → h.Ns mainGlobals mg → mg d.name = some (.ref fa) →
      ∃ fd : FuncData, (∀ (s : Shared) (us : List Value), us.length = ps.length → BindsTo s fd ⟨us, []⟩ (ps.zip us)) ∧
        ∀ base : Heap, (K w.params).In base → base.Ns mainGlobals mg → FnOk r.prog w (K w.params) mg base CX k fa fd ps (sp (K w.params)))
    (hsp : ∀ (K : PySem.W.Frag) (H : Hp) (xs : List V) (a : Codec.denoteAll r.args), OnlyF H → Codec.withinAll r.args a = true → Codec.app r.args r.asked a = true → DwAll K H xs (Codec.encAll r.args a) →
      sp K xs H (fun v H' => Dw K H' v (r.ret.enc (Codec.app r.args r.f a))) fun _ _ _ => False)
    (hCX : ∀ (H : Hp) (s : Shared) (e : Value) (s' : Shared), CX [] H s (fun _ _ _ => False) e s' → False) :
    PySem.W.WalkOS q loose XP YP r d [] (fun f vs => PySem.call f vs) :=
  walk_spec (K := K) (CX := fun _ => CX) (sp := fun w => sp (K w.params)) hwell hdf hlen hr hY F (fun w H xs a h1 h2 h3 h4 => hsp (K w.params) H xs a h1 h2 h3 h4) fun _ H s e s' => hCX H s e s'
end L2
end
end
section
set_option Elab.async false
set_option linter.all false
set_option maxRecDepth 100000
/-! The program as plain functions over plain data (a mirror), and what it has to do with the document's reader. -/
namespace Sr
/-- what a step does -/
inductive Dd where
  | go | add | high | low | fin | wrong
  deriving DecidableEq
structure Stp where
  deed : Dd
  st : Int
  n : Int
/-- a reader, as the program keeps it -/
structure Mir where
  st : Int
  n : Int
  cur : List Int
  hi : Int
  wait : List (Int × List Int)
  flt : Int
def goWrong (m : Mir) : Mir := { m with st := 15, flt := m.n }
def addByte (m : Mir) (b : Int) : Mir := if m.cur.length = 255 then goWrong m else { m with cur := m.cur ++ [b] }
def doStep (m : Mir) (t : Stp) : Mir := match t.deed with
  | .go => { m with st := t.st }
  | .add => addByte { m with st := t.st } t.n
  | .high => { m with st := t.st, hi := t.n }
  | .low => addByte { m with st := t.st } (m.hi * 16 + t.n)
  | .fin => { m with st := t.st, wait := m.wait ++ [(t.n, m.cur)], cur := [] }
  | .wrong => goWrong { m with st := t.st }
def goes (st : Int) : Stp := ⟨.go, st, 0⟩
def adds (b st : Int) : Stp := ⟨.add, st, b⟩
def finishes (k : Int) : Stp := ⟨.fin, 0, k⟩
def wrongS : Stp := ⟨.wrong, 15, 0⟩
def hexV (c : Int) : Int := if Sg04.digit c = true then c - 48 else if (decide (97 ≤ c) && decide (c ≤ 102)) = true then c - 97 + 10 else if (decide (65 ≤ c) && decide (c ≤ 70)) = true then c - 65 + 10 else -1
def isN (n c : Int) : Bool := decide (c = n)
def startL (c : Int) : List Stp :=
  if Sg04.blank c = true then [goes 0]
  else if Sg04.letter c = true then [adds c 1]
  else if isN 45 c = true then [adds c 2]
  else if isN 48 c = true then [adds c 3]
  else if Sg04.digit c = true then [adds c 4]
  else if isN 34 c = true then [goes 10]
  else if isN 35 c = true then [goes 14]
  else if Sg04.mark c = true then [adds c 0, finishes 5]
  else if isN (-1) c = true then [goes 15]
  else [wrongS]
theorem startL_len (c : Int) : (startL c).length ≤ 2 := by
  unfold startL
  repeat' split
  all_goals simp
def wordL (c : Int) : List Stp := if (Sg04.letter c || Sg04.digit c) = true then [adds c 1] else finishes 1 :: startL c
def minusL (c : Int) : List Stp := if isN 48 c = true then [adds c 3] else if Sg04.digit c = true then [adds c 4] else [wrongS]
def zeroL (c : Int) : List Stp := if isN 46 c = true then [adds c 5] else if Sg04.power c = true then [adds c 7] else if (Sg04.digit c || Sg04.letter c) = true then [wrongS] else finishes 2 :: startL c
def wholeL (c : Int) : List Stp := if Sg04.digit c = true then [adds c 4] else if isN 46 c = true then [adds c 5] else if Sg04.power c = true then [adds c 7] else if Sg04.letter c = true then [wrongS] else finishes 2 :: startL c
def pointL (c : Int) : List Stp := if Sg04.digit c = true then [adds c 6] else [wrongS]
def fractionL (c : Int) : List Stp := if Sg04.digit c = true then [adds c 6] else if Sg04.power c = true then [adds c 7] else if Sg04.letter c = true then [wrongS] else finishes 3 :: startL c
def eL (c : Int) : List Stp := if (isN 43 c || isN 45 c) = true then [adds c 8] else if Sg04.digit c = true then [adds c 9] else [wrongS]
def signL (c : Int) : List Stp := if Sg04.digit c = true then [adds c 9] else [wrongS]
def exponentL (c : Int) : List Stp := if Sg04.digit c = true then [adds c 9] else if Sg04.letter c = true then [wrongS] else finishes 3 :: startL c
def textL (c : Int) : List Stp := if isN 34 c = true then [finishes 4] else if isN 92 c = true then [goes 11] else if decide (c < 32) = true then [wrongS] else [adds c 10]
def escapeL (c : Int) : List Stp := if isN 110 c = true then [adds 10 10] else if isN 116 c = true then [adds 9 10] else if (isN 92 c || isN 34 c) = true then [adds c 10] else if isN 120 c = true then [goes 12] else [wrongS]
def hexL (c : Int) : List Stp := if decide (hexV c < 0) = true then [wrongS] else [⟨.high, 13, hexV c⟩]
def lowL (c : Int) : List Stp := if decide (hexV c < 0) = true then [wrongS] else [⟨.low, 10, hexV c⟩]
def commentL (c : Int) : List Stp := if isN 10 c = true then [goes 0] else if isN (-1) c = true then [goes 15] else [goes 14]
def table : List (Int → List Stp) := [startL, wordL, minusL, zeroL, wholeL, pointL, fractionL, eL, signL, exponentL, textL, escapeL, hexL, lowL, commentL]
def stepsOf (k c : Int) : List Stp := (table.getD k.toNat (fun _ => [])) c
def isFin (t : Stp) : Bool := decide (t.deed = .fin)
def countFin (l : List Stp) : Nat := (l.filter isFin).length
/-- hand -/
def refusedM (m : Mir) (k c : Int) : Bool := decide (k ≠ m.st) || (decide (k = 15) || (decide (c < -1) || decide (255 < c)))
def handedM (m : Mir) (c : Int) : Mir := if c = -1 then m else { m with n := m.n + 1 }
def handM (m : Mir) (k c : Int) : Mir × Int :=
  if refusedM m k c = true then (m, -1)
  else if 64 < m.wait.length + countFin (stepsOf k c) then (m, -1)
  else (handedM ((stepsOf k c).foldl doStep m) c, ((stepsOf k c).foldl doStep m).st)
/-- run -/
def runM (m : Mir) : List Int → Mir × Int
  | [] => (m, m.st)
  | c :: r => if (handM m m.st c).2 = -1 then ((handM m m.st c).1, -1) else runM (handM m m.st c).1 r

/-! ### the mirror and the document's reader -/
open Sg04 (Kind)
def bys (b : List UInt8) : List Int := b.map fun (c : UInt8) => (c.toNat : Int)
def tokM (t : Nat × List UInt8) : Int × List Int := ((t.1 : Int), bys t.2)
def fltOf : Option Nat → Int
  | none => -1
  | some n => (n : Int)
def num (k : Kind) : Int := Sg04Neutral.numberOf k
structure R (m : Mir) (s : Sg04.St) : Prop where
  st : m.st = num s.state
  n : m.n = (s.count : Int)
  cur : s.state ≠ .over_ → m.cur = bys s.bytes
  hi : m.hi = (s.high : Int)
  wait : m.wait = s.waiting.map tokM
  flt : m.flt = fltOf s.fault
structure Good (s : Sg04.St) : Prop where
  bytes : s.bytes.length ≤ 255
  high : s.high ≤ 15
  toks : ∀ t ∈ s.waiting, t.2.length ≤ 255
  start : (s.state = .start_ ∨ s.state = .comment_) → s.bytes = []
theorem bys_append (a b : List UInt8) : bys (a ++ b) = bys a ++ bys b := by simp [bys]
theorem bys_length (a : List UInt8) : (bys a).length = a.length := by simp [bys]
theorem bys_one {c : Int} (h0 : 0 ≤ c) (h1 : c ≤ 255) : bys [UInt8.ofNat c.toNat] = [c] := by
  have e : (UInt8.ofNat c.toNat).toNat = c.toNat := by rw [UInt8.toNat_ofNat']; omega
  simp only [bys, List.map_cons, List.map_nil, e]
  rw [Int.toNat_of_nonneg h0]
theorem num_ne : ∀ k : Kind, k ≠ .over_ → num k ≠ 15 := by intro k; cases k <;> decide
theorem num_inj : ∀ a b : Kind, num a = num b → a = b := by intro a b; cases a <;> cases b <;> decide

/-- one step of the mirror and the reader's own -/
theorem R.goes {m : Mir} {s : Sg04.St} (r : R m s) (k : Kind) {z : Int} (hz : z = num k) (h : k ≠ .over_ → s.state ≠ .over_) : R (doStep m (Sr.goes z)) (s.go k) :=
  ⟨hz, r.n, fun hk => r.cur (h hk), r.hi, r.wait, r.flt⟩
theorem R.wrong {m : Mir} {s : Sg04.St} (r : R m s) : R (doStep m Sr.wrongS) s.wrong :=
  ⟨rfl, r.n, fun hk => absurd rfl hk, r.hi, r.wait, by
    show m.n = fltOf (some s.count)
    exact r.n⟩
theorem R.goWrong {m : Mir} {s : Sg04.St} (r : R m s) (z : Int) : R (Sr.goWrong { m with st := z }) s.wrong :=
  ⟨rfl, r.n, fun hk => absurd rfl hk, r.hi, r.wait, by
    show m.n = fltOf (some s.count)
    exact r.n⟩
theorem R.addB {m : Mir} {s : Sg04.St} (r : R m s) (g : Good s) (hs : s.state ≠ .over_) (k : Kind) {z b : Int} {c : Nat} (hz : z = num k) (hb : b = (c : Int)) (h1 : c ≤ 255) : R (addByte { m with st := z } b) (s.add c k) := by
  have hl : m.cur.length = s.bytes.length := by rw [r.cur hs, bys_length]
  have gb := g.bytes
  unfold addByte Sg04.St.add
  by_cases h : s.bytes.length = 255
  · rw [if_pos (by show m.cur.length = 255; omega), if_pos (by show (255 : Nat) ≤ s.bytes.length; omega)]
    exact r.goWrong z
  · rw [if_neg (by show ¬ m.cur.length = 255; omega), if_neg (by show ¬ (255 : Nat) ≤ s.bytes.length; omega)]
    refine ⟨hz, r.n, fun _ => ?_, r.hi, r.wait, r.flt⟩
    show m.cur ++ [b] = bys (s.bytes ++ [UInt8.ofNat c])
    have e := bys_one (c := (c : Int)) (by omega) (by omega)
    rw [Int.toNat_natCast] at e
    rw [bys_append, r.cur hs, hb, e]
theorem R.adds {m : Mir} {s : Sg04.St} (r : R m s) (g : Good s) (hs : s.state ≠ .over_) (k : Kind) {z b : Int} {c : Nat} (hz : z = num k) (hb : b = (c : Int)) (h1 : c ≤ 255) : R (doStep m (Sr.adds b z)) (s.add c k) :=
  r.addB g hs k hz hb h1
theorem R.finishes {m : Mir} {s : Sg04.St} (r : R m s) (hs : s.state ≠ .over_) {z : Int} {k : Nat} (hz : z = (k : Int)) : R (doStep m (Sr.finishes z)) (s.finish k) :=
  ⟨rfl, r.n, fun _ => rfl, r.hi, by
    show m.wait ++ [(z, m.cur)] = (s.waiting ++ [(k, s.bytes)]).map tokM
    rw [List.map_append, ← r.wait, r.cur hs, hz]
    rfl, r.flt⟩
/-- what keeps a reader good -/
theorem Good.go {s : Sg04.St} (g : Good s) {k : Kind} (h : (k = .start_ ∨ k = .comment_) → s.bytes = []) : Good (s.go k) := ⟨g.bytes, g.high, g.toks, h⟩
theorem Good.wrong {s : Sg04.St} (g : Good s) : Good s.wrong := ⟨Nat.zero_le _, g.high, g.toks, fun _ => rfl⟩
theorem Good.add {s : Sg04.St} (g : Good s) {c : Nat} {k : Kind} (h : k ≠ .start_ ∧ k ≠ .comment_) : Good (s.add c k) := by
  unfold Sg04.St.add
  by_cases hl : Sg04.MOST ≤ s.bytes.length
  · rw [if_pos hl]; exact g.wrong
  · rw [if_neg hl]
    have hl' : ¬ (255 : Nat) ≤ s.bytes.length := hl
    refine ⟨?_, g.high, g.toks, fun q => ?_⟩
    · show (s.bytes ++ [UInt8.ofNat c]).length ≤ 255
      rw [List.length_append, List.length_singleton]; omega
    · rcases q with q | q
      · exact absurd q h.1
      · exact absurd q h.2
theorem Good.finish {s : Sg04.St} (g : Good s) {k : Nat} : Good (s.finish k) := ⟨Nat.zero_le _, g.high, fun t ht => by
  have ht' : t ∈ s.waiting ++ [(k, s.bytes)] := ht
  rcases List.mem_append.mp ht' with h | h
  · exact g.toks t h
  · have e : t = (k, s.bytes) := by simpa using h
    rw [e]; exact g.bytes, fun _ => rfl⟩
theorem add_waiting (s : Sg04.St) (c : Nat) (k : Kind) : (s.add c k).waiting = s.waiting := by
  unfold Sg04.St.add
  by_cases hl : Sg04.MOST ≤ s.bytes.length
  · rw [if_pos hl]; rfl
  · rw [if_neg hl]
/-- the three facts that a byte's steps keep -/
structure Did (m : Mir) (s : Sg04.St) (l : List Stp) (t : Sg04.St) : Prop where
  rel : R (l.foldl doStep m) t
  good : Good t
  len : t.waiting.length = s.waiting.length + countFin l
  cnt : t.count = s.count
theorem toNat_of {c : Int} (h : 0 ≤ c) : c = (c.toNat : Int) := (Int.toNat_of_nonneg h).symm
theorem letter_pos {c : Int} (h : Sg04.letter c = true) : 0 ≤ c ∧ c ≤ 255 := by
  simp only [Sg04.letter, Bool.or_eq_true, Bool.and_eq_true, decide_eq_true_eq, beq_iff_eq] at h; omega
theorem digit_pos {c : Int} (h : Sg04.digit c = true) : 0 ≤ c ∧ c ≤ 255 := by
  simp only [Sg04.digit, Bool.and_eq_true, decide_eq_true_eq] at h; omega
theorem power_pos {c : Int} (h : Sg04.power c = true) : 0 ≤ c ∧ c ≤ 255 := by
  simp only [Sg04.power, Bool.or_eq_true, beq_iff_eq] at h; omega
theorem mark_pos {c : Int} (h : Sg04.mark c = true) : 0 ≤ c ∧ c ≤ 255 := by
  have e : c ∈ ([123, 125, 91, 93, 58, 44, 61] : List Int) := by
    unfold Sg04.mark at h
    exact List.contains_iff_mem.mp h
  simp only [List.mem_cons, List.not_mem_nil, or_false] at e
  omega
theorem is_pos {n c : Int} (h : isN n c = true) : c = n := of_decide_eq_true h
theorem is_iff {n c : Int} : isN n c = true ↔ c = n := decide_eq_true_iff
section
variable {m : Mir} {s : Sg04.St} {c : Int}
theorem nok {P : Prop} {k : Kind} (h : k ≠ .start_ ∧ k ≠ .comment_) : (k = .start_ ∨ k = .comment_) → P := fun q => q.elim (fun z => absurd z h.1) fun z => absurd z h.2
theorem did_go (r : R m s) (g : Good s) (hs : s.state ≠ .over_) (k : Kind) {z : Int} (hz : z = num k) (h : (k = .start_ ∨ k = .comment_) → s.bytes = []) : Did m s [goes z] (s.go k) :=
  ⟨r.goes k hz fun _ => hs, g.go h, rfl, rfl⟩
theorem did_wrong (r : R m s) (g : Good s) : Did m s [wrongS] s.wrong := ⟨r.wrong, g.wrong, rfl, rfl⟩
theorem add_count (s : Sg04.St) (c : Nat) (k : Kind) : (s.add c k).count = s.count := by
  unfold Sg04.St.add
  by_cases hl : Sg04.MOST ≤ s.bytes.length
  · rw [if_pos hl]; rfl
  · rw [if_neg hl]
theorem did_add (r : R m s) (g : Good s) (hs : s.state ≠ .over_) (k : Kind) {z b : Int} {c : Nat} (hz : z = num k) (hb : b = (c : Int)) (h1 : c ≤ 255) (h : k ≠ .start_ ∧ k ≠ .comment_) : Did m s [adds b z] (s.add c k) :=
  ⟨r.adds g hs k hz hb h1, g.add h, by rw [add_waiting]; rfl, add_count ..⟩
theorem did_start (r : R m s) (g : Good s) (hs : s.state = .start_) (h0 : -1 ≤ c) (h1 : c ≤ 255) : Did m s (startL c) (s.starts c) := by
  have ho : s.state ≠ .over_ := by rw [hs]; decide
  have hb := g.start (.inl hs)
  unfold startL Sg04.St.starts
  by_cases q1 : Sg04.blank c = true
  · rw [if_pos q1, if_pos q1]
    have e := did_go r g ho .start_ (z := 0) rfl fun _ => hb
    have e2 : s.go .start_ = s := by
      cases s; cases hs; rfl
    rw [e2] at e
    exact e
  rw [if_neg q1, if_neg q1]
  by_cases q2 : Sg04.letter c = true
  · rw [if_pos q2, if_pos q2]
    have p := letter_pos q2
    exact did_add r g ho .word_ rfl (toNat_of p.1) (by omega) ⟨by decide, by decide⟩
  rw [if_neg q2, if_neg q2]
  by_cases q3 : c = 45
  · rw [if_pos (is_iff.mpr q3), if_pos q3]
    exact did_add r g ho .minus_ rfl q3 (by omega) ⟨by decide, by decide⟩
  rw [if_neg (fun z => q3 (is_iff.mp z)), if_neg q3]
  by_cases q4 : c = 48
  · rw [if_pos (is_iff.mpr q4), if_pos q4]
    exact did_add r g ho .zero_ rfl q4 (by omega) ⟨by decide, by decide⟩
  rw [if_neg (fun z => q4 (is_iff.mp z)), if_neg q4]
  by_cases q5 : Sg04.digit c = true
  · rw [if_pos q5, if_pos q5]
    have p := digit_pos q5
    exact did_add r g ho .whole_ rfl (toNat_of p.1) (by omega) ⟨by decide, by decide⟩
  rw [if_neg q5, if_neg q5]
  by_cases q6 : c = 34
  · rw [if_pos (is_iff.mpr q6), if_pos q6]
    exact did_go r g ho .text_ rfl (nok (by decide))
  rw [if_neg (fun z => q6 (is_iff.mp z)), if_neg q6]
  by_cases q7 : c = 35
  · rw [if_pos (is_iff.mpr q7), if_pos q7]
    exact did_go r g ho .comment_ rfl fun _ => hb
  rw [if_neg (fun z => q7 (is_iff.mp z)), if_neg q7]
  by_cases q8 : Sg04.mark c = true
  · rw [if_pos q8, if_pos q8]
    have p := mark_pos q8
    have e : s.add c.toNat .start_ = { s with state := .start_, bytes := s.bytes ++ [UInt8.ofNat c.toNat] } := by
      unfold Sg04.St.add
      rw [if_neg (by rw [hb]; decide)]
    have r1 := r.adds g ho .start_ (z := 0) (b := c) (c := c.toNat) rfl (toNat_of p.1) (by omega)
    rw [e] at r1 ⊢
    have r2 := r1.finishes (z := 5) (k := 5) (by show Kind.start_ ≠ Kind.over_; decide) rfl
    refine ⟨r2, ⟨Nat.zero_le _, g.high, fun t ht => ?_, fun _ => rfl⟩, ?_, rfl⟩
    · have ht' : t ∈ s.waiting ++ [(5, s.bytes ++ [UInt8.ofNat c.toNat])] := ht
      rcases List.mem_append.mp ht' with h | h
      · exact g.toks t h
      · have e : t = (5, s.bytes ++ [UInt8.ofNat c.toNat]) := by simpa using h
        rw [e, hb]; exact (by decide : 1 ≤ 255)
    · show (s.waiting ++ [(5, s.bytes ++ [UInt8.ofNat c.toNat])]).length = s.waiting.length + 1
      rw [List.length_append]; rfl
  rw [if_neg q8, if_neg q8]
  by_cases q9 : c = -1
  · rw [if_pos (is_iff.mpr q9), if_pos q9]
    exact ⟨r.goes .over_ rfl fun z => absurd rfl z, g.go (nok (by decide)), rfl, rfl⟩
  rw [if_neg (fun z => q9 (is_iff.mp z)), if_neg q9]
  exact did_wrong r g
theorem did_fin (r : R m s) (g : Good s) (hs : s.state ≠ .over_) (h0 : -1 ≤ c) (h1 : c ≤ 255) {z : Int} {k : Nat} (hz : z = (k : Int)) : Did m s (finishes z :: startL c) ((s.finish k).starts c) := by
  have d := did_start (r.finishes hs hz) (g.finish (k := k)) rfl h0 h1
  refine ⟨d.rel, d.good, ?_, d.cnt⟩
  rw [d.len]
  show (s.waiting ++ [(k, s.bytes)]).length + countFin (startL c) = s.waiting.length + ((finishes z :: startL c).filter isFin).length
  rw [List.length_append, List.filter_cons, if_pos (show isFin (finishes z) = true from rfl), List.length_cons]
  show s.waiting.length + 1 + (countFin (startL c)) = s.waiting.length + (countFin (startL c) + 1)
  omega
theorem hex_same (c : Int) : (Sg04.hex c = none ∧ hexV c < 0) ∨ ∃ x : Nat, Sg04.hex c = some x ∧ hexV c = (x : Int) ∧ x ≤ 15 := by
  unfold Sg04.hex hexV
  by_cases h1 : Sg04.digit c = true
  · have h1' := h1
    simp only [Sg04.digit, Bool.and_eq_true, decide_eq_true_eq] at h1'
    rw [if_pos h1, if_pos h1]
    exact .inr ⟨c.toNat - 48, rfl, by omega, by omega⟩
  rw [if_neg h1, if_neg h1]
  by_cases h2 : 97 ≤ c ∧ c ≤ 102
  · rw [if_pos h2, if_pos (by rw [Bool.and_eq_true, decide_eq_true_eq, decide_eq_true_eq]; exact h2)]
    exact .inr ⟨c.toNat - 87, rfl, by omega, by omega⟩
  have bh2 : ¬ (decide (97 ≤ c) && decide (c ≤ 102)) = true := fun z => h2 (by rw [Bool.and_eq_true, decide_eq_true_eq, decide_eq_true_eq] at z; exact z)
  rw [if_neg h2, if_neg bh2]
  by_cases h3 : 65 ≤ c ∧ c ≤ 70
  · rw [if_pos h3, if_pos (by rw [Bool.and_eq_true, decide_eq_true_eq, decide_eq_true_eq]; exact h3)]
    exact .inr ⟨c.toNat - 55, rfl, by omega, by omega⟩
  have bh3 : ¬ (decide (65 ≤ c) && decide (c ≤ 70)) = true := fun z => h3 (by rw [Bool.and_eq_true, decide_eq_true_eq, decide_eq_true_eq] at z; exact z)
  rw [if_neg h3, if_neg bh3]
  exact .inl ⟨rfl, by decide⟩
theorem or_iff {a b : Bool} : (a || b) = true ↔ (a = true ∨ b = true) := Bool.or_eq_true_iff
theorem did_step (r : R m s) (g : Good s) (hs : s.state ≠ .over_) (h0 : -1 ≤ c) (h1 : c ≤ 255) : Did m s (stepsOf (num s.state) c) (s.step c) := by
  cases k : s.state with
  | start_ =>
    show Did m s (startL c) _
    rw [show s.step c = s.starts c by unfold Sg04.St.step; rw [k]]
    exact did_start r g k h0 h1
  | word_ =>
    show Did m s (wordL c) _
    rw [show s.step c = (if Sg04.letter c = true ∨ Sg04.digit c = true then s.add c.toNat .word_ else (s.finish 1).starts c) by unfold Sg04.St.step; rw [k]]
    unfold wordL
    by_cases q : Sg04.letter c = true ∨ Sg04.digit c = true
    · rw [if_pos q, if_pos (or_iff.mpr q)]
      have p : 0 ≤ c ∧ c ≤ 255 := q.elim letter_pos digit_pos
      exact did_add r g hs .word_ rfl (toNat_of p.1) (by omega) (by decide)
    · rw [if_neg q, if_neg (fun z => q (or_iff.mp z))]
      exact did_fin r g hs h0 h1 rfl
  | minus_ =>
    show Did m s (minusL c) _
    rw [show s.step c = (if c = 48 then s.add 48 .zero_ else if Sg04.digit c = true then s.add c.toNat .whole_ else s.wrong) by unfold Sg04.St.step; rw [k]]
    unfold minusL
    by_cases q : c = 48
    · rw [if_pos q, if_pos (is_iff.mpr q)]
      exact did_add r g hs .zero_ rfl q (by omega) (by decide)
    rw [if_neg q, if_neg (fun z => q (is_iff.mp z))]
    by_cases q2 : Sg04.digit c = true
    · rw [if_pos q2, if_pos q2]
      have p := digit_pos q2
      exact did_add r g hs .whole_ rfl (toNat_of p.1) (by omega) (by decide)
    rw [if_neg q2, if_neg q2]
    exact did_wrong r g
  | zero_ =>
    show Did m s (zeroL c) _
    rw [show s.step c = (if c = 46 then s.add 46 .point_ else if Sg04.power c = true then s.add c.toNat .e_ else if Sg04.digit c = true ∨ Sg04.letter c = true then s.wrong else (s.finish 2).starts c) by unfold Sg04.St.step; rw [k]]
    unfold zeroL
    by_cases q : c = 46
    · rw [if_pos q, if_pos (is_iff.mpr q)]
      exact did_add r g hs .point_ rfl q (by omega) (by decide)
    rw [if_neg q, if_neg (fun z => q (is_iff.mp z))]
    by_cases q2 : Sg04.power c = true
    · rw [if_pos q2, if_pos q2]
      have p := power_pos q2
      exact did_add r g hs .e_ rfl (toNat_of p.1) (by omega) (by decide)
    rw [if_neg q2, if_neg q2]
    by_cases q3 : Sg04.digit c = true ∨ Sg04.letter c = true
    · rw [if_pos q3, if_pos (or_iff.mpr q3)]
      exact did_wrong r g
    rw [if_neg q3, if_neg (fun z => q3 (or_iff.mp z))]
    exact did_fin r g hs h0 h1 rfl
  | whole_ =>
    show Did m s (wholeL c) _
    rw [show s.step c = (if Sg04.digit c = true then s.add c.toNat .whole_ else if c = 46 then s.add 46 .point_ else if Sg04.power c = true then s.add c.toNat .e_ else if Sg04.letter c = true then s.wrong else (s.finish 2).starts c) by unfold Sg04.St.step; rw [k]]
    unfold wholeL
    by_cases q2 : Sg04.digit c = true
    · rw [if_pos q2, if_pos q2]
      have p := digit_pos q2
      exact did_add r g hs .whole_ rfl (toNat_of p.1) (by omega) (by decide)
    rw [if_neg q2, if_neg q2]
    by_cases q : c = 46
    · rw [if_pos q, if_pos (is_iff.mpr q)]
      exact did_add r g hs .point_ rfl q (by omega) (by decide)
    rw [if_neg q, if_neg (fun z => q (is_iff.mp z))]
    by_cases q3 : Sg04.power c = true
    · rw [if_pos q3, if_pos q3]
      have p := power_pos q3
      exact did_add r g hs .e_ rfl (toNat_of p.1) (by omega) (by decide)
    rw [if_neg q3, if_neg q3]
    by_cases q4 : Sg04.letter c = true
    · rw [if_pos q4, if_pos q4]
      exact did_wrong r g
    rw [if_neg q4, if_neg q4]
    exact did_fin r g hs h0 h1 rfl
  | point_ =>
    show Did m s (pointL c) _
    rw [show s.step c = (if Sg04.digit c = true then s.add c.toNat .fraction_ else s.wrong) by unfold Sg04.St.step; rw [k]]
    unfold pointL
    by_cases q2 : Sg04.digit c = true
    · rw [if_pos q2, if_pos q2]
      have p := digit_pos q2
      exact did_add r g hs .fraction_ rfl (toNat_of p.1) (by omega) (by decide)
    rw [if_neg q2, if_neg q2]
    exact did_wrong r g
  | fraction_ =>
    show Did m s (fractionL c) _
    rw [show s.step c = (if Sg04.digit c = true then s.add c.toNat .fraction_ else if Sg04.power c = true then s.add c.toNat .e_ else if Sg04.letter c = true then s.wrong else (s.finish 3).starts c) by unfold Sg04.St.step; rw [k]]
    unfold fractionL
    by_cases q2 : Sg04.digit c = true
    · rw [if_pos q2, if_pos q2]
      have p := digit_pos q2
      exact did_add r g hs .fraction_ rfl (toNat_of p.1) (by omega) (by decide)
    rw [if_neg q2, if_neg q2]
    by_cases q3 : Sg04.power c = true
    · rw [if_pos q3, if_pos q3]
      have p := power_pos q3
      exact did_add r g hs .e_ rfl (toNat_of p.1) (by omega) (by decide)
    rw [if_neg q3, if_neg q3]
    by_cases q4 : Sg04.letter c = true
    · rw [if_pos q4, if_pos q4]
      exact did_wrong r g
    rw [if_neg q4, if_neg q4]
    exact did_fin r g hs h0 h1 rfl
  | e_ =>
    show Did m s (eL c) _
    rw [show s.step c = (if c = 43 ∨ c = 45 then s.add c.toNat .sign_ else if Sg04.digit c = true then s.add c.toNat .exponent_ else s.wrong) by unfold Sg04.St.step; rw [k]]
    unfold eL
    by_cases q : c = 43 ∨ c = 45
    · rw [if_pos q, if_pos (or_iff.mpr (q.elim (fun z => .inl (is_iff.mpr z)) fun z => .inr (is_iff.mpr z)))]
      exact did_add r g hs .sign_ rfl (toNat_of (by omega)) (by omega) (by decide)
    rw [if_neg q, if_neg (fun z => q ((or_iff.mp z).elim (fun z => .inl (is_iff.mp z)) fun z => .inr (is_iff.mp z)))]
    by_cases q2 : Sg04.digit c = true
    · rw [if_pos q2, if_pos q2]
      have p := digit_pos q2
      exact did_add r g hs .exponent_ rfl (toNat_of p.1) (by omega) (by decide)
    rw [if_neg q2, if_neg q2]
    exact did_wrong r g
  | sign_ =>
    show Did m s (signL c) _
    rw [show s.step c = (if Sg04.digit c = true then s.add c.toNat .exponent_ else s.wrong) by unfold Sg04.St.step; rw [k]]
    unfold signL
    by_cases q2 : Sg04.digit c = true
    · rw [if_pos q2, if_pos q2]
      have p := digit_pos q2
      exact did_add r g hs .exponent_ rfl (toNat_of p.1) (by omega) (by decide)
    rw [if_neg q2, if_neg q2]
    exact did_wrong r g
  | exponent_ =>
    show Did m s (exponentL c) _
    rw [show s.step c = (if Sg04.digit c = true then s.add c.toNat .exponent_ else if Sg04.letter c = true then s.wrong else (s.finish 3).starts c) by unfold Sg04.St.step; rw [k]]
    unfold exponentL
    by_cases q2 : Sg04.digit c = true
    · rw [if_pos q2, if_pos q2]
      have p := digit_pos q2
      exact did_add r g hs .exponent_ rfl (toNat_of p.1) (by omega) (by decide)
    rw [if_neg q2, if_neg q2]
    by_cases q4 : Sg04.letter c = true
    · rw [if_pos q4, if_pos q4]
      exact did_wrong r g
    rw [if_neg q4, if_neg q4]
    exact did_fin r g hs h0 h1 rfl
  | text_ =>
    show Did m s (textL c) _
    rw [show s.step c = (if c = 34 then s.finish 4 else if c = 92 then s.go .escape_ else if c < 32 then s.wrong else s.add c.toNat .text_) by unfold Sg04.St.step; rw [k]]
    unfold textL
    by_cases q : c = 34
    · rw [if_pos q, if_pos (is_iff.mpr q)]
      refine ⟨r.finishes hs rfl, g.finish, ?_, rfl⟩
      show (s.waiting ++ [(4, s.bytes)]).length = s.waiting.length + 1
      rw [List.length_append]; rfl
    rw [if_neg q, if_neg (fun z => q (is_iff.mp z))]
    by_cases q2 : c = 92
    · rw [if_pos q2, if_pos (is_iff.mpr q2)]
      exact did_go r g hs .escape_ rfl (nok (by decide))
    rw [if_neg q2, if_neg (fun z => q2 (is_iff.mp z))]
    by_cases q3 : c < 32
    · rw [if_pos q3, if_pos (decide_eq_true q3)]
      exact did_wrong r g
    rw [if_neg q3, if_neg (fun z => q3 (of_decide_eq_true z))]
    exact did_add r g hs .text_ rfl (toNat_of (by omega)) (by omega) (by decide)
  | escape_ =>
    show Did m s (escapeL c) _
    rw [show s.step c = (if c = 110 then s.add 10 .text_ else if c = 116 then s.add 9 .text_ else if c = 92 ∨ c = 34 then s.add c.toNat .text_ else if c = 120 then s.go .hex_ else s.wrong) by unfold Sg04.St.step; rw [k]]
    unfold escapeL
    by_cases q : c = 110
    · rw [if_pos q, if_pos (is_iff.mpr q)]
      exact did_add r g hs .text_ rfl rfl (by omega) (by decide)
    rw [if_neg q, if_neg (fun z => q (is_iff.mp z))]
    by_cases q2 : c = 116
    · rw [if_pos q2, if_pos (is_iff.mpr q2)]
      exact did_add r g hs .text_ rfl rfl (by omega) (by decide)
    rw [if_neg q2, if_neg (fun z => q2 (is_iff.mp z))]
    by_cases q3 : c = 92 ∨ c = 34
    · rw [if_pos q3, if_pos (or_iff.mpr (q3.elim (fun z => .inl (is_iff.mpr z)) fun z => .inr (is_iff.mpr z)))]
      exact did_add r g hs .text_ rfl (toNat_of (by omega)) (by omega) (by decide)
    rw [if_neg q3, if_neg (fun z => q3 ((or_iff.mp z).elim (fun z => .inl (is_iff.mp z)) fun z => .inr (is_iff.mp z)))]
    by_cases q4 : c = 120
    · rw [if_pos q4, if_pos (is_iff.mpr q4)]
      exact did_go r g hs .hex_ rfl (nok (by decide))
    rw [if_neg q4, if_neg (fun z => q4 (is_iff.mp z))]
    exact did_wrong r g
  | hex_ =>
    show Did m s (hexL c) _
    rw [show s.step c = (match Sg04.hex c with | some x => { s with state := .low_, high := x } | none => s.wrong) by unfold Sg04.St.step; rw [k]; rfl]
    unfold hexL
    rcases hex_same c with ⟨e1, e2⟩ | ⟨x, e1, e2, e3⟩
    · rw [e1, if_pos (decide_eq_true e2)]
      exact did_wrong r g
    · rw [e1, if_neg (fun z => absurd (of_decide_eq_true z) (by omega)), e2]
      exact ⟨⟨rfl, r.n, fun _ => r.cur hs, rfl, r.wait, r.flt⟩, ⟨g.bytes, e3, g.toks, nok (by show Kind.low_ ≠ _ ∧ Kind.low_ ≠ _; decide)⟩, rfl, rfl⟩
  | low_ =>
    show Did m s (lowL c) _
    rw [show s.step c = (match Sg04.hex c with | some x => s.add (16 * s.high + x) .text_ | none => s.wrong) by unfold Sg04.St.step; rw [k]; rfl]
    unfold lowL
    rcases hex_same c with ⟨e1, e2⟩ | ⟨x, e1, e2, e3⟩
    · rw [e1, if_pos (decide_eq_true e2)]
      exact did_wrong r g
    · rw [e1, if_neg (fun z => absurd (of_decide_eq_true z) (by omega)), e2]
      have hh := g.high
      refine ⟨r.addB g hs .text_ (z := 10) (b := m.hi * 16 + x) (c := 16 * s.high + x) rfl (by rw [r.hi]; omega) (by omega), g.add (by decide), by rw [add_waiting]; rfl, add_count ..⟩
  | comment_ =>
    show Did m s (commentL c) _
    rw [show s.step c = (if c = 10 then s.go .start_ else if c = -1 then s.go .over_ else s) by unfold Sg04.St.step; rw [k]]
    have hb := g.start (.inr k)
    unfold commentL
    by_cases q : c = 10
    · rw [if_pos q, if_pos (is_iff.mpr q)]
      exact did_go r g hs .start_ rfl fun _ => hb
    rw [if_neg q, if_neg (fun z => q (is_iff.mp z))]
    by_cases q2 : c = -1
    · rw [if_pos q2, if_pos (is_iff.mpr q2)]
      exact ⟨r.goes .over_ rfl fun z => absurd rfl z, g.go (nok (by decide)), rfl, rfl⟩
    rw [if_neg q2, if_neg (fun z => q2 (is_iff.mp z))]
    have e := did_go r g hs .comment_ (z := 14) rfl fun _ => hb
    have e2 : s.go .comment_ = s := by
      cases s; cases k; rfl
    rw [e2] at e
    exact e
  | over_ => exact absurd k hs
end
/-- a byte handed over, by the mirror and by the document -/
theorem hand_ok {m : Mir} {s : Sg04.St} {k : Kind} {c : Int} (r : R m s) (g : Good s) :
    (∃ t m', s.feed k c = some t ∧ handM m (num k) c = (m', num t.state) ∧ R m' t ∧ Good t ∧ t.waiting.length ≤ 64) ∨ (s.feed k c = none ∧ handM m (num k) c = (m, -1)) := by
  unfold Sg04.St.feed handM
  by_cases h : k = s.state ∧ k ≠ .over_ ∧ -1 ≤ c ∧ c ≤ 255
  · rw [if_pos h]
    obtain ⟨hk, ho, h0, h1⟩ := h
    subst hk
    have n1 := num_ne _ ho
    have d := did_step r g ho h0 h1
    have e1 : refusedM m (num s.state) c = false := by
      unfold refusedM
      rw [r.st]
      simp only [ne_eq, not_true_eq_false, decide_false, Bool.false_or, n1, show ¬ c < -1 by omega, show ¬ 255 < c by omega, Bool.or_false]
    have e2 : m.wait.length = s.waiting.length := by rw [r.wait, List.length_map]
    have e3 : ¬ refusedM m (num s.state) c = true := by rw [e1]; decide
    rw [if_neg e3, e2, ← d.len]
    by_cases hw : 64 < (s.step c).waiting.length
    · exact .inr ⟨if_pos hw, if_pos hw⟩
    · refine .inl ⟨_, handedM ((stepsOf (num s.state) c).foldl doStep m) c, if_neg hw, ?_, ?_, ⟨d.good.bytes, d.good.high, d.good.toks, d.good.start⟩, by show (s.step c).waiting.length ≤ 64; omega⟩
      · rw [if_neg hw, d.rel.st]
      · unfold handedM
        by_cases hc : c = -1
        · rw [if_pos hc, if_pos hc]
          exact ⟨d.rel.st, by rw [d.rel.n, d.cnt], d.rel.cur, d.rel.hi, d.rel.wait, d.rel.flt⟩
        · rw [if_neg hc, if_neg hc]
          refine ⟨d.rel.st, ?_, d.rel.cur, d.rel.hi, d.rel.wait, d.rel.flt⟩
          show ((stepsOf (num s.state) c).foldl doStep m).n + 1 = ((s.count + 1 : Nat) : Int)
          rw [d.rel.n, d.cnt]; omega
  · rw [if_neg h]
    have e1 : refusedM m (num k) c = true := by
      unfold refusedM
      rw [r.st]
      simp only [Bool.or_eq_true, decide_eq_true_eq]
      by_cases h1 : k = s.state
      · by_cases h2 : k = .over_
        · subst h2; exact .inr (.inl rfl)
        · by_cases h3 : -1 ≤ c
          · exact .inr (.inr (.inr (Int.not_le.mp fun z => h ⟨h1, h2, h3, z⟩)))
          · exact .inr (.inr (.inl (Int.not_le.mp h3)))
      · exact .inl fun z => h1 (num_inj _ _ z)
    exact .inr ⟨rfl, if_pos e1⟩
theorem num_nonneg (k : Kind) : 0 ≤ num k := Int.natCast_nonneg _
/-- many -/
theorem run_ok : ∀ (l : List Int) {m : Mir} {s : Sg04.St}, R m s → Good s → s.waiting.length ≤ 64 →
    R (runM m l).1 (s.hands l).1 ∧ Good (s.hands l).1 ∧ (s.hands l).1.waiting.length ≤ 64 ∧ (runM m l).2 = (match (s.hands l).2 with | some k => num k | none => -1)
  | [], m, s, r, g, hw => ⟨r, g, hw, r.st⟩
  | c :: l, m, s, r, g, hw => by
    unfold runM Sg04.St.hands
    rw [r.st]
    rcases hand_ok (k := s.state) (c := c) r g with ⟨t, m', e, h', r', g', hw'⟩ | ⟨e, h'⟩
    · rw [e, h']
      have n0 := num_nonneg t.state
      rw [if_neg (by show ¬ num t.state = -1; omega)]
      exact run_ok l r' g' hw'
    · rw [e, h']
      exact ⟨r, g, hw, rfl⟩
end Sr
end
section
set_option Elab.async false
set_option linter.all false
set_option maxRecDepth 100000
/-! A list of calls, read from the left; what the document answers to each. -/
namespace Sr
open Sg04 (Kind)
theorem whole_id (c : List (List Int)) : PySg04.whole c = c := by
  unfold PySg04.whole
  split <;> rfl
theorem map_whole : ∀ cs : List (List (List Int)), cs.map PySg04.whole = cs
  | [] => rfl
  | c :: cs => by rw [List.map_cons, whole_id, map_whole cs]
theorem calls_of {l : List Int} {cs : List (List (List Int))} (h : PySg04.calls l = some cs) : PyFlat.calls PySg04.shape l.length l = some cs := by
  unfold PySg04.calls at h
  cases e : PyFlat.calls PySg04.shape l.length l with
  | none => rw [e] at h; cases h
  | some q =>
    rw [e] at h
    have h' : some (q.map PySg04.whole) = some cs := h
    rw [map_whole] at h'
    exact h'
theorem calls_nil (f : Nat) {cs : List (List (List Int))} (h : PyFlat.calls PySg04.shape f [] = some cs) : cs = [] := by
  cases f <;> exact (Option.some.inj h).symm
theorem calls_cons {f : Nat} {p : Int} {r : List Int} {cs : List (List (List Int))} (h : PyFlat.calls PySg04.shape f (p :: r) = some cs) :
    ∃ f' c t cs', PyFlat.call PySg04.shape (p :: r) = some (c, t) ∧ PyFlat.calls PySg04.shape f' t = some cs' ∧ cs = c :: cs' := by
  cases f with
  | zero => cases h
  | succ f =>
    unfold PyFlat.calls at h
    cases e : PyFlat.call PySg04.shape (p :: r) with
    | none => rw [e] at h; cases h
    | some q =>
      obtain ⟨c, t⟩ := q
      rw [e] at h
      have h : (match PyFlat.calls PySg04.shape f t with | none => none | some cs => some (c :: cs)) = some cs := h
      cases e2 : PyFlat.calls PySg04.shape f t with
      | none => rw [e2] at h; cases h
      | some cs' =>
        rw [e2] at h
        exact ⟨f, c, t, cs', rfl, e2, (Option.some.inj h).symm⟩
/-- the six calls, as they stand in the list -/
inductive Form : List Int → List (List Int) → List Int → Prop
  | hand (k x : Int) (t : List Int) (h0 : 0 ≤ k) (h1 : k ≤ 15) : Form (1 :: k :: x :: t) [[1, k, x]] t
  | run (b t : List Int) (h : b.length ≤ 2000) : Form (2 :: (b.length : Int) :: (b ++ t)) [[2], b] t
  | where_ (t : List Int) : Form (3 :: t) [[3]] t
  | kind (t : List Int) : Form (4 :: t) [[4]] t
  | take (m : Int) (t : List Int) : Form (5 :: m :: t) [[5, m]] t
  | fault (t : List Int) : Form (6 :: t) [[6]] t
theorem form_of {p : Int} {r : List Int} {c : List (List Int)} {t : List Int} (h : PyFlat.call PySg04.shape (p :: r) = some (c, t)) (ha : Sg04Neutral.asked1 c = true) : Form (p :: r) c t := by
  have step : ∀ n k, PySg04.shape p = some (n, k) → (if r.length < n then none else match PyFlat.rows k (r.drop n) with | none => none | some (xs, t) => some ((p :: r.take n) :: xs, t)) = some (c, t) := fun n k e => by
    simp only [PyFlat.call, e] at h
    exact h
  by_cases p1 : p = 1
  · subst p1
    have h := step 2 0 rfl
    match r, h with
    | [], h => cases h
    | [_], h => cases h
    | k :: x :: t', h =>
      have h' : some ([[1, k, x]], t') = some (c, t) := h
      have h'' := Option.some.inj h'
      have e1 : [[1, k, x]] = c := congrArg Prod.fst h''
      have e2 : t' = t := congrArg Prod.snd h''
      subst e1 e2
      have ha' : (decide (0 ≤ k) && (decide (k ≤ 15) && Sg04Neutral.whole32 x)) = true := ha
      simp only [Bool.and_eq_true, decide_eq_true_eq] at ha'
      exact .hand k x t' ha'.1 ha'.2.1
  by_cases p2 : p = 2
  · subst p2
    have h := step 0 1 rfl
    have h : (match PyFlat.rows 1 r with | none => none | some (xs, t) => some (([2] : List Int) :: xs, t)) = some (c, t) := h
    match r, h with
    | [], h => cases h
    | n :: s, h =>
      have h : (match (match (if 0 ≤ n ∧ n.toNat ≤ s.length then some (s.take n.toNat, s.drop n.toNat) else none) with | none => none | some (x, s) => some ([x], s)) with | none => none | some (xs, t) => some (([2] : List Int) :: xs, t)) = some (c, t) := h
      by_cases hn : 0 ≤ n ∧ n.toNat ≤ s.length
      · rw [if_pos hn] at h
        have h' : some (([2] : List Int) :: [s.take n.toNat], s.drop n.toNat) = some (c, t) := h
        have h'' := Option.some.inj h'
        have e1 : [[2], s.take n.toNat] = c := congrArg Prod.fst h''
        have e2 : s.drop n.toNat = t := congrArg Prod.snd h''
        subst e1 e2
        have ha' : ((s.take n.toNat).all Sg04Neutral.whole32 && (decide (1 ≤ (s.take n.toNat).length) && decide ((s.take n.toNat).length ≤ 2000))) = true := ha
        simp only [Bool.and_eq_true, decide_eq_true_eq] at ha'
        have hl : (s.take n.toNat).length = n.toNat := by rw [List.length_take]; omega
        have key := Form.run (s.take n.toNat) (s.drop n.toNat) ha'.2.2
        rw [hl, List.take_append_drop, Int.toNat_of_nonneg hn.1] at key
        exact key
      · rw [if_neg hn] at h
        cases h
  by_cases p3 : p = 3
  · subst p3
    have h := Option.some.inj (step 0 0 rfl)
    have e1 : [[3]] = c := congrArg Prod.fst h
    have e2 : r = t := congrArg Prod.snd h
    subst e1 e2
    exact .where_ r
  by_cases p4 : p = 4
  · subst p4
    have h := Option.some.inj (step 0 0 rfl)
    have e1 : [[4]] = c := congrArg Prod.fst h
    have e2 : r = t := congrArg Prod.snd h
    subst e1 e2
    exact .kind r
  by_cases p5 : p = 5
  · subst p5
    have h := step 1 0 rfl
    match r, h with
    | [], h => cases h
    | m :: t', h =>
      have h'' := Option.some.inj (show some ([[5, m]], t') = some (c, t) from h)
      have e1 : [[5, m]] = c := congrArg Prod.fst h''
      have e2 : t' = t := congrArg Prod.snd h''
      subst e1 e2
      exact .take m t'
  by_cases p6 : p = 6
  · subst p6
    have h := Option.some.inj (step 0 0 rfl)
    have e1 : [[6]] = c := congrArg Prod.fst h
    have e2 : r = t := congrArg Prod.snd h
    subst e1 e2
    exact .fault r
  · exfalso
    have e : PySg04.shape p = none := by
      unfold PySg04.shape
      rw [if_neg p1, if_neg p2, if_neg p3, if_neg p4, if_neg p5, if_neg p6]
    simp only [PyFlat.call, e] at h
    cases h
/-- how many numbers a call takes -/
theorem Form.cut {x : List Int} {c : List (List Int)} {t : List Int} (h : Form x c t) : ∃ n, 1 ≤ n ∧ x.length = n + t.length ∧ x.drop n = t ∧ Form (x.take n) c [] := by
  cases h with
  | hand k x t h0 h1 => exact ⟨3, by decide, by simp only [List.length_cons]; omega, rfl, .hand k x [] h0 h1⟩
  | run b t h =>
    refine ⟨2 + b.length, by omega, by simp only [List.length_cons, List.length_append]; omega, ?_, ?_⟩
    · rw [Nat.add_comm]
      show (b ++ t).drop b.length = t
      exact List.drop_left
    · rw [Nat.add_comm]
      show Form (2 :: (b.length : Int) :: (b ++ t).take b.length) _ []
      rw [List.take_left]
      have e := Form.run b [] h
      rw [List.append_nil] at e
      exact e
  | where_ t => exact ⟨1, by decide, by simp only [List.length_cons]; omega, rfl, .where_ []⟩
  | kind t => exact ⟨1, by decide, by simp only [List.length_cons]; omega, rfl, .kind []⟩
  | take m t => exact ⟨2, by decide, by simp only [List.length_cons]; omega, rfl, .take m []⟩
  | fault t => exact ⟨1, by decide, by simp only [List.length_cons]; omega, rfl, .fault []⟩
/-! ### what the whole is worth -/
def outs (s : Sg04.St) (cs : List (List (List Int))) : List Int := PyFlat.told (PyFlat.played Sg04Neutral.step s cs)
theorem outs_nil (s : Sg04.St) : outs s [] = [] := rfl
theorem outs_cons (s : Sg04.St) (c : List (List Int)) (cs : List (List (List Int))) : outs s (c :: cs) = (((Sg04Neutral.step s c).2.length : Int) :: (Sg04Neutral.step s c).2) ++ outs (Sg04Neutral.step s c).1 cs := by
  have e : PyFlat.played Sg04Neutral.step s (c :: cs) = (Sg04Neutral.step s c).2 :: PyFlat.played Sg04Neutral.step (Sg04Neutral.step s c).1 cs := rfl
  unfold outs PyFlat.told
  rw [e, List.flatMap_cons]
theorem outs_len : ∀ (cs : List (List (List Int))) (s : Sg04.St), (outs s cs).length = cs.length + Sg04Neutral.told s cs
  | [], _ => rfl
  | c :: cs, s => by
    rw [outs_cons, List.length_append, List.length_cons, outs_len cs]
    show _ = (cs.length + 1) + ((Sg04Neutral.step s c).2.length + Sg04Neutral.told (Sg04Neutral.step s c).1 cs)
    omega
/-- what is asked of a list of calls, and what is due -/
theorem asked_of {l : List Int} (h : PySg04.answers_asked l = true) : ∃ cs, PyFlat.calls PySg04.shape l.length l = some cs ∧ (∀ c ∈ cs, Sg04Neutral.asked1 c = true) ∧ PySg04.answers l = outs Sg04.begun cs ∧ (outs Sg04.begun cs).length ≤ 1000200 := by
  unfold PySg04.answers_asked at h
  cases e : PySg04.calls l with
  | none => rw [e] at h; cases h
  | some cs =>
    rw [e] at h
    have h : (PyFlat.atMost 200 cs && Sg04Neutral.asked cs) = true := h
    rw [Bool.and_eq_true] at h
    obtain ⟨h1, h2⟩ := h
    have h2 : (cs.all Sg04Neutral.asked1 && (decide (1 ≤ cs.length) && (decide (cs.length ≤ 200) && decide (Sg04Neutral.told Sg04Neutral.start cs < 1000000)))) = true := h2
    simp only [Bool.and_eq_true, decide_eq_true_eq] at h2
    refine ⟨cs, calls_of e, List.all_eq_true.mp h2.1, ?_, ?_⟩
    · unfold PySg04.answers
      rw [e]
      rfl
    · rw [outs_len]
      have h3 : Sg04Neutral.told Sg04.begun cs < 1000000 := h2.2.2.2
      omega
/-- states by their numbers -/
theorem num_stateOf {k : Int} (h0 : 0 ≤ k) (h1 : k ≤ 15) : num (Sg04Neutral.stateOf k.toNat) = k := by
  have h : ∀ n : Fin 16, num (Sg04Neutral.stateOf n.val) = (n.val : Int) := by decide
  have e := h ⟨k.toNat, by omega⟩
  rw [show num (Sg04Neutral.stateOf k.toNat) = ((k.toNat : Nat) : Int) from e]
  omega
theorem step_hand (s : Sg04.St) (k x : Int) : Sg04Neutral.step s [[1, k, x]] = (match s.feed (Sg04Neutral.stateOf k.toNat) x with | some t => (t, [num t.state]) | none => (s, [-1])) := by
  have e : Sg04Neutral.step s [[1, k, x]] = ((match s.feed (Sg04Neutral.stateOf k.toNat) x with | some t => (t, Sg04.Ans.function (some t.state)) | none => (s, Sg04.Ans.function none)).1, Sg04Neutral.toldOf (match s.feed (Sg04Neutral.stateOf k.toNat) x with | some t => (t, Sg04.Ans.function (some t.state)) | none => (s, Sg04.Ans.function none)).2) := rfl
  rw [e]
  cases s.feed (Sg04Neutral.stateOf k.toNat) x <;> rfl
theorem step_run (s : Sg04.St) (b : List Int) : Sg04Neutral.step s [[2], b] = ((s.hands b).1, [match (s.hands b).2 with | some k => num k | none => -1]) := by
  show ((s.hands b).1, Sg04Neutral.toldOf (.function (s.hands b).2)) = _
  cases (s.hands b).2 <;> rfl
theorem step_where (s : Sg04.St) : Sg04Neutral.step s [[3]] = (s, [num s.state]) := rfl
theorem step_kind (s : Sg04.St) : Sg04Neutral.step s [[4]] = (s, [(((s.waiting.head?.map fun t => t.1).getD 0 : Nat) : Int)]) := rfl
theorem step_fault (s : Sg04.St) : Sg04Neutral.step s [[6]] = (s, [(s.fault.map fun n => ((n % 2147483648 : Nat) : Int)).getD (-1)]) := rfl
theorem step_take (s : Sg04.St) (m : Int) : Sg04Neutral.step s [[5, m]] = (if m < 0 ∨ 255 < m then (s, [-2]) else match s.waiting with
    | [] => (s, [-1])
    | t :: r => if m < (t.2.length : Int) then (s, [-3]) else ({ s with waiting := r }, (t.2.length : Int) :: bys t.2)) := by
  show (let y := s.call (.take m); (y.1, Sg04Neutral.toldOf y.2)) = _
  unfold Sg04.St.call
  by_cases h : m < 0 ∨ 255 < m
  · rw [if_pos h]
    have h' : m < 0 ∨ (Sg04.MOST : Int) < m := h
    simp only [if_pos h']
    rfl
  · rw [if_neg h]
    have h' : ¬ (m < 0 ∨ (Sg04.MOST : Int) < m) := h
    simp only [if_neg h']
    cases s.waiting with
    | nil => rfl
    | cons t r =>
      by_cases h2 : m < (t.2.length : Int)
      · simp only [if_pos h2]; rfl
      · simp only [if_neg h2]; rfl
end Sr
end
section
set_option Elab.async false
set_option linter.all false
set_option maxRecDepth 100000
/-! kind, take, fault by the mirror -/
namespace Sr
def kindM (m : Mir) : Int := match m.wait with
  | [] => 0
  | t :: _ => t.1
def faultM (m : Mir) : Int := if m.flt = -1 then -1 else m.flt % 2147483648
def takeM (m : Mir) (x : Int) : Mir × List Int :=
  if x < 0 ∨ 255 < x then (m, [-2]) else match m.wait with
    | [] => (m, [-1])
    | t :: r => if x < (t.2.length : Int) then (m, [-3]) else ({ m with wait := r }, (t.2.length : Int) :: t.2)
theorem kind_ok {m : Mir} {s : Sg04.St} (r : R m s) : kindM m = (((s.waiting.head?.map fun t => t.1).getD 0 : Nat) : Int) := by
  unfold kindM
  rw [r.wait]
  cases s.waiting with
  | nil => rfl
  | cons t ts => rfl
theorem fault_ok {m : Mir} {s : Sg04.St} (r : R m s) : faultM m = (s.fault.map fun n => ((n % 2147483648 : Nat) : Int)).getD (-1) := by
  unfold faultM
  rw [r.flt]
  cases s.fault with
  | none => rfl
  | some n =>
    show (if (n : Int) = -1 then (-1 : Int) else (n : Int) % 2147483648) = ((n % 2147483648 : Nat) : Int)
    rw [if_neg (by omega)]
    omega
theorem take_ok {m : Mir} {s : Sg04.St} {x : Int} (r : R m s) (g : Good s) (hw : s.waiting.length ≤ 64) :
    R (takeM m x).1 (Sg04Neutral.step s [[5, x]]).1 ∧ Good (Sg04Neutral.step s [[5, x]]).1 ∧ (Sg04Neutral.step s [[5, x]]).1.waiting.length ≤ 64 ∧ (takeM m x).2 = (Sg04Neutral.step s [[5, x]]).2 := by
  rw [step_take]
  obtain ⟨ms, mn, mc, mh, mw, mf⟩ := m
  obtain ⟨st, bs, hi, ct, wt, fl⟩ := s
  have ew : mw = wt.map tokM := r.wait
  subst ew
  by_cases h : x < 0 ∨ 255 < x
  · rw [if_pos h]
    unfold takeM
    rw [if_pos h]
    exact ⟨r, g, hw, rfl⟩
  · rw [if_neg h]
    unfold takeM
    rw [if_neg h]
    cases wt with
    | nil => exact ⟨r, g, hw, rfl⟩
    | cons t ts =>
      have el : ((tokM t).2.length : Int) = (t.2.length : Int) := by
        show ((bys t.2).length : Int) = _
        rw [bys_length]
      by_cases h2 : x < (t.2.length : Int)
      · have h2' : x < ((tokM t).2.length : Int) := by rw [el]; exact h2
        simp only [List.map_cons, if_pos h2, if_pos h2']
        exact ⟨r, g, hw, trivial⟩
      · have h2' : ¬ x < ((tokM t).2.length : Int) := by rw [el]; exact h2
        simp only [List.map_cons, if_neg h2, if_neg h2']
        refine ⟨⟨r.st, r.n, r.cur, r.hi, rfl, r.flt⟩, ⟨g.bytes, g.high, fun t' ht => g.toks t' (List.mem_cons_of_mem _ ht), g.start⟩, ?_, ?_⟩
        · have hw' : ts.length + 1 ≤ 64 := hw
          show ts.length ≤ 64
          omega
        · rw [el]
          rfl
theorem take_toks {m : Mir} {s : Sg04.St} (r : R m s) (g : Good s) : ∀ t ∈ m.wait, t.2.length ≤ 255 := by
  intro t ht
  rw [r.wait] at ht
  obtain ⟨t', h1, h2⟩ := List.mem_map.mp ht
  rw [← h2]
  show (bys t'.2).length ≤ 255
  rw [bys_length]
  exact g.toks t' h1
end Sr
end
section
set_option Elab.async false
set_option linter.all false
set_option maxRecDepth 100000
set_option maxHeartbeats 2000000
/-! states.py: each def of it, against the mirror. -/
namespace Sr
open PySem PySem.Spec PyProof.Rows L2
/-! ### the text by places -/
def top (i : Nat) : Stmt := PySem.Challenge.pw_statereader_s01_answers.main.body.getD i (.Pass ⟨0, 0, 0, 0⟩)
abbrev sStepInit : Stmt := inClass (top 31) 0
abbrev sGoes : Stmt := top 32
abbrev sAdds : Stmt := top 33
abbrev sFinishes : Stmt := top 34
abbrev sWrong : Stmt := top 35
abbrev sIsLetter : Stmt := top 36
abbrev sIsDigit : Stmt := top 37
abbrev sIsE : Stmt := top 38
abbrev sHexValue : Stmt := top 39
abbrev sStart : Stmt := top 40
abbrev sFas : Stmt := top 41
abbrev sWord : Stmt := top 42
abbrev sMinus : Stmt := top 43
abbrev sZero : Stmt := top 44
abbrev sWhole : Stmt := top 45
abbrev sPoint : Stmt := top 46
abbrev sFraction : Stmt := top 47
abbrev sE : Stmt := top 48
abbrev sSign : Stmt := top 49
abbrev sExponent : Stmt := top 50
abbrev sText : Stmt := top 51
abbrev sEscape : Stmt := top 52
abbrev sHex : Stmt := top 53
abbrev sLow : Stmt := top 54
abbrev sComment : Stmt := top 55
abbrev sStepsOf : Stmt := top 57

/-! ### steps in the heap -/
def dS : Dd → Str
  | .go => "go"
  | .add => "add"
  | .high => "high digit"
  | .low => "low digit"
  | .fin => "finish"
  | .wrong => "wrong"
def sf (d : Str) (s n : Int) : List (Str × V) := [("deed", .str d), ("state", .int s), ("number", .int n)]
def StepAt (C : Addr) (H : Hp) (a : Addr) (t : Stp) : Prop := ∃ dx, H a = some (.ins C dx (sf (dS t.deed) t.st t.n))
def StepsL (C : Addr) (H : Hp) : List Addr → List Stp → Prop
  | [], [] => True
  | a :: as, t :: ts => StepAt C H a t ∧ StepsL C H as ts
  | _, _ => False
def StepsAt (C : Addr) (H : Hp) (l : Addr) (L : List Stp) : Prop := ∃ as : List Addr, H l = some (.lst (as.map V.ref)) ∧ StepsL C H as L
theorem StepAt.same {C : Addr} {H H' : Hp} {a : Addr} {t : Stp} (h : StepAt C H a t) (e : Same H H') : StepAt C H' a t := let ⟨dx, q⟩ := h; ⟨dx, e _ _ q⟩
theorem StepsL.same {C : Addr} {H H' : Hp} : ∀ {as : List Addr} {L : List Stp}, StepsL C H as L → Same H H' → StepsL C H' as L
  | [], [], _, _ => trivial
  | _ :: _, _ :: _, h, e => ⟨h.1.same e, StepsL.same h.2 e⟩
  | [], _ :: _, h, _ => h.elim
  | _ :: _, [], h, _ => h.elim
theorem StepsL.len {C : Addr} {H : Hp} : ∀ {as : List Addr} {L : List Stp}, StepsL C H as L → as.length = L.length
  | [], [], _ => rfl
  | _ :: _, _ :: _, h => by rw [List.length_cons, List.length_cons, StepsL.len h.2]
  | [], _ :: _, h => h.elim
  | _ :: _, [], h => h.elim
theorem Same_lay {H : Hp} {l : Addr} {o : HO} (h : H l = Option.none) : Same H (upd H l o) := fun b u e => by rw [upd_ne (ne_of_none e h)]; exact e
theorem putF_hit {f : Str} {v x : V} {r : List (Str × V)} : putF f v ((f, x) :: r) = (f, v) :: r := by
  show (if f = f then (f, v) :: r else (f, x) :: putF f v r) = _
  rw [if_pos rfl]
theorem putF_miss {f k : Str} {v x : V} {r : List (Str × V)} (h : ¬ k = f) : putF f v ((k, x) :: r) = (k, x) :: putF f v r := by
  show (if k = f then (k, v) :: r else (k, x) :: putF f v r) = _
  rw [if_neg h]
theorem look_hit {f : Str} {x : V} {r : List (Str × V)} : List.lookup f ((f, x) :: r) = some x := by
  simp only [List.lookup, beq_self_eq_true]
theorem look_miss {f k : Str} {x : V} {r : List (Str × V)} (h : ¬ f = k) : List.lookup f ((k, x) :: r) = List.lookup f r := by
  have hb : (f == k) = false := beq_eq_false_iff_ne.mpr h
  simp only [List.lookup, hb]

/-! ### names of the module -/
def GI (mg : Str → Option Value) (x : Str) (i : Int) : Prop := ∃ t, mg x = some (.int i t)
def GS (mg : Str → Option Value) (x : Str) (y : Str) : Prop := ∃ t, mg x = some (.str y t)
def TupAt (K : PySem.W.Frag) (a : Addr) (xs : List V) : Prop :=
  ∃ (o : Obj) (its : Array Value) (n : Nat), K.lookup a = some o ∧ o.cls = .type "tuple" ∧ o.data = .seq its n ∧ its.size ≤ sizeLine ∧ Vals xs its.toList
structure DefD (P : Program) (w : World) (K : PySem.W.Frag) (mg : Str → Option Value) (base : Heap) (k : Nat) (x : Str) (ps : List Str) (sp : Sp) : Prop where
  ex : ∃ f fd, mg x = some (.ref f) ∧ FnOk P w K mg base CX0 k f fd ps sp ∧ Binds K fd ps [] ∧ PySem.W.keepIn K (.ref f) = true
structure ClsD (P : Program) (w : World) (K : PySem.W.Frag) (mg : Str → Option Value) (base : Heap) (k : Nat) (x : Str) (C : Addr) (ps : List Str) (sp : Sp) : Prop where
  gl : mg x = some (.ref C)
  ex : ∃ f fd, Mk K C f ∧ FnOk P w K mg base CX0 k f fd ps sp ∧ Binds K fd ps []
section
variable {X : Cx} {x : Str} {p pos p1 p2 : Pos} {e : Expr} {es : List Expr} {t : TA} {k : Nat} {ps : List Str} {sp : Sp}
theorem pe_gi {i : Int} (h : GI X.mg x i) (hg : Gl X x := by rfl) (hd : (x == ("__debug__" : Str)) = false := by decide) : PE X (.Name x pos) (tC (.int i)) :=
  let ⟨t, e⟩ := h; pe_glob hg e ⟨t, rfl⟩ hd
theorem pe_gs {y : Str} (h : GS X.mg x y) (hg : Gl X x := by rfl) (hd : (x == ("__debug__" : Str)) = false := by decide) : PE X (.Name x pos) (tC (.str y)) :=
  let ⟨t, e⟩ := h; pe_glob hg e ⟨t, rfl⟩ hd
theorem pe_def (D : DefD X.prog X.w X.K X.mg X.base k x ps sp) (hr : Room k X.A) (ha : PA X (e :: es) t) (hg : Gl X x := by rfl) (hdb : (x == ("__debug__" : Str)) = false := by decide)
    (he : starEach (e :: es) X.env = (false, eval e X.env) :: starEach es X.env := by rfl) (hpl : (backTo pos (starEach es X.env)).any (·.1) = false := by rfl) :
    PE X (.Call (.Name x p) (e :: es) [] pos) (tCall sp [] E0 t) := by
  obtain ⟨f, fd, hm, F, hb, hk⟩ := D.ex
  exact pe_call F hr hg hm hk hb .nil pass0 ha hdb he hpl
theorem pe_def0 (D : DefD X.prog X.w X.K X.mg X.base k x ps sp) (hr : Room k X.A) (hg : Gl X x := by rfl) (hdb : (x == ("__debug__" : Str)) = false := by decide) :
    PE X (.Call (.Name x p) [] [] pos) (tCall sp [] E0 tNil) := by
  obtain ⟨f, fd, hm, F, hb, hk⟩ := D.ex
  exact pe_call0 F hr hg hm hk hb .nil pass0 hdb
/-- a call of a value that an expression gives -/
theorem pe_callV {fe : Expr} {tf : TE} (hf : PE X fe tf) (ha : PA X (e :: es) t)
    (he : starEach (e :: es) X.env = (false, eval e X.env) :: starEach es X.env := by rfl) (hpl : (backTo pos (starEach es X.env)).any (·.1) = false := by rfl)
    (hev : eval (.Call fe (e :: es) [] pos) X.env = (do callWith pos (← eval fe X.env) [] (backTo pos (starEach (e :: es) X.env)) (backToKw pos (keywordEach [] X.env))) := by rfl) :
    PE X (.Call fe (e :: es) [] pos) (fun σ H Q => tf σ H fun v H1 => ∃ f fd ps sp k, v = .ref f ∧ PySem.W.keepIn X.K (.ref f) = true ∧ FnOk X.prog X.w X.K X.mg X.base CX0 k f fd ps sp ∧ Room k X.A ∧ Binds X.K fd ps [] ∧ t σ H1 fun vs H2 => sp (vs ++ []) H2 Q E0) := by
  intro pins s σ H Q I h
  refine Call_ (thn (hf pins s σ H _ I h) fun u s1 h1 => ?_) hev
  obtain ⟨v, H1, I1, r1, f, fd, ps, sp, k, e1, hk, F, hr, hb, q⟩ := h1
  subst e1
  cases r1
  refine PySem.W.callWith_K (h₀ := X.base) I.ok.mod.kin hk (thn (ha pos pins s1 σ H1 _ I1 q) fun us s2 h2 => ?_) he hpl
  obtain ⟨vs, H2, I2, r, q2⟩ := h2
  exact ⟨I2.kIn, run_fn F hr hb .nil pass0 I2 r q2⟩
theorem pe_ord {y : Str} {j : Nat} (hm : X.mg "ord" = none) (n : Int) (h1 : y.length = 1 := by decide +kernel) (h2 : ((y.cps.getD 0 0 : Nat) : Int) = n := by decide +kernel) (hg : Gl X "ord" := by rfl) :
    PE X (.Call (.Name "ord" p) [.Constant (.str y) j p1] [] pos) (tC (.int n)) := fun pins s σ H Q I h =>
  pe_callB call_ord hg hm boot_ord (pa_cons pe_str pa_nil) (by decide) (by decide) rfl rfl pins s σ H Q I ⟨y, rfl, h1, by rw [h2]; exact h⟩
end

/-! ### readings over c, the first name -/
def tOn (f : Int → Bool) : TT := fun σ H Q => ∃ c, σ[0]? = some (some (V.int c)) ∧ Q (f c) H
def tBv (f : Int → Bool) : TE := fun σ H Q => ∃ c, σ[0]? = some (some (V.int c)) ∧ Q (.bl (f c)) H
def tIv (f : Int → Int) : TE := fun σ H Q => ∃ c, σ[0]? = some (some (V.int c)) ∧ Q (.int (f c)) H
def tNewS (C : Addr) (f : Int → Stp) : TE := fun σ H Q => ∃ c, σ[0]? = some (some (V.int c)) ∧ ∀ H' a, StepAt C H' a (f c) → Same H H' → Q (.ref a) H'
def tList (C : Addr) (f : Int → List Stp) : TE := fun σ H Q => ∃ c, σ[0]? = some (some (V.int c)) ∧ ∀ H' l, StepsAt C H' l (f c) → Same H H' → H l = Option.none → Q (.ref l) H'
def tRetL (C : Addr) (f : Int → List Stp) : TS := fun D σ H => ∃ c, σ[0]? = some (some (V.int c)) ∧ ∀ H' l, StepsAt C H' l (f c) → Same H H' → H l = Option.none → D.rt (.ref l) H'
def tRetI (f : Int → Int) : TS := fun D σ H => ∃ c, σ[0]? = some (some (V.int c)) ∧ D.rt (.int (f c)) H
/-! ### what the defs promise -/
def spB (f : Int → Bool) : Sp := fun vs H Q _ => ∃ c, vs = [.int c] ∧ Q (.bl (f c)) H
def spI (f : Int → Int) : Sp := fun vs H Q _ => ∃ c, vs = [.int c] ∧ Q (.int (f c)) H
def New (C : Addr) (H : Hp) (Q : VK) (t : Stp) : Prop := ∀ H' a, StepAt C H' a t → Same H H' → Q (.ref a) H'
def spStepInit (C : Addr) : Sp := fun vs H Q _ => ∃ (p dx : Addr) (d : Str) (s n : Int), vs = [.ref p, .str d, .int s, .int n] ∧ H p = some (.ins C dx []) ∧ ∀ H' : Hp, (∃ dx, H' p = some (.ins C dx (sf d s n))) → (∀ b o, H b = some o → b ≠ p → H' b = some o) → Q .non H'
def spGoes (C : Addr) : Sp := fun vs H Q _ => ∃ s, vs = [.int s] ∧ New C H Q (goes s)
def spAdds (C : Addr) : Sp := fun vs H Q _ => ∃ b s, vs = [.int b, .int s] ∧ New C H Q (adds b s)
def spFinishes (C : Addr) : Sp := fun vs H Q _ => ∃ k, vs = [.int k] ∧ New C H Q (finishes k)
def spWrong (C : Addr) : Sp := fun vs H Q _ => vs = [] ∧ New C H Q wrongS
def spSteps (C : Addr) (L : Int → List Stp) : Sp := fun vs H Q _ => ∃ c, vs = [.int c] ∧ ∀ H' l, StepsAt C H' l (L c) → Same H H' → H l = Option.none → Q (.ref l) H'
def spFas (C : Addr) : Sp := fun vs H Q _ => ∃ k c, vs = [.int k, .int c] ∧ ∀ H' l, StepsAt C H' l (finishes k :: startL c) → Same H H' → H l = Option.none → Q (.ref l) H'
def spStepsOf (C : Addr) : Sp := fun vs H Q _ => ∃ k c, vs = [.int k, .int c] ∧ 0 ≤ k ∧ k ≤ 14 ∧ ∀ H' l, StepsAt C H' l (stepsOf k c) → Same H H' → H l = Option.none → Q (.ref l) H'

/-! ### rules over these readings -/
section
variable {X : Cx} {C : Addr} {x x1 x2 : Str} {p pos p1 p2 p3 : Pos} {a b : Expr} {rest : List Expr} {st : List Stmt} {f g : Int → Bool} {L M : Int → List Stp}
theorem pt_is {n : Int} (hc : PE X a (tVar 0)) (ho : PE X b (tC (.int n))) : PT X (.Compare a [.Eq] [b] pos) (tOn (isN n)) := fun pins s σ H Q I ⟨c, e, q⟩ =>
  pt_cmp (pc_eqI hc ho) (nobehind _ (by decide) (by decide)) pins s σ H Q I ⟨_, e, c, n, rfl, rfl, _, rfl, q⟩
theorem pe_is {n : Int} (hc : PE X a (tVar 0)) (ho : PE X b (tC (.int n))) : PE X (.Compare a [.Eq] [b] pos) (tBv (isN n)) := fun pins s σ H Q I ⟨c, e, q⟩ =>
  pe_cmp (pc_eqI hc ho) (nobehind _ (by decide) (by decide)) pins s σ H Q I ⟨_, e, c, n, rfl, rfl, q⟩
theorem pt_lt {n : Int} (hc : PE X a (tVar 0)) (ho : PE X b (tC (.int n))) : PT X (.Compare a [.Lt] [b] pos) (tOn fun c => decide (c < n)) := fun pins s σ H Q I ⟨c, e, q⟩ =>
  pt_cmp (pc_lt hc ho) (nobehind _ (by decide) (by decide)) pins s σ H Q I ⟨_, e, c, n, rfl, rfl, _, rfl, q⟩
def rng (lo hi : Int) : Int → Bool := fun c => decide (lo ≤ c) && decide (c ≤ hi)
theorem pe_rng {lo hi : Int} (hl : PE X a (tC (.int lo))) (hc : PE X (.Name x1 p1) (tVar 0)) (hh : PE X b (tC (.int hi))) (hm : lastMarks [CmpOp.LtE, CmpOp.LtE] [(.Name x1 p1 : Expr), b] = false := by with_unfolding_all rfl) :
    PE X (.Compare a [.LtE, .LtE] [.Name x1 p1, b] pos) (tBv (rng lo hi)) := fun pins s σ H Q I ⟨c, e, q⟩ => by
  refine pe_chain op_le op_le hl hc hh hm pins s σ H Q I ⟨_, e, lo, c, rfl, rfl, _, rfl, ?_⟩
  cases h : decide (lo ≤ c) with
  | false =>
    rw [if_neg Bool.false_ne_true]
    unfold rng at q
    rw [h] at q
    exact q
  | true =>
    rw [if_pos rfl]
    unfold rng at q
    rw [h] at q
    exact ⟨c, hi, rfl, rfl, q⟩
theorem pt_rng {lo hi : Int} (hl : PE X a (tC (.int lo))) (hc : PE X (.Name x1 p1) (tVar 0)) (hh : PE X b (tC (.int hi))) (hm : lastMarks [CmpOp.LtE, CmpOp.LtE] [(.Name x1 p1 : Expr), b] = false := by with_unfolding_all rfl) :
    PT X (.Compare a [.LtE, .LtE] [.Name x1 p1, b] pos) (tOn (rng lo hi)) := fun pins s σ H Q I ⟨c, e, q⟩ => by
  refine pt_chain op_le op_le hl hc hh hm pins s σ H Q I ⟨_, e, lo, c, rfl, rfl, _, rfl, ?_⟩
  cases h : decide (lo ≤ c) with
  | false =>
    rw [if_neg Bool.false_ne_true]
    unfold rng at q
    rw [h] at q
    exact ⟨_, rfl, q⟩
  | true =>
    rw [if_pos rfl]
    unfold rng at q
    rw [h] at q
    exact ⟨c, hi, rfl, rfl, _, rfl, q⟩
theorem pe_orB (ha : PE X a (tBv f)) (hb : PE X (.BoolOp .Or (b :: rest) pos) (tBv g)) : PE X (.BoolOp .Or (a :: b :: rest) pos) (tBv fun c => f c || g c) := fun pins s σ H Q I ⟨c, e, q⟩ => by
  refine pe_or ha hb pins s σ H Q I ⟨c, e, _, rfl, ?_⟩
  cases h : f c with
  | true =>
    rw [if_pos rfl]
    dsimp only at q
    rw [h] at q
    exact q
  | false =>
    rw [if_neg Bool.false_ne_true]
    dsimp only at q
    rw [h] at q
    exact ⟨c, e, q⟩
theorem pt_or2 (ha : PT X a (tOn f)) (hb : PT X b (tOn g)) : PT X (.BoolOp .Or [a, b] pos) (tOn fun c => f c || g c) := fun pins s σ H Q I ⟨c, e, q⟩ => by
  refine (pw_or ha (pw_or1 hb)).pt pins s σ H Q I ⟨c, e, ?_⟩
  cases h : f c with
  | true =>
    rw [if_pos rfl]
    dsimp only at q
    rw [h] at q
    exact q
  | false =>
    rw [if_neg Bool.false_ne_true]
    dsimp only at q
    rw [h] at q
    exact ⟨c, e, q⟩
theorem pe_pred {k : Nat} {ps : List Str} (D : DefD X.prog X.w X.K X.mg X.base k x ps (spB f)) (hr : Room k X.A) (hc : PE X (.Name x1 p1) (tVar 0)) (hg : Gl X x := by rfl) (hdb : (x == ("__debug__" : Str)) = false := by decide) :
    PE X (.Call (.Name x p) [.Name x1 p1] [] pos) (tBv f) := fun pins s σ H Q I ⟨c, e, q⟩ => pe_def D hr (pa_cons hc pa_nil) hg hdb rfl rfl pins s σ H Q I ⟨_, e, c, rfl, q⟩
theorem pt_pred {k : Nat} {ps : List Str} (D : DefD X.prog X.w X.K X.mg X.base k x ps (spB f)) (hr : Room k X.A) (hc : PE X (.Name x1 p1) (tVar 0)) (hg : Gl X x := by rfl) (hdb : (x == ("__debug__" : Str)) = false := by decide) :
    PT X (.Call (.Name x p) [.Name x1 p1] [] pos) (tOn f) := fun pins s σ H Q I ⟨c, e, q⟩ => pt_val (pe_pred D hr hc hg hdb) (by intro _; rfl) pins s σ H Q I ⟨c, e, _, rfl, q⟩
theorem pt_in {t : Addr} {xs : List V} (hc : PE X (.Name x1 p1) (tVar 0)) (hm : X.mg x2 = some (.ref t)) (hT : TupAt X.K t xs) (hf : xs.all flatV = true) (he : ∀ c, inV (.int c) xs = f c) (hg : Gl X x2 := by rfl) (hd : (x2 == ("__debug__" : Str)) = false := by decide) :
    PT X (.Compare (.Name x1 p1) [.In] [.Name x2 p2] pos) (tOn f) := fun pins s σ H Q I ⟨c, e, q⟩ =>
  pt_cmpR op_in_seq hc (pe_glob (v := .ref t) hg hm rfl hd) (by with_unfolding_all rfl) pins s σ H Q I ⟨_, e, t, xs, rfl, .inr (.inr hT), rfl, hf, _, rfl, by
    show Q (inV (.int c) xs) H
    rw [he]; exact q⟩
/-- lists of one and of two new steps -/
theorem pe_l1 {fe : Expr} {args : List Expr} {t : Int → Stp} (h : PE X (.Call fe args [] p) (tNewS C t)) : PE X (.List [.Call fe args [] p] pos) (tList C fun c => [t c]) := fun pins s σ H Q I ⟨c, e, q⟩ =>
  pe_lst (pa_cons h pa_nil) pins s σ H Q I ⟨c, e, fun H' a ha sm => ⟨(by show 1 ≤ sizeLine; decide), fun l hl => q _ l ⟨[a], upd_same, ha.same (Same_lay hl), trivial⟩ (sm.trans (Same_lay hl)) (sm.free hl)⟩⟩
theorem pe_l2 {fe fe2 : Expr} {args args2 : List Expr} {t t2 : Int → Stp} (h : PE X (.Call fe args [] p) (tNewS C t)) (h2 : PE X (.Call fe2 args2 [] p2) (tNewS C t2)) : PE X (.List [.Call fe args [] p, .Call fe2 args2 [] p2] pos) (tList C fun c => [t c, t2 c]) := fun pins s σ H Q I ⟨c, e, q⟩ =>
  pe_lst (pa_cons h (pa_cons h2 pa_nil)) pins s σ H Q I ⟨c, e, fun H' a ha sm => ⟨c, e, fun H2 a2 ha2 sm2 => ⟨(by show 2 ≤ sizeLine; decide), fun l hl => q _ l ⟨[a, a2], upd_same, ha.same (sm2.trans (Same_lay hl)), ha2.same (Same_lay hl), trivial⟩ ((sm.trans sm2).trans (Same_lay hl)) ((sm.trans sm2).free hl)⟩⟩⟩
theorem pe_adds {k : Nat} {ps : List Str} {z : Int} (D : DefD X.prog X.w X.K X.mg X.base k "adds" ps (spAdds C)) (hr : Room k X.A) (hc : PE X (.Name x1 p1) (tVar 0)) (hz : PE X (.Name x2 p2) (tC (.int z))) (hg : Gl X "adds" := by rfl) :
    PE X (.Call (.Name "adds" p) [.Name x1 p1, .Name x2 p2] [] pos) (tNewS C fun c => adds c z) := fun pins s σ H Q I ⟨c, e, q⟩ =>
  pe_def D hr (pa_cons hc (pa_cons hz pa_nil)) hg (by decide) rfl rfl pins s σ H Q I ⟨_, e, c, z, rfl, q⟩
theorem pe_addsC {k j : Nat} {ps : List Str} {y z : Int} (D : DefD X.prog X.w X.K X.mg X.base k "adds" ps (spAdds C)) (hr : Room k X.A) (hz : PE X (.Name x2 p2) (tC (.int z))) (hg : Gl X "adds" := by rfl) :
    PE X (.Call (.Name "adds" p) [.Constant (.int y) j p1, .Name x2 p2] [] pos) (tNewS C fun _ => adds y z) := fun pins s σ H Q I ⟨c, e, q⟩ =>
  pe_def D hr (pa_cons pe_int (pa_cons hz pa_nil)) hg (by decide) rfl rfl pins s σ H Q I ⟨y, z, rfl, q⟩
theorem pe_goes {k : Nat} {ps : List Str} {z : Int} (D : DefD X.prog X.w X.K X.mg X.base k "goes" ps (spGoes C)) (hr : Room k X.A) (hz : PE X (.Name x2 p2) (tC (.int z))) (hg : Gl X "goes" := by rfl) :
    PE X (.Call (.Name "goes" p) [.Name x2 p2] [] pos) (tNewS C fun _ => goes z) := fun pins s σ H Q I ⟨c, e, q⟩ =>
  pe_def D hr (pa_cons hz pa_nil) hg (by decide) rfl rfl pins s σ H Q I ⟨z, rfl, q⟩
theorem pe_finishes {k : Nat} {ps : List Str} {z : Int} (D : DefD X.prog X.w X.K X.mg X.base k "finishes" ps (spFinishes C)) (hr : Room k X.A) (hz : PE X (.Name x2 p2) (tC (.int z))) (hg : Gl X "finishes" := by rfl) :
    PE X (.Call (.Name "finishes" p) [.Name x2 p2] [] pos) (tNewS C fun _ => finishes z) := fun pins s σ H Q I ⟨c, e, q⟩ =>
  pe_def D hr (pa_cons hz pa_nil) hg (by decide) rfl rfl pins s σ H Q I ⟨z, rfl, q⟩
theorem pe_wrong {k : Nat} {ps : List Str} (D : DefD X.prog X.w X.K X.mg X.base k "wrong" ps (spWrong C)) (hr : Room k X.A) (hg : Gl X "wrong" := by rfl) :
    PE X (.Call (.Name "wrong" p) [] [] pos) (tNewS C fun _ => wrongS) := fun pins s σ H Q I ⟨c, e, q⟩ =>
  pe_def0 D hr hg (by decide) pins s σ H Q I ⟨rfl, q⟩
theorem pe_fas {k : Nat} {ps : List Str} {z : Int} (D : DefD X.prog X.w X.K X.mg X.base k "finish_and_start" ps (spFas C)) (hr : Room k X.A) (hz : PE X (.Name x2 p2) (tC (.int z))) (hc : PE X (.Name x1 p1) (tVar 0)) (hg : Gl X "finish_and_start" := by rfl) :
    PE X (.Call (.Name "finish_and_start" p) [.Name x2 p2, .Name x1 p1] [] pos) (tList C fun c => finishes z :: startL c) := fun pins s σ H Q I ⟨c, e, q⟩ =>
  pe_def D hr (pa_cons hz (pa_cons hc pa_nil)) hg (by decide) rfl rfl pins s σ H Q I ⟨_, e, z, c, rfl, q⟩
/-- bodies: tests and returns -/
theorem bd_ret (h : PE X a (tList C L)) : PSs X [.Return (some a) pos] (tRetL C L) := fun pins s σ H D I q => pss_one (ps_ret h) pins s σ H D I q
theorem bd_if (ht : PT X b (tOn f)) (h : PE X a (tList C L)) (hr : PSs X st (tRetL C M)) : PSs X (.If b [.Return (some a) p1] [] pos :: st) (tRetL C fun c => if f c = true then L c else M c) := fun pins s σ H D I ⟨c, e, q⟩ => by
  refine pss_cons (ps_if ht (pss_one (ps_ret h)) pss_nil) hr pins s σ H D I ⟨c, e, ?_⟩
  dsimp only
  by_cases hf : f c = true
  · rw [if_pos hf]
    exact ⟨c, e, fun H' l hl sm fr => q H' l (by dsimp only; rw [if_pos hf]; exact hl) sm fr⟩
  · rw [if_neg hf]
    exact ⟨c, e, fun H' l hl sm fr => q H' l (by dsimp only; rw [if_neg hf]; exact hl) sm fr⟩
theorem bi_ret {u : Int → Int} (h : PE X a (tIv u)) : PSs X [.Return (some a) pos] (tRetI u) := fun pins s σ H D I q => pss_one (ps_ret h) pins s σ H D I q
theorem bi_if {u v : Int → Int} (ht : PT X b (tOn f)) (h : PE X a (tIv u)) (hr : PSs X st (tRetI v)) : PSs X (.If b [.Return (some a) p1] [] pos :: st) (tRetI fun c => if f c = true then u c else v c) := fun pins s σ H D I ⟨c, e, q⟩ => by
  refine pss_cons (ps_if ht (pss_one (ps_ret h)) pss_nil) hr pins s σ H D I ⟨c, e, ?_⟩
  dsimp only at q ⊢
  by_cases hf : f c = true
  · rw [if_pos hf]
    exact ⟨c, e, by rw [if_pos hf] at q; exact q⟩
  · rw [if_neg hf]
    exact ⟨c, e, by rw [if_neg hf] at q; exact q⟩
end
theorem blank_in (c : Int) : inV (.int c) [.int 32, .int 9, .int 10, .int 13] = Sg04.blank c := by
  show ((32 : Int) == c || ((9 : Int) == c || ((10 : Int) == c || ((13 : Int) == c || false)))) = (c == 32 || (c == 9 || (c == 10 || c == 13)))
  rw [Bool.eq_iff_iff]
  simp only [Bool.or_eq_true, beq_iff_eq, Bool.false_eq_true, or_false]
  omega
theorem mark_in (c : Int) : inV (.int c) [.int 123, .int 125, .int 91, .int 93, .int 58, .int 44, .int 61] = Sg04.mark c := by
  unfold Sg04.mark
  rw [Bool.eq_iff_iff, List.contains_iff_mem]
  show ((123 : Int) == c || ((125 : Int) == c || ((91 : Int) == c || ((93 : Int) == c || ((58 : Int) == c || ((44 : Int) == c || ((61 : Int) == c || false))))))) = true ↔ _
  simp only [Bool.or_eq_true, beq_iff_eq, Bool.false_eq_true, or_false, List.mem_cons, List.not_mem_nil]
  omega
theorem letter_rng (c : Int) : (rng 65 90 c || (rng 97 122 c || isN 95 c)) = Sg04.letter c := by
  unfold rng isN Sg04.letter
  rw [Bool.beq_eq_decide_eq]
theorem power_is (c : Int) : (isN 101 c || isN 69 c) = Sg04.power c := by
  unfold isN Sg04.power
  rw [Bool.beq_eq_decide_eq, Bool.beq_eq_decide_eq]
end Sr
end
section
set_option Elab.async false
set_option linter.all false
set_option maxRecDepth 100000
set_option maxHeartbeats 2000000
namespace Sr
open PySem PySem.Spec PyProof.Rows L2
/-- what of states.py's names the defs ask -/
structure TxS (K : PySem.W.Frag) (mg : Str → Option Value) (C aB aM : Addr) : Prop where
  cl : Cls K C
  nDeed : NoAttr K C "deed"
  nState : NoAttr K C "state"
  nNumber : NoAttr K C "number"
  ord : mg "ord" = none
  gStart : GI mg "START" 0
  gWord : GI mg "WORD" 1
  gMinus : GI mg "MINUS" 2
  gZero : GI mg "ZERO" 3
  gWhole : GI mg "WHOLE" 4
  gPoint : GI mg "POINT" 5
  gFraction : GI mg "FRACTION" 6
  gE : GI mg "E" 7
  gSign : GI mg "SIGN" 8
  gExponent : GI mg "EXPONENT" 9
  gText : GI mg "TEXT" 10
  gEscape : GI mg "ESCAPE" 11
  gHex : GI mg "HEX" 12
  gLow : GI mg "LOW" 13
  gComment : GI mg "COMMENT" 14
  gOver : GI mg "OVER" 15
  gEnd : GI mg "END" (-1)
  gKWord : GI mg "KIND_WORD" 1
  gKWhole : GI mg "KIND_WHOLE" 2
  gKNumber : GI mg "KIND_NUMBER" 3
  gKText : GI mg "KIND_TEXT" 4
  gKMark : GI mg "KIND_MARK" 5
  gGo : GS mg "GO" "go"
  gAdd : GS mg "ADD" "add"
  gHigh : GS mg "HIGH_DIGIT" "high digit"
  gLowD : GS mg "LOW_DIGIT" "low digit"
  gFinish : GS mg "FINISH" "finish"
  gWrongD : GS mg "WRONG" "wrong"
  mB : mg "BLANKS" = some (.ref aB)
  tB : TupAt K aB [.int 32, .int 9, .int 10, .int 13]
  mM : mg "MARKS" = some (.ref aM)
  tM : TupAt K aM [.int 123, .int 125, .int 91, .int 93, .int 58, .int 44, .int 61]
section
variable {P : Program} {w : World} {K : PySem.W.Frag} {mg : Str → Option Value} {base : Heap} {C aB aM : Addr} {f : Addr} {fd : FuncData}
def tRetB (g : Int → Bool) : TS := fun D σ H => ∃ c, σ[0]? = some (some (V.int c)) ∧ D.rt (.bl (g c)) H
theorem bB_ret {X : Cx} {a : Expr} {pos : Pos} {g : Int → Bool} (h : PE X a (tBv g)) : PSs X [.Return (some a) pos] (tRetB g) := fun pins s σ H D I q => pss_one (ps_ret h) pins s σ H D I q
theorem pe_subI {X : Cx} {a b : Expr} {pos : Pos} {n : Int} (ha : PE X a (tVar 0)) (hb : PE X b (tC (.int n))) : PE X (.BinOp a .Sub b pos) (tIv fun c => c - n) := fun pins s σ H Q I ⟨c, e, q⟩ =>
  pe_op op_sub ha hb pins s σ H Q I ⟨_, e, c, n, rfl, rfl, q⟩
theorem pe_addI {X : Cx} {a b : Expr} {pos : Pos} {n : Int} {u : Int → Int} (ha : PE X a (tIv u)) (hb : PE X b (tC (.int n))) : PE X (.BinOp a .Add b pos) (tIv fun c => u c + n) := fun pins s σ H Q I ⟨c, e, q⟩ =>
  pe_op op_add ha hb pins s σ H Q I ⟨c, e, u c, n, rfl, rfl, q⟩
theorem pe_negI {X : Cx} {pos p1 : Pos} {n : Int} {j : Nat} : PE X (.UnaryOp .USub (.Constant (.int n) j p1) pos) (tC (.int (-n))) := fun pins s σ H Q I q =>
  pe_un un_neg pe_int pins s σ H Q I ⟨n, rfl, q⟩
theorem pe_constI {X : Cx} {a : Expr} {n : Int} (h : PE X a (tC (.int n))) : PE X a (tIv fun _ => n) := fun pins s σ H Q I ⟨c, e, q⟩ => h pins s σ H Q I q
section
variable {x qual : Str} {st : Stmt} {N : List Str} {k : Nat}
theorem ok_steps {L : Int → List Stp} (F : Fun K x qual st f fd) (S : FnScope N ["c"] (defScope st))
    (hb : ∀ (cdv : Value) (A : Around) (outer : List Env) (s : Shared) (H : Hp) (E : XK), Room k (A.deeper (envOfC qual (defScope st) s.heap.objs.size f cdv)) → PSs (cxOf CX0 P w K mg base N qual (defScope st) f cdv A outer s H E).nox (defBody st) (tRetL C L)) :
    FnOk P w K mg base CX0 (k + 1) f fd ["c"] (spSteps C L) := by
  refine F.ok S (fun vs H Q E h => ?_) (fun cdv A outer s H vs Q E hr h => ?_)
  · obtain ⟨c, rfl, _⟩ := h
    rfl
  · obtain ⟨c, rfl, q⟩ := h
    exact ⟨_, hb cdv A outer s H E hr, c, rfl, q⟩
theorem ok_pred {g : Int → Bool} (F : Fun K x qual st f fd) (S : FnScope N ["c"] (defScope st))
    (hb : ∀ (cdv : Value) (A : Around) (outer : List Env) (s : Shared) (H : Hp) (E : XK), Room k (A.deeper (envOfC qual (defScope st) s.heap.objs.size f cdv)) → PSs (cxOf CX0 P w K mg base N qual (defScope st) f cdv A outer s H E).nox (defBody st) (tRetB g)) :
    FnOk P w K mg base CX0 (k + 1) f fd ["c"] (spB g) := by
  refine F.ok S (fun vs H Q E h => ?_) (fun cdv A outer s H vs Q E hr h => ?_)
  · obtain ⟨c, rfl, _⟩ := h
    rfl
  · obtain ⟨c, rfl, q⟩ := h
    exact ⟨_, hb cdv A outer s H E hr, c, rfl, q⟩
theorem ok_val {g : Int → Int} (F : Fun K x qual st f fd) (S : FnScope N ["c"] (defScope st))
    (hb : ∀ (cdv : Value) (A : Around) (outer : List Env) (s : Shared) (H : Hp) (E : XK), Room k (A.deeper (envOfC qual (defScope st) s.heap.objs.size f cdv)) → PSs (cxOf CX0 P w K mg base N qual (defScope st) f cdv A outer s H E).nox (defBody st) (tRetI g)) :
    FnOk P w K mg base CX0 (k + 1) f fd ["c"] (spI g) := by
  refine F.ok S (fun vs H Q E h => ?_) (fun cdv A outer s H vs Q E hr h => ?_)
  · obtain ⟨c, rfl, _⟩ := h
    rfl
  · obtain ⟨c, rfl, q⟩ := h
    exact ⟨_, hb cdv A outer s H E hr, c, rfl, q⟩
end
/-! ### Step -/
theorem scStepInit : FnScope ["self", "deed", "state", "number"] ["self", "deed", "state", "number"] (defScope sStepInit) := ⟨rfl, rfl, rfl, by decide +kernel, rfl, by decide +kernel, by decide +kernel⟩
theorem ok_stepInit (F : Fun K "__init__" "Step.__init__" sStepInit f fd) (T : TxS K mg C aB aM) : FnOk P w K mg base CX0 1 f fd ["self", "deed", "state", "number"] (spStepInit C) := by
  refine F.ok scStepInit (fun vs H Q E h => ?_) (fun cdv A outer s H vs Q E hr h => ?_)
  · obtain ⟨p, dx, d, s, n, rfl, _⟩ := h
    rfl
  · obtain ⟨p, dx, d, z, n, rfl, hp, k⟩ := h
    refine ⟨_, pss_cons (ps_fld (pv 0) (pv 1) rfl) (pss_cons (ps_fld (pv 0) (pv 2) rfl) (pss_one (ps_fld (pv 0) (pv 3) rfl))), ?_⟩
    refine ⟨_, rfl, _, rfl, p, C, dx, [], rfl, hp, T.cl, T.nDeed, (by show 0 < 1000; decide), ?_⟩
    refine ⟨_, rfl, _, rfl, p, C, dx, [("deed", .str d)], rfl, upd_same, T.cl, T.nState, (by show 1 < 1000; decide), ?_⟩
    rw [putF_miss (by decide +kernel)]
    refine ⟨_, rfl, _, rfl, p, C, dx, [("deed", .str d), ("state", .int z)], rfl, upd_same, T.cl, T.nNumber, (by show 2 < 1000; decide), ?_⟩
    rw [putF_miss (by decide +kernel), putF_miss (by decide +kernel)]
    exact k _ ⟨dx, upd_same⟩ fun b o e hb => by rw [upd_ne hb, upd_ne hb, upd_ne hb]; exact e
/-- Step(d, s, n) as a value -/
theorem pe_step {X : Cx} {C : Addr} {k : Nat} {p pos : Pos} {e1 : Expr} {es : List Expr} {t : TA} {ps : List Str} (D : ClsD X.prog X.w X.K X.mg X.base k "Step" C ps (spStepInit C)) (hr : Room (k + 1) X.A) (ha : PA X (e1 :: es) t) (hg : Gl X "Step" := by rfl)
    (he : starEach (e1 :: es) X.env = (false, eval e1 X.env) :: starEach es X.env := by rfl) (hpl : (backTo pos (starEach es X.env)).any (·.1) = false := by rfl) :
    PE X (.Call (.Name "Step" p) (e1 :: es) [] pos) (fun σ H Q => t σ H fun vs H1 => ∃ (d : Str) (s n : Int), vs = [.str d, .int s, .int n] ∧ ∀ H' a, (∃ dx, H' a = some (.ins C dx (sf d s n))) → Same H1 H' → Q (.ref a) H') := by
  obtain ⟨f, fd, M, F, hb⟩ := D.ex
  intro pins s σ H Q I h
  refine wpAny_Call_Name_kw (ld_glob I hg D.gl ?_ (by decide))
  refine PySem.W.callWith_K (h₀ := X.base) I.ok.mod.kin M.kp (thn (ha pos pins s σ H _ I h) fun us s1 h1 => ?_) he hpl
  obtain ⟨vs, H1, I1, r, d, z, n, e, q⟩ := h1
  subst e
  refine ⟨I1.kIn, run_make M F hr hb .nil pass0 I1 r fun x dx nx ndx ne => ?_⟩
  exact ⟨x, dx, d, z, n, rfl, upd_same, fun H2 hd kp => ⟨rfl, q H2 x hd (Same.made nx ndx kp)⟩⟩
theorem scGoes : FnScope ["state"] ["state"] (defScope sGoes) := ⟨rfl, rfl, rfl, by decide +kernel, rfl, by decide +kernel, by decide +kernel⟩
theorem ok_goes (F : Fun K "goes" "goes" sGoes f fd) (T : TxS K mg C aB aM) (D : ClsD P w K mg base 1 "Step" C ["self", "deed", "state", "number"] (spStepInit C)) : FnOk P w K mg base CX0 3 f fd ["state"] (spGoes C) := by
  refine F.ok scGoes (fun vs H Q E h => ?_) (fun cdv A outer s H vs Q E hr h => ?_)
  · obtain ⟨c, rfl, _⟩ := h
    rfl
  · obtain ⟨z, rfl, q⟩ := h
    refine ⟨_, pss_one (ps_ret (pe_step D hr (pa_cons (pe_gs T.gGo) (pa_cons (pv 0) (pa_cons pe_int pa_nil))))), ?_⟩
    exact ⟨_, rfl, _, _, _, rfl, q⟩
theorem scAdds : FnScope ["byte", "state"] ["byte", "state"] (defScope sAdds) := ⟨rfl, rfl, rfl, by decide +kernel, rfl, by decide +kernel, by decide +kernel⟩
theorem ok_adds (F : Fun K "adds" "adds" sAdds f fd) (T : TxS K mg C aB aM) (D : ClsD P w K mg base 1 "Step" C ["self", "deed", "state", "number"] (spStepInit C)) : FnOk P w K mg base CX0 3 f fd ["byte", "state"] (spAdds C) := by
  refine F.ok scAdds (fun vs H Q E h => ?_) (fun cdv A outer s H vs Q E hr h => ?_)
  · obtain ⟨c, z, rfl, _⟩ := h
    rfl
  · obtain ⟨c, z, rfl, q⟩ := h
    refine ⟨_, pss_one (ps_ret (pe_step D hr (pa_cons (pe_gs T.gAdd) (pa_cons (pv 1) (pa_cons (pv 0) pa_nil))))), ?_⟩
    exact ⟨_, rfl, _, rfl, _, _, _, rfl, q⟩
theorem scFinishes : FnScope ["kind"] ["kind"] (defScope sFinishes) := ⟨rfl, rfl, rfl, by decide +kernel, rfl, by decide +kernel, by decide +kernel⟩
theorem ok_finishes (F : Fun K "finishes" "finishes" sFinishes f fd) (T : TxS K mg C aB aM) (D : ClsD P w K mg base 1 "Step" C ["self", "deed", "state", "number"] (spStepInit C)) : FnOk P w K mg base CX0 3 f fd ["kind"] (spFinishes C) := by
  refine F.ok scFinishes (fun vs H Q E h => ?_) (fun cdv A outer s H vs Q E hr h => ?_)
  · obtain ⟨c, rfl, _⟩ := h
    rfl
  · obtain ⟨z, rfl, q⟩ := h
    refine ⟨_, pss_one (ps_ret (pe_step D hr (pa_cons (pe_gs T.gFinish) (pa_cons (pe_gi T.gStart) (pa_cons (pv 0) pa_nil))))), ?_⟩
    exact ⟨_, rfl, _, _, _, rfl, q⟩
theorem scWrong : FnScope [] [] (defScope sWrong) := ⟨rfl, rfl, rfl, by decide +kernel, rfl, by decide +kernel, by decide +kernel⟩
theorem ok_wrong (F : Fun K "wrong" "wrong" sWrong f fd) (T : TxS K mg C aB aM) (D : ClsD P w K mg base 1 "Step" C ["self", "deed", "state", "number"] (spStepInit C)) : FnOk P w K mg base CX0 3 f fd [] (spWrong C) := by
  refine F.ok scWrong (fun vs H Q E h => ?_) (fun cdv A outer s H vs Q E hr h => ?_)
  · obtain ⟨rfl, _⟩ := h
    rfl
  · obtain ⟨rfl, q⟩ := h
    refine ⟨_, pss_one (ps_ret (pe_step D hr (pa_cons (pe_gs T.gWrongD) (pa_cons (pe_gi T.gOver) (pa_cons pe_int pa_nil))))), ?_⟩
    exact ⟨_, _, _, rfl, q⟩
/-! ### bytes -/
theorem scIsLetter : FnScope ["c"] ["c"] (defScope sIsLetter) := ⟨rfl, rfl, rfl, by decide +kernel, rfl, by decide +kernel, by decide +kernel⟩
theorem ok_isLetter (F : Fun K "is_letter" "is_letter" sIsLetter f fd) (T : TxS K mg C aB aM) : FnOk P w K mg base CX0 1 f fd ["c"] (spB Sg04.letter) := by
  have e : (fun c => rng 65 90 c || (rng 97 122 c || isN 95 c)) = Sg04.letter := funext letter_rng
  rw [← e]
  exact ok_pred F scIsLetter fun cdv A outer s H E hr =>
    bB_ret (pe_orB (pe_rng (pe_ord T.ord 65) (pv 0) (pe_ord T.ord 90)) (pe_orB (pe_rng (pe_ord T.ord 97) (pv 0) (pe_ord T.ord 122)) (pe_one (pe_is (pv 0) (pe_ord T.ord 95)))))
theorem scIsDigit : FnScope ["c"] ["c"] (defScope sIsDigit) := ⟨rfl, rfl, rfl, by decide +kernel, rfl, by decide +kernel, by decide +kernel⟩
theorem ok_isDigit (F : Fun K "is_digit" "is_digit" sIsDigit f fd) (T : TxS K mg C aB aM) : FnOk P w K mg base CX0 1 f fd ["c"] (spB Sg04.digit) :=
  ok_pred (g := rng 48 57) F scIsDigit fun cdv A outer s H E hr => bB_ret (pe_rng (pe_ord T.ord 48) (pv 0) (pe_ord T.ord 57))
theorem scIsE : FnScope ["c"] ["c"] (defScope sIsE) := ⟨rfl, rfl, rfl, by decide +kernel, rfl, by decide +kernel, by decide +kernel⟩
theorem ok_isE (F : Fun K "is_e" "is_e" sIsE f fd) (T : TxS K mg C aB aM) : FnOk P w K mg base CX0 1 f fd ["c"] (spB Sg04.power) := by
  have e : (fun c => isN 101 c || isN 69 c) = Sg04.power := funext power_is
  rw [← e]
  exact ok_pred F scIsE fun cdv A outer s H E hr => bB_ret (pe_orB (pe_is (pv 0) (pe_ord T.ord 101)) (pe_one (pe_is (pv 0) (pe_ord T.ord 69))))
theorem scHexValue : FnScope ["c"] ["c"] (defScope sHexValue) := ⟨rfl, rfl, rfl, by decide +kernel, rfl, by decide +kernel, by decide +kernel⟩
theorem ok_hexValue (F : Fun K "hex_value" "hex_value" sHexValue f fd) (T : TxS K mg C aB aM) (D : DefD P w K mg base 1 "is_digit" ["c"] (spB Sg04.digit)) : FnOk P w K mg base CX0 2 f fd ["c"] (spI hexV) :=
  ok_val F scHexValue fun cdv A outer s H E hr =>
    bi_if (pt_pred D hr (pv 0)) (pe_subI (pv 0) (pe_ord T.ord 48))
    (bi_if (pt_rng (pe_ord T.ord 97) (pv 0) (pe_ord T.ord 102)) (pe_addI (pe_subI (pv 0) (pe_ord T.ord 97)) pe_int)
    (bi_if (pt_rng (pe_ord T.ord 65) (pv 0) (pe_ord T.ord 70)) (pe_addI (pe_subI (pv 0) (pe_ord T.ord 65)) pe_int)
    (bi_ret (pe_constI pe_negI))))
end
end Sr
end
section
set_option Elab.async false
set_option linter.all false
set_option maxRecDepth 100000
set_option maxHeartbeats 2000000
namespace Sr
open PySem PySem.Spec PyProof.Rows L2
/-- the small defs, at a base -/
structure Small (P : Program) (w : World) (K : PySem.W.Frag) (mg : Str → Option Value) (base : Heap) (C : Addr) : Prop where
  step : ClsD P w K mg base 1 "Step" C ["self", "deed", "state", "number"] (spStepInit C)
  goes : DefD P w K mg base 3 "goes" ["state"] (spGoes C)
  adds : DefD P w K mg base 3 "adds" ["byte", "state"] (spAdds C)
  finishes : DefD P w K mg base 3 "finishes" ["kind"] (spFinishes C)
  wrong : DefD P w K mg base 3 "wrong" [] (spWrong C)
  letter : DefD P w K mg base 3 "is_letter" ["c"] (spB Sg04.letter)
  digit : DefD P w K mg base 3 "is_digit" ["c"] (spB Sg04.digit)
  power : DefD P w K mg base 3 "is_e" ["c"] (spB Sg04.power)
  hexv : DefD P w K mg base 3 "hex_value" ["c"] (spI hexV)
section
variable {P : Program} {w : World} {K : PySem.W.Frag} {mg : Str → Option Value} {base : Heap} {C aB aM : Addr} {f : Addr} {fd : FuncData}
theorem scStart : FnScope ["c"] ["c"] (defScope sStart) := ⟨rfl, rfl, rfl, by decide +kernel, rfl, by decide +kernel, by decide +kernel⟩
theorem ok_start_steps (F : Fun K "start_steps" "start_steps" sStart f fd) (T : TxS K mg C aB aM) (S : Small P w K mg base C) : FnOk P w K mg base CX0 4 f fd ["c"] (spSteps C startL) :=
  ok_steps (k := 3) F scStart fun cdv A outer s H E hr =>
    bd_if (pt_in (pv 0) T.mB T.tB rfl blank_in) (pe_l1 (pe_goes S.goes hr (pe_gi T.gStart))) (
    bd_if (pt_pred S.letter hr (pv 0)) (pe_l1 (pe_adds S.adds hr (pv 0) (pe_gi T.gWord))) (
    bd_if (pt_is (pv 0) (pe_ord T.ord 45)) (pe_l1 (pe_adds S.adds hr (pv 0) (pe_gi T.gMinus))) (
    bd_if (pt_is (pv 0) (pe_ord T.ord 48)) (pe_l1 (pe_adds S.adds hr (pv 0) (pe_gi T.gZero))) (
    bd_if (pt_pred S.digit hr (pv 0)) (pe_l1 (pe_adds S.adds hr (pv 0) (pe_gi T.gWhole))) (
    bd_if (pt_is (pv 0) (pe_ord T.ord 34)) (pe_l1 (pe_goes S.goes hr (pe_gi T.gText))) (
    bd_if (pt_is (pv 0) (pe_ord T.ord 35)) (pe_l1 (pe_goes S.goes hr (pe_gi T.gComment))) (
    bd_if (pt_in (pv 0) T.mM T.tM rfl mark_in) (pe_l2 (pe_adds S.adds hr (pv 0) (pe_gi T.gStart)) (pe_finishes S.finishes hr (pe_gi T.gKMark))) (
    bd_if (pt_is (pv 0) (pe_gi T.gEnd)) (pe_l1 (pe_goes S.goes hr (pe_gi T.gOver))) (
    bd_ret (pe_l1 (pe_wrong S.wrong hr)))))))))))
theorem scFas : FnScope ["kind", "c"] ["kind", "c"] (defScope sFas) := ⟨rfl, rfl, rfl, by decide +kernel, rfl, by decide +kernel, by decide +kernel⟩
theorem ok_fas (F : Fun K "finish_and_start" "finish_and_start" sFas f fd) (S : Small P w K mg base C) (D : DefD P w K mg base 4 "start_steps" ["c"] (spSteps C startL)) : FnOk P w K mg base CX0 5 f fd ["kind", "c"] (spFas C) := by
  refine F.ok scFas (fun vs H Q E h => ?_) (fun cdv A outer s H vs Q E hr h => ?_)
  · obtain ⟨c, z, rfl, _⟩ := h
    rfl
  · obtain ⟨k, c, rfl, q⟩ := h
    have hr3 := hr.mono (show 3 ≤ 4 by decide)
    refine ⟨_, pss_one (ps_ret (pe_op op_cat (pe_lst (pa_cons (pe_def S.finishes hr3 (pa_cons (pv 0) pa_nil)) pa_nil)) (pe_def D hr (pa_cons (pv 1) pa_nil)))), ?_⟩
    refine ⟨_, rfl, k, rfl, fun H1 a ha sm1 => ⟨(by show 1 ≤ sizeLine; decide), fun l hl => ?_⟩⟩
    refine ⟨_, rfl, c, rfl, fun H2 l2 hl2 sm2 _ => ?_⟩
    obtain ⟨as, e2, hs⟩ := hl2
    have hlen := hs.len
    have e1 : H2 l = some (.lst [.ref a]) := sm2 _ _ upd_same
    refine ⟨l, l2, _, _, rfl, rfl, e1, e2, ?_, fun l3 hl3 => q _ l3 ⟨a :: as, upd_same, (ha.same (Same_lay hl)).same (sm2.trans (Same_lay hl3)), hs.same (Same_lay hl3)⟩ (((sm1.trans (Same_lay hl)).trans sm2).trans (Same_lay hl3)) (((sm1.trans (Same_lay hl)).trans sm2).free hl3)⟩
    rw [List.length_map, hlen]
    have : (startL c).length ≤ 2 := startL_len c
    show 1 + (startL c).length ≤ sizeLine
    exact Nat.le_trans (Nat.add_le_add_left this 1) (by decide)
theorem scWord : FnScope ["c"] ["c"] (defScope sWord) := ⟨rfl, rfl, rfl, by decide +kernel, rfl, by decide +kernel, by decide +kernel⟩
theorem ok_word_steps (F : Fun K "word_steps" "word_steps" sWord f fd) (T : TxS K mg C aB aM) (S : Small P w K mg base C) (D : DefD P w K mg base 5 "finish_and_start" ["kind", "c"] (spFas C)) : FnOk P w K mg base CX0 6 f fd ["c"] (spSteps C wordL) :=
  ok_steps (k := 5) F scWord fun cdv A outer s H E hrF =>
    have hr := hrF.mono (show 3 ≤ 5 by decide)
    bd_if (pt_or2 (pt_pred S.letter hr (pv 0)) (pt_pred S.digit hr (pv 0))) (pe_l1 (pe_adds S.adds hr (pv 0) (pe_gi T.gWord))) (
    bd_ret (pe_fas D hrF (pe_gi T.gKWord) (pv 0)))
theorem scMinus : FnScope ["c"] ["c"] (defScope sMinus) := ⟨rfl, rfl, rfl, by decide +kernel, rfl, by decide +kernel, by decide +kernel⟩
theorem ok_minus_steps (F : Fun K "minus_steps" "minus_steps" sMinus f fd) (T : TxS K mg C aB aM) (S : Small P w K mg base C) : FnOk P w K mg base CX0 4 f fd ["c"] (spSteps C minusL) :=
  ok_steps (k := 3) F scMinus fun cdv A outer s H E hr =>
    bd_if (pt_is (pv 0) (pe_ord T.ord 48)) (pe_l1 (pe_adds S.adds hr (pv 0) (pe_gi T.gZero))) (
    bd_if (pt_pred S.digit hr (pv 0)) (pe_l1 (pe_adds S.adds hr (pv 0) (pe_gi T.gWhole))) (
    bd_ret (pe_l1 (pe_wrong S.wrong hr))))
theorem scZero : FnScope ["c"] ["c"] (defScope sZero) := ⟨rfl, rfl, rfl, by decide +kernel, rfl, by decide +kernel, by decide +kernel⟩
theorem ok_zero_steps (F : Fun K "zero_steps" "zero_steps" sZero f fd) (T : TxS K mg C aB aM) (S : Small P w K mg base C) (D : DefD P w K mg base 5 "finish_and_start" ["kind", "c"] (spFas C)) : FnOk P w K mg base CX0 6 f fd ["c"] (spSteps C zeroL) :=
  ok_steps (k := 5) F scZero fun cdv A outer s H E hrF =>
    have hr := hrF.mono (show 3 ≤ 5 by decide)
    bd_if (pt_is (pv 0) (pe_ord T.ord 46)) (pe_l1 (pe_adds S.adds hr (pv 0) (pe_gi T.gPoint))) (
    bd_if (pt_pred S.power hr (pv 0)) (pe_l1 (pe_adds S.adds hr (pv 0) (pe_gi T.gE))) (
    bd_if (pt_or2 (pt_pred S.digit hr (pv 0)) (pt_pred S.letter hr (pv 0))) (pe_l1 (pe_wrong S.wrong hr)) (
    bd_ret (pe_fas D hrF (pe_gi T.gKWhole) (pv 0)))))
theorem scWhole : FnScope ["c"] ["c"] (defScope sWhole) := ⟨rfl, rfl, rfl, by decide +kernel, rfl, by decide +kernel, by decide +kernel⟩
theorem ok_whole_steps (F : Fun K "whole_steps" "whole_steps" sWhole f fd) (T : TxS K mg C aB aM) (S : Small P w K mg base C) (D : DefD P w K mg base 5 "finish_and_start" ["kind", "c"] (spFas C)) : FnOk P w K mg base CX0 6 f fd ["c"] (spSteps C wholeL) :=
  ok_steps (k := 5) F scWhole fun cdv A outer s H E hrF =>
    have hr := hrF.mono (show 3 ≤ 5 by decide)
    bd_if (pt_pred S.digit hr (pv 0)) (pe_l1 (pe_adds S.adds hr (pv 0) (pe_gi T.gWhole))) (
    bd_if (pt_is (pv 0) (pe_ord T.ord 46)) (pe_l1 (pe_adds S.adds hr (pv 0) (pe_gi T.gPoint))) (
    bd_if (pt_pred S.power hr (pv 0)) (pe_l1 (pe_adds S.adds hr (pv 0) (pe_gi T.gE))) (
    bd_if (pt_pred S.letter hr (pv 0)) (pe_l1 (pe_wrong S.wrong hr)) (
    bd_ret (pe_fas D hrF (pe_gi T.gKWhole) (pv 0))))))
theorem scPoint : FnScope ["c"] ["c"] (defScope sPoint) := ⟨rfl, rfl, rfl, by decide +kernel, rfl, by decide +kernel, by decide +kernel⟩
theorem ok_point_steps (F : Fun K "point_steps" "point_steps" sPoint f fd) (T : TxS K mg C aB aM) (S : Small P w K mg base C) : FnOk P w K mg base CX0 4 f fd ["c"] (spSteps C pointL) :=
  ok_steps (k := 3) F scPoint fun cdv A outer s H E hr =>
    bd_if (pt_pred S.digit hr (pv 0)) (pe_l1 (pe_adds S.adds hr (pv 0) (pe_gi T.gFraction))) (
    bd_ret (pe_l1 (pe_wrong S.wrong hr)))
theorem scFraction : FnScope ["c"] ["c"] (defScope sFraction) := ⟨rfl, rfl, rfl, by decide +kernel, rfl, by decide +kernel, by decide +kernel⟩
theorem ok_fraction_steps (F : Fun K "fraction_steps" "fraction_steps" sFraction f fd) (T : TxS K mg C aB aM) (S : Small P w K mg base C) (D : DefD P w K mg base 5 "finish_and_start" ["kind", "c"] (spFas C)) : FnOk P w K mg base CX0 6 f fd ["c"] (spSteps C fractionL) :=
  ok_steps (k := 5) F scFraction fun cdv A outer s H E hrF =>
    have hr := hrF.mono (show 3 ≤ 5 by decide)
    bd_if (pt_pred S.digit hr (pv 0)) (pe_l1 (pe_adds S.adds hr (pv 0) (pe_gi T.gFraction))) (
    bd_if (pt_pred S.power hr (pv 0)) (pe_l1 (pe_adds S.adds hr (pv 0) (pe_gi T.gE))) (
    bd_if (pt_pred S.letter hr (pv 0)) (pe_l1 (pe_wrong S.wrong hr)) (
    bd_ret (pe_fas D hrF (pe_gi T.gKNumber) (pv 0)))))
theorem scE : FnScope ["c"] ["c"] (defScope sE) := ⟨rfl, rfl, rfl, by decide +kernel, rfl, by decide +kernel, by decide +kernel⟩
theorem ok_e_steps (F : Fun K "e_steps" "e_steps" sE f fd) (T : TxS K mg C aB aM) (S : Small P w K mg base C) : FnOk P w K mg base CX0 4 f fd ["c"] (spSteps C eL) :=
  ok_steps (k := 3) F scE fun cdv A outer s H E hr =>
    bd_if (pt_or2 (pt_is (pv 0) (pe_ord T.ord 43)) (pt_is (pv 0) (pe_ord T.ord 45))) (pe_l1 (pe_adds S.adds hr (pv 0) (pe_gi T.gSign))) (
    bd_if (pt_pred S.digit hr (pv 0)) (pe_l1 (pe_adds S.adds hr (pv 0) (pe_gi T.gExponent))) (
    bd_ret (pe_l1 (pe_wrong S.wrong hr))))
theorem scSign : FnScope ["c"] ["c"] (defScope sSign) := ⟨rfl, rfl, rfl, by decide +kernel, rfl, by decide +kernel, by decide +kernel⟩
theorem ok_sign_steps (F : Fun K "sign_steps" "sign_steps" sSign f fd) (T : TxS K mg C aB aM) (S : Small P w K mg base C) : FnOk P w K mg base CX0 4 f fd ["c"] (spSteps C signL) :=
  ok_steps (k := 3) F scSign fun cdv A outer s H E hr =>
    bd_if (pt_pred S.digit hr (pv 0)) (pe_l1 (pe_adds S.adds hr (pv 0) (pe_gi T.gExponent))) (
    bd_ret (pe_l1 (pe_wrong S.wrong hr)))
theorem scExponent : FnScope ["c"] ["c"] (defScope sExponent) := ⟨rfl, rfl, rfl, by decide +kernel, rfl, by decide +kernel, by decide +kernel⟩
theorem ok_exponent_steps (F : Fun K "exponent_steps" "exponent_steps" sExponent f fd) (T : TxS K mg C aB aM) (S : Small P w K mg base C) (D : DefD P w K mg base 5 "finish_and_start" ["kind", "c"] (spFas C)) : FnOk P w K mg base CX0 6 f fd ["c"] (spSteps C exponentL) :=
  ok_steps (k := 5) F scExponent fun cdv A outer s H E hrF =>
    have hr := hrF.mono (show 3 ≤ 5 by decide)
    bd_if (pt_pred S.digit hr (pv 0)) (pe_l1 (pe_adds S.adds hr (pv 0) (pe_gi T.gExponent))) (
    bd_if (pt_pred S.letter hr (pv 0)) (pe_l1 (pe_wrong S.wrong hr)) (
    bd_ret (pe_fas D hrF (pe_gi T.gKNumber) (pv 0))))
theorem scText : FnScope ["c"] ["c"] (defScope sText) := ⟨rfl, rfl, rfl, by decide +kernel, rfl, by decide +kernel, by decide +kernel⟩
theorem ok_text_steps (F : Fun K "text_steps" "text_steps" sText f fd) (T : TxS K mg C aB aM) (S : Small P w K mg base C) : FnOk P w K mg base CX0 4 f fd ["c"] (spSteps C textL) :=
  ok_steps (k := 3) F scText fun cdv A outer s H E hr =>
    bd_if (pt_is (pv 0) (pe_ord T.ord 34)) (pe_l1 (pe_finishes S.finishes hr (pe_gi T.gKText))) (
    bd_if (pt_is (pv 0) (pe_ord T.ord 92)) (pe_l1 (pe_goes S.goes hr (pe_gi T.gEscape))) (
    bd_if (pt_lt (pv 0) pe_int) (pe_l1 (pe_wrong S.wrong hr)) (
    bd_ret (pe_l1 (pe_adds S.adds hr (pv 0) (pe_gi T.gText))))))
theorem scEscape : FnScope ["c"] ["c"] (defScope sEscape) := ⟨rfl, rfl, rfl, by decide +kernel, rfl, by decide +kernel, by decide +kernel⟩
theorem ok_escape_steps (F : Fun K "escape_steps" "escape_steps" sEscape f fd) (T : TxS K mg C aB aM) (S : Small P w K mg base C) : FnOk P w K mg base CX0 4 f fd ["c"] (spSteps C escapeL) :=
  ok_steps (k := 3) F scEscape fun cdv A outer s H E hr =>
    bd_if (pt_is (pv 0) (pe_ord T.ord 110)) (pe_l1 (pe_addsC S.adds hr (pe_gi T.gText))) (
    bd_if (pt_is (pv 0) (pe_ord T.ord 116)) (pe_l1 (pe_addsC S.adds hr (pe_gi T.gText))) (
    bd_if (pt_or2 (pt_is (pv 0) (pe_ord T.ord 92)) (pt_is (pv 0) (pe_ord T.ord 34))) (pe_l1 (pe_adds S.adds hr (pv 0) (pe_gi T.gText))) (
    bd_if (pt_is (pv 0) (pe_ord T.ord 120)) (pe_l1 (pe_goes S.goes hr (pe_gi T.gHex))) (
    bd_ret (pe_l1 (pe_wrong S.wrong hr))))))
theorem scComment : FnScope ["c"] ["c"] (defScope sComment) := ⟨rfl, rfl, rfl, by decide +kernel, rfl, by decide +kernel, by decide +kernel⟩
theorem ok_comment_steps (F : Fun K "comment_steps" "comment_steps" sComment f fd) (T : TxS K mg C aB aM) (S : Small P w K mg base C) : FnOk P w K mg base CX0 4 f fd ["c"] (spSteps C commentL) :=
  ok_steps (k := 3) F scComment fun cdv A outer s H E hr =>
    bd_if (pt_is (pv 0) pe_int) (pe_l1 (pe_goes S.goes hr (pe_gi T.gStart))) (
    bd_if (pt_is (pv 0) (pe_gi T.gEnd)) (pe_l1 (pe_goes S.goes hr (pe_gi T.gOver))) (
    bd_ret (pe_l1 (pe_goes S.goes hr (pe_gi T.gComment)))))
theorem scHex : FnScope ["c", "digit"] ["c"] (defScope sHex) := ⟨rfl, rfl, rfl, by decide +kernel, rfl, by decide +kernel, by decide +kernel⟩
theorem ok_hex_steps (F : Fun K "hex_steps" "hex_steps" sHex f fd) (T : TxS K mg C aB aM) (S : Small P w K mg base C) : FnOk P w K mg base CX0 4 f fd ["c"] (spSteps C hexL) := by
  refine F.ok scHex (fun vs H Q E h => ?_) (fun cdv A outer s H vs Q E hr h => ?_)
  · obtain ⟨c, rfl, _⟩ := h
    rfl
  · obtain ⟨c, rfl, q⟩ := h
    refine ⟨_, pss_cons (ps_set (i := 1) scHex.nd rfl (Or.inl rfl) (pe_def S.hexv hr (pa_cons (pv 0) pa_nil)))
      (pss_cons (ps_if (pt_cmp (pc_lt (pv 1) pe_int)) (pss_one (ps_ret (pe_l1 (pe_wrong S.wrong hr)))) pss_nil)
      (pss_one (ps_ret (pe_lst (pa_cons (pe_step S.step (hr.mono (show 2 ≤ 3 by decide)) (pa_cons (pe_gs T.gHigh) (pa_cons (pe_gi T.gLow) (pa_cons (pv 1) pa_nil)))) pa_nil))))), ?_⟩
    refine ⟨_, rfl, c, rfl, ?_⟩
    refine ⟨_, rfl, hexV c, 0, rfl, rfl, _, rfl, ite2 (fun hf => ?_) fun hf => ?_⟩
    · exact ⟨c, rfl, fun H' l hl sm fr => q H' l (by unfold hexL; rw [if_pos hf]; exact hl) sm fr⟩
    · refine ⟨_, rfl, _, _, _, rfl, fun H' a ha sm => ⟨(by show 1 ≤ sizeLine; decide), fun l hl => q _ l ?_ (sm.trans (Same_lay hl)) (sm.free hl)⟩⟩
      unfold hexL
      rw [if_neg hf]
      exact ⟨[a], upd_same, StepAt.same (t := ⟨.high, 13, hexV c⟩) ha (Same_lay hl), trivial⟩
theorem scLow : FnScope ["c", "digit"] ["c"] (defScope sLow) := ⟨rfl, rfl, rfl, by decide +kernel, rfl, by decide +kernel, by decide +kernel⟩
theorem ok_low_steps (F : Fun K "low_steps" "low_steps" sLow f fd) (T : TxS K mg C aB aM) (S : Small P w K mg base C) : FnOk P w K mg base CX0 4 f fd ["c"] (spSteps C lowL) := by
  refine F.ok scLow (fun vs H Q E h => ?_) (fun cdv A outer s H vs Q E hr h => ?_)
  · obtain ⟨c, rfl, _⟩ := h
    rfl
  · obtain ⟨c, rfl, q⟩ := h
    refine ⟨_, pss_cons (ps_set (i := 1) scLow.nd rfl (Or.inl rfl) (pe_def S.hexv hr (pa_cons (pv 0) pa_nil)))
      (pss_cons (ps_if (pt_cmp (pc_lt (pv 1) pe_int)) (pss_one (ps_ret (pe_l1 (pe_wrong S.wrong hr)))) pss_nil)
      (pss_one (ps_ret (pe_lst (pa_cons (pe_step S.step (hr.mono (show 2 ≤ 3 by decide)) (pa_cons (pe_gs T.gLowD) (pa_cons (pe_gi T.gText) (pa_cons (pv 1) pa_nil)))) pa_nil))))), ?_⟩
    refine ⟨_, rfl, c, rfl, ?_⟩
    refine ⟨_, rfl, hexV c, 0, rfl, rfl, _, rfl, ite2 (fun hf => ?_) fun hf => ?_⟩
    · exact ⟨c, rfl, fun H' l hl sm fr => q H' l (by unfold lowL; rw [if_pos hf]; exact hl) sm fr⟩
    · refine ⟨_, rfl, _, _, _, rfl, fun H' a ha sm => ⟨(by show 1 ≤ sizeLine; decide), fun l hl => q _ l ?_ (sm.trans (Same_lay hl)) (sm.free hl)⟩⟩
      unfold lowL
      rw [if_neg hf]
      exact ⟨[a], upd_same, StepAt.same (t := ⟨.low, 10, hexV c⟩) ha (Same_lay hl), trivial⟩
/-- the table of the states' defs -/
structure Table (P : Program) (w : World) (K : PySem.W.Frag) (mg : Str → Option Value) (base : Heap) (C : Addr) (fs : List Addr) : Prop where
  at_ : ∀ (j : Nat) (L : Int → List Stp), table[j]? = some L → ∃ f fd, fs[j]? = some f ∧ FnOk P w K mg base CX0 6 f fd ["c"] (spSteps C L) ∧ Binds K fd ["c"] [] ∧ PySem.W.keepIn K (.ref f) = true
theorem scStepsOf : FnScope ["state", "c"] ["state", "c"] (defScope sStepsOf) := ⟨rfl, rfl, rfl, by decide +kernel, rfl, by decide +kernel, by decide +kernel⟩
theorem ok_stepsOf {aS : Addr} {fs : List Addr} (F : Fun K "steps_of" "steps_of" sStepsOf f fd) (mS : mg "STEPS" = some (.ref aS)) (tS : TupAt K aS (fs.map V.ref)) (Tb : Table P w K mg base C fs) : FnOk P w K mg base CX0 7 f fd ["state", "c"] (spStepsOf C) := by
  refine F.ok scStepsOf (fun vs H Q E h => ?_) (fun cdv A outer s H vs Q E hr h => ?_)
  · obtain ⟨c, z, rfl, _⟩ := h
    rfl
  · obtain ⟨k, c, rfl, h0, h1, q⟩ := h
    refine ⟨_, pss_one (ps_ret (pe_callV (pe_ix ix_tup (pe_glob (v := .ref aS) rfl mS rfl) (pv 0) (fun _ _ => rfl)) (pa_cons (pv 1) pa_nil))), ?_⟩
    have hk : k.toNat < table.length := by show k.toNat < 15; omega
    obtain ⟨g, fdg, e, G, hb, hkp⟩ := Tb.at_ k.toNat (table[k.toNat]) (List.getElem?_eq_getElem hk)
    refine ⟨_, rfl, aS, fs.map V.ref, k, .ref g, rfl, rfl, .inr tS, at_of (j := k.toNat) (toNat_of h0) (by rw [List.getElem?_map, e]; rfl), g, fdg, _, _, 6, rfl, hkp, G, hr, hb, _, rfl, c, rfl, fun H' l hl sm fr => q H' l ?_ sm fr⟩
    unfold stepsOf
    rw [List.getD_eq_getElem?_getD, List.getElem?_eq_getElem hk]
    exact hl
end
end Sr
end
section
set_option Elab.async false
set_option linter.all false
set_option maxRecDepth 100000
set_option maxHeartbeats 2000000
/-! The reader: its objects in the heap, and each of its methods against the mirror. -/
namespace Sr
open PySem PySem.Spec PyProof.Rows L2
abbrev iReader : Nat := 76
abbrev sRInit : Stmt := inClass (top iReader) 0
abbrev sHand : Stmt := inClass (top iReader) 1
abbrev sRun : Stmt := inClass (top iReader) 2
abbrev sWhere : Stmt := inClass (top iReader) 3
abbrev sKind : Stmt := inClass (top iReader) 4
abbrev sTake : Stmt := inClass (top iReader) 5
abbrev sFault : Stmt := inClass (top iReader) 6
abbrev sDoStep : Stmt := inClass (top iReader) 7
abbrev sAddByte : Stmt := inClass (top iReader) 8
abbrev sGoWrong : Stmt := inClass (top iReader) 9
abbrev sCount : Stmt := top 77
/-! ### the data -/
def rf (m : Mir) (cur wt : Addr) : List (Str × V) := [("state", .int m.st), ("handed", .int m.n), ("current", .ref cur), ("high", .int m.hi), ("waiting", .ref wt), ("fault_place", .int m.flt)]
def TokL (H : Hp) : List (Addr × Addr) → List (Int × List Int) → Prop
  | [], [] => True
  | a :: as, t :: ts => (H a.1 = some (.tup [.int t.1, .ref a.2]) ∧ H a.2 = some (.lst (t.2.map V.int))) ∧ TokL H as ts
  | _, _ => False
structure RdrAt (C : Addr) (H : Hp) (p dx cur wt : Addr) (tk : List (Addr × Addr)) (m : Mir) : Prop where
  obj : H p = some (.ins C dx (rf m cur wt))
  hcur : H cur = some (.lst (m.cur.map V.int))
  hwt : H wt = some (.lst (tk.map fun t => V.ref t.1))
  toks : TokL H tk m.wait
  ncw : cur ≠ wt
  nct : ∀ t ∈ tk, t.2 ≠ cur ∧ t.2 ≠ wt
def own (p cur wt : Addr) (tk : List (Addr × Addr)) : Addr → Prop := fun b => b = p ∨ b = cur ∨ b = wt ∨ ∃ t ∈ tk, b = t.2 ∨ b = t.1
def Rdr (C : Addr) (H : Hp) (p : Addr) (S : Addr → Prop) (m : Mir) : Prop := ∃ dx cur wt tk, S = own p cur wt tk ∧ RdrAt C H p dx cur wt tk m
structure Keep (S : Addr → Prop) (H : Hp) (S' : Addr → Prop) (H' : Hp) : Prop where
  owns : ∀ b, S' b → S b ∨ H b = Option.none
  kept : ∀ b o, H b = some o → ¬ S b → H' b = some o
theorem Keep.refl {S : Addr → Prop} {H : Hp} : Keep S H S H := ⟨fun _ h => .inl h, fun _ _ h _ => h⟩
theorem Keep.trans {S S1 S2 : Addr → Prop} {H H1 H2 : Hp} (a : Keep S H S1 H1) (b : Keep S1 H1 S2 H2) : Keep S H S2 H2 := by
  refine ⟨fun c h => ?_, fun c o h n => b.kept c o (a.kept c o h n) fun q => ?_⟩
  · rcases b.owns c h with q | q
    · exact a.owns c q
    · cases e : H c with
      | none => exact .inr rfl
      | some o =>
        by_cases hs : S c
        · exact .inl hs
        · rw [a.kept c o e hs] at q
          cases q
  · rcases a.owns c q with q | q
    · exact n q
    · rw [h] at q
      cases q
theorem Keep.same {S : Addr → Prop} {H H' : Hp} (a : Same H H') : Keep S H S H' := ⟨fun _ h => .inl h, fun b o h _ => a b o h⟩
theorem Keep.out {S S' : Addr → Prop} {H H' : Hp} (a : Keep S H S' H') {b : Addr} {o : HO} (h : H b = some o) (n : ¬ S b) : ¬ S' b := fun q => by
  rcases a.owns b q with q | q
  · exact n q
  · rw [h] at q
    cases q
theorem Keep.seq {K : PySem.W.Frag} {S S' : Addr → Prop} {H H' : Hp} {a : Addr} {xs : List V} (e : Keep S H S' H') (n : ¬ S a) (h : SqL K H a xs) : SqL K H' a xs := by
  rcases h with (h | ⟨o, h⟩) | h
  · exact .inl (.inl (e.kept _ _ h n))
  · exact .inl (.inr ⟨o, e.kept _ _ h n⟩)
  · exact .inr h
theorem TokL.keep {H H' : Hp} : ∀ {as : List (Addr × Addr)} {ts : List (Int × List Int)}, TokL H as ts → (∀ t ∈ as, (∀ o, H t.1 = some o → H' t.1 = some o) ∧ ∀ o, H t.2 = some o → H' t.2 = some o) → TokL H' as ts
  | [], [], _, _ => trivial
  | a :: as, t :: ts, h, k => ⟨⟨(k a List.mem_cons_self).1 _ h.1.1, (k a List.mem_cons_self).2 _ h.1.2⟩, TokL.keep h.2 fun t' ht => k t' (List.mem_cons_of_mem _ ht)⟩
  | [], _ :: _, h, _ => h.elim
  | _ :: _, [], h, _ => h.elim
theorem TokL.tup {H : Hp} : ∀ {as : List (Addr × Addr)} {ts : List (Int × List Int)}, TokL H as ts → ∀ t ∈ as, ∃ xs, H t.1 = some (.tup xs)
  | [], [], _, _, ht => nomatch ht
  | a :: as, t :: ts, h, t', ht => by
    rcases List.mem_cons.mp ht with e | e
    · rw [e]; exact ⟨_, h.1.1⟩
    · exact TokL.tup h.2 t' e
  | [], _ :: _, h, _, _ => h.elim
  | _ :: _, [], h, _, _ => h.elim
theorem TokL.snd {H : Hp} : ∀ {as : List (Addr × Addr)} {ts : List (Int × List Int)}, TokL H as ts → ∀ t ∈ as, ∃ xs, H t.2 = some (.lst xs)
  | [], [], _, _, ht => nomatch ht
  | a :: as, t :: ts, h, t', ht => by
    rcases List.mem_cons.mp ht with e | e
    · rw [e]; exact ⟨_, h.1.2⟩
    · exact TokL.snd h.2 t' e
  | [], _ :: _, h, _, _ => h.elim
  | _ :: _, [], h, _, _ => h.elim
theorem TokL.len {H : Hp} : ∀ {as : List (Addr × Addr)} {ts : List (Int × List Int)}, TokL H as ts → as.length = ts.length
  | [], [], _ => rfl
  | _ :: _, _ :: _, h => by rw [List.length_cons, List.length_cons, TokL.len h.2]
  | [], _ :: _, h => h.elim
  | _ :: _, [], h => h.elim
theorem TokL.snoc {H : Hp} {a : Addr × Addr} {t : Int × List Int} (h : H a.1 = some (.tup [.int t.1, .ref a.2]) ∧ H a.2 = some (.lst (t.2.map V.int))) : ∀ {as : List (Addr × Addr)} {ts : List (Int × List Int)}, TokL H as ts → TokL H (as ++ [a]) (ts ++ [t])
  | [], [], _ => ⟨h, trivial⟩
  | _ :: _, _ :: _, q => ⟨q.1, TokL.snoc h q.2⟩
  | [], _ :: _, q => q.elim
  | _ :: _, [], q => q.elim
section
variable {C : Addr} {H H' : Hp} {p dx cur wt : Addr} {tk : List (Addr × Addr)} {m m' : Mir}
theorem RdrAt.npc (r : RdrAt C H p dx cur wt tk m) : p ≠ cur := ne_of r.obj r.hcur (by intro z; cases z)
theorem RdrAt.npw (r : RdrAt C H p dx cur wt tk m) : p ≠ wt := ne_of r.obj r.hwt (by intro z; cases z)
/-- the reader's own fields rewritten -/
theorem RdrAt.put {n : Mir} (r : RdrAt C H p dx cur wt tk m) (hc : n.cur = m.cur) (hw : n.wait = m.wait) : RdrAt C (upd H p (.ins C dx (rf n cur wt))) p dx cur wt tk n := by
  have q : ∀ b o, H b = some o → b ≠ p → upd H p (.ins C dx (rf n cur wt)) b = some o := fun b o e hb => by rw [upd_ne hb]; exact e
  refine ⟨upd_same, by rw [hc]; exact q _ _ r.hcur r.npc.symm, q _ _ r.hwt r.npw.symm, ?_, r.ncw, r.nct⟩
  rw [hw]
  refine r.toks.keep fun t ht => ⟨fun o e => q _ _ e ?_, fun o e => q _ _ e ?_⟩
  · obtain ⟨xs, e2⟩ := r.toks.tup t ht
    exact ne_of e2 r.obj (by intro z; cases z)
  · obtain ⟨xs, e2⟩ := r.toks.snd t ht
    exact ne_of e2 r.obj (by intro z; cases z)
theorem own_p : own p cur wt tk p := .inl rfl
theorem own_cur : own p cur wt tk cur := .inr (.inl rfl)
theorem own_wt : own p cur wt tk wt := .inr (.inr (.inl rfl))
theorem Keep.at_p {o : HO} : Keep (own p cur wt tk) H (own p cur wt tk) (upd H p o) := ⟨fun _ h => .inl h, fun b u e n => by rw [upd_ne fun z => n (.inl z)]; exact e⟩
theorem Keep.at_cur {o : HO} : Keep (own p cur wt tk) H (own p cur wt tk) (upd H cur o) := ⟨fun _ h => .inl h, fun b u e n => by rw [upd_ne fun z => n (.inr (.inl z))]; exact e⟩
theorem Keep.at_wt {o : HO} : Keep (own p cur wt tk) H (own p cur wt tk) (upd H wt o) := ⟨fun _ h => .inl h, fun b u e n => by rw [upd_ne fun z => n (.inr (.inr (.inl z)))]; exact e⟩
theorem Rdr.some_of (r : RdrAt C H p dx cur wt tk m) {b : Addr} (h : own p cur wt tk b) : ∃ o, H b = some o := by
  rcases h with h | h | h | ⟨t, ht, h | h⟩
  · rw [h]; exact ⟨_, r.obj⟩
  · rw [h]; exact ⟨_, r.hcur⟩
  · rw [h]; exact ⟨_, r.hwt⟩
  · obtain ⟨xs, e⟩ := r.toks.snd t ht
    rw [h]; exact ⟨_, e⟩
  · obtain ⟨xs, e⟩ := r.toks.tup t ht
    rw [h]; exact ⟨_, e⟩
/-- what keeps all that is the reader's keeps the reader -/
theorem RdrAt.keep (r : RdrAt C H p dx cur wt tk m) (k : ∀ b o, H b = some o → own p cur wt tk b → H' b = some o) : RdrAt C H' p dx cur wt tk m :=
  ⟨k _ _ r.obj own_p, k _ _ r.hcur own_cur, k _ _ r.hwt own_wt, r.toks.keep fun t ht => ⟨fun o e => k _ _ e (.inr (.inr (.inr ⟨t, ht, .inr rfl⟩))), fun o e => k _ _ e (.inr (.inr (.inr ⟨t, ht, .inl rfl⟩)))⟩, r.ncw, r.nct⟩
theorem Rdr.keep {S : Addr → Prop} (h : Rdr C H p S m) (k : ∀ b o, H b = some o → S b → H' b = some o) : Rdr C H' p S m := by
  obtain ⟨dx, cur, wt, tk, rfl, r⟩ := h
  exact ⟨dx, cur, wt, tk, rfl, r.keep k⟩
theorem Rdr.has {S : Addr → Prop} (h : Rdr C H p S m) {b : Addr} (hb : S b) : ∃ o, H b = some o := by
  obtain ⟨dx, cur, wt, tk, rfl, r⟩ := h
  exact Rdr.some_of r hb
/-- a step's object is none of the reader's -/
theorem RdrAt.step (r : RdrAt C H p dx cur wt tk m) {D a : Addr} {t : Stp} (h : StepAt D H a t) : ¬ own p cur wt tk a := by
  obtain ⟨dq, e⟩ := h
  intro z
  rcases z with z | z | z | ⟨t', ht, z | z⟩
  · rw [z, r.obj] at e
    injection e with e
    injection e with e1 e2 e3
    injection e3 with e4 e5
    injection e4 with e6 e7
    exact absurd e6 (by decide +kernel)
  · rw [z, r.hcur] at e
    cases e
  · rw [z, r.hwt] at e
    cases e
  · obtain ⟨xs, e2⟩ := r.toks.snd t' ht
    rw [z, e2] at e
    cases e
  · obtain ⟨xs, e2⟩ := r.toks.tup t' ht
    rw [z, e2] at e
    cases e
end
/-! ### what the class's text must have -/
structure TxR (K : PySem.W.Frag) (mg : Str → Option Value) (C : Addr) : Prop where
  cl : Cls K C
  nState : NoAttr K C "state"
  nHanded : NoAttr K C "handed"
  nCurrent : NoAttr K C "current"
  nHigh : NoAttr K C "high"
  nWaiting : NoAttr K C "waiting"
  nFault : NoAttr K C "fault_place"
  len : mg "len" = none
  gRefused : GI mg "REFUSED" (-1)
  gNoPlace : GI mg "NO_PLACE" (-1)
  gHighest : GI mg "HIGHEST_BYTE" 255
  gMost : GI mg "MOST_BYTES" 255
  gMostW : GI mg "MOST_WAITING" 64
structure MthD (P : Program) (w : World) (K : PySem.W.Frag) (mg : Str → Option Value) (base : Heap) (k : Nat) (C : Addr) (x : Str) (ps : List Str) (sp : Sp) : Prop where
  ex : ∃ f fd, Meth K C x f ∧ FnOk P w K mg base CX0 k f fd ps sp ∧ Binds K fd ps []
theorem rf_no (m : Mir) (cur wt : Addr) {x : Str} (h : ¬ x = "state" ∧ ¬ x = "handed" ∧ ¬ x = "current" ∧ ¬ x = "high" ∧ ¬ x = "waiting" ∧ ¬ x = "fault_place") : (rf m cur wt).lookup x = Option.none := by
  obtain ⟨h1, h2, h3, h4, h5, h6⟩ := h
  unfold rf
  rw [look_miss h1, look_miss h2, look_miss h3, look_miss h4, look_miss h5, look_miss h6]
  rfl
section
variable (m : Mir) (cur wt : Addr)
theorem rf_state : (rf m cur wt).lookup ("state" : Str) = some (.int m.st) := look_hit
theorem rf_handed : (rf m cur wt).lookup ("handed" : Str) = some (.int m.n) := by unfold rf; rw [look_miss (by decide +kernel)]; exact look_hit
theorem rf_current : (rf m cur wt).lookup ("current" : Str) = some (.ref cur) := by unfold rf; rw [look_miss (by decide +kernel), look_miss (by decide +kernel)]; exact look_hit
theorem rf_high : (rf m cur wt).lookup ("high" : Str) = some (.int m.hi) := by unfold rf; rw [look_miss (by decide +kernel), look_miss (by decide +kernel), look_miss (by decide +kernel)]; exact look_hit
theorem rf_waiting : (rf m cur wt).lookup ("waiting" : Str) = some (.ref wt) := by unfold rf; rw [look_miss (by decide +kernel), look_miss (by decide +kernel), look_miss (by decide +kernel), look_miss (by decide +kernel)]; exact look_hit
theorem rf_fault : (rf m cur wt).lookup ("fault_place" : Str) = some (.int m.flt) := by unfold rf; rw [look_miss (by decide +kernel), look_miss (by decide +kernel), look_miss (by decide +kernel), look_miss (by decide +kernel), look_miss (by decide +kernel)]; exact look_hit
theorem put_state (z : Int) : putF "state" (.int z) (rf m cur wt) = rf { m with st := z } cur wt := putF_hit
theorem put_handed (z : Int) : putF "handed" (.int z) (rf m cur wt) = rf { m with n := z } cur wt := by unfold rf; rw [putF_miss (by decide +kernel), putF_hit]
theorem put_current (z : Addr) : putF "current" (.ref z) (rf m cur wt) = rf m z wt := by unfold rf; rw [putF_miss (by decide +kernel), putF_miss (by decide +kernel), putF_hit]
theorem put_high (z : Int) : putF "high" (.int z) (rf m cur wt) = rf { m with hi := z } cur wt := by unfold rf; rw [putF_miss (by decide +kernel), putF_miss (by decide +kernel), putF_miss (by decide +kernel), putF_hit]
theorem put_waiting (z : Addr) : putF "waiting" (.ref z) (rf m cur wt) = rf m cur z := by unfold rf; rw [putF_miss (by decide +kernel), putF_miss (by decide +kernel), putF_miss (by decide +kernel), putF_miss (by decide +kernel), putF_hit]
theorem put_fault (z : Int) : putF "fault_place" (.int z) (rf m cur wt) = rf { m with flt := z } cur wt := by unfold rf; rw [putF_miss (by decide +kernel), putF_miss (by decide +kernel), putF_miss (by decide +kernel), putF_miss (by decide +kernel), putF_miss (by decide +kernel), putF_hit]
end
theorem six {n : Nat} (h : n = 6) : n < 1000 := by omega
/-! ### promises -/
def m0 : Mir := ⟨0, 0, [], 0, [], -1⟩
def spRInit (C : Addr) : Sp := fun vs H Q _ => ∃ (p dx : Addr), vs = [.ref p] ∧ H p = some (.ins C dx []) ∧ ∀ (H' : Hp) (S : Addr → Prop), Rdr C H' p S m0 → (∀ b o, H b = some o → b ≠ p → H' b = some o) → (∀ b, S b → b = p ∨ H b = Option.none) → Q .non H'
def spGoWrong (C : Addr) : Sp := fun vs H Q _ => ∃ (p dx cur wt : Addr) (tk : List (Addr × Addr)) (m : Mir), vs = [.ref p] ∧ RdrAt C H p dx cur wt tk m ∧ ∀ H' : Hp, RdrAt C H' p dx cur wt tk (goWrong m) → Keep (own p cur wt tk) H (own p cur wt tk) H' → Q .non H'
def spAddByte (C : Addr) : Sp := fun vs H Q _ => ∃ (p dx cur wt : Addr) (tk : List (Addr × Addr)) (m : Mir) (b : Int), vs = [.ref p, .int b] ∧ RdrAt C H p dx cur wt tk m ∧ m.cur.length ≤ 255 ∧ ∀ H' : Hp, RdrAt C H' p dx cur wt tk (addByte m b) → Keep (own p cur wt tk) H (own p cur wt tk) H' → Q .non H'
def spDoStep (C D : Addr) : Sp := fun vs H Q _ => ∃ (p q dx cur wt : Addr) (tk : List (Addr × Addr)) (m : Mir) (t : Stp), vs = [.ref p, .ref q] ∧ RdrAt C H p dx cur wt tk m ∧ StepAt D H q t ∧ m.cur.length ≤ 255 ∧ m.wait.length ≤ 1000 ∧
  ∀ (H' : Hp) (S' : Addr → Prop), Rdr C H' p S' (doStep m t) → Keep (own p cur wt tk) H S' H' → Q .non H'
def spCount (D : Addr) : Sp := fun vs H Q _ => ∃ (l : Addr) (L : List Stp), vs = [.ref l] ∧ StepsAt D H l L ∧ L.length ≤ 10 ∧ ∀ H', Same H H' → Q (.int (countFin L)) H'
structure OkM (m : Mir) : Prop where
  cur : m.st = 15 ∨ m.cur.length ≤ 255
  wait : m.wait.length ≤ 64
  lo : 0 ≤ m.st
  hi : m.st ≤ 15
def spHand (C : Addr) : Sp := fun vs H Q _ => ∃ (p : Addr) (S : Addr → Prop) (m : Mir) (k c : Int), vs = [.ref p, .int k, .int c] ∧ Rdr C H p S m ∧ OkM m ∧
  ∀ (H' : Hp) (S' : Addr → Prop), Rdr C H' p S' (handM m k c).1 → Keep S H S' H' → Q (.int (handM m k c).2) H'
def spRun (K : PySem.W.Frag) (C : Addr) : Sp := fun vs H Q _ => ∃ (p a : Addr) (S : Addr → Prop) (m : Mir) (s : Sg04.St) (cs : List Int), vs = [.ref p, .ref a] ∧ Rdr C H p S m ∧ R m s ∧ Good s ∧ s.waiting.length ≤ 64 ∧ SqL K H a (cs.map V.int) ∧ ¬ S a ∧
  ∀ (H' : Hp) (S' : Addr → Prop), Rdr C H' p S' (runM m cs).1 → Keep S H S' H' → Q (.int (runM m cs).2) H'
def spWhere (C : Addr) : Sp := fun vs H Q _ => ∃ (p : Addr) (S : Addr → Prop) (m : Mir), vs = [.ref p] ∧ Rdr C H p S m ∧ Q (.int m.st) H
section
variable {X : Cx} {C : Addr} {x : Str} {p pos : Pos} {o e : Expr} {es : List Expr} {t : TA} {ta : TE} {k : Nat} {ps : List Str} {sp : Sp} {apos : Pos}
end
theorem R.okM {m : Mir} {s : Sg04.St} (r : R m s) (g : Good s) (hw : s.waiting.length ≤ 64) : OkM m := by
  refine ⟨?_, by rw [r.wait, List.length_map]; exact hw, by rw [r.st]; exact num_nonneg _, by rw [r.st]; cases s.state <;> decide⟩
  by_cases h : s.state = .over_
  · left
    rw [r.st, h]
    rfl
  · right
    rw [r.cur h, bys_length]
    exact g.bytes
theorem addByte_cur {m : Mir} {b : Int} (h : m.cur.length ≤ 255) : (addByte m b).cur.length ≤ 255 := by
  unfold addByte goWrong
  by_cases q : m.cur.length = 255
  · rw [if_pos q]; exact h
  · rw [if_neg q]
    show (m.cur ++ [b]).length ≤ 255
    rw [List.length_append, List.length_singleton]; omega
theorem doStep_cur {m : Mir} {t : Stp} (h : m.cur.length ≤ 255) : (doStep m t).cur.length ≤ 255 := by
  unfold doStep
  cases t.deed with
  | go => exact h
  | add => exact addByte_cur (m := { m with st := t.st }) h
  | high => exact h
  | low => exact addByte_cur (m := { m with st := t.st }) h
  | fin => exact Nat.zero_le _
  | wrong => exact h
theorem addByte_wait {m : Mir} {b : Int} : (addByte m b).wait = m.wait := by
  unfold addByte goWrong
  split <;> rfl
theorem doStep_wait {m : Mir} {t : Stp} : (doStep m t).wait.length ≤ m.wait.length + 1 := by
  unfold doStep
  cases t.deed with
  | go => exact Nat.le_succ _
  | add => exact Nat.le_trans (Nat.le_of_eq (congrArg List.length (addByte_wait (m := { m with st := t.st })))) (Nat.le_succ _)
  | high => exact Nat.le_succ _
  | low => exact Nat.le_trans (Nat.le_of_eq (congrArg List.length (addByte_wait (m := { m with st := t.st })))) (Nat.le_succ _)
  | fin =>
    show (m.wait ++ [(t.n, m.cur)]).length ≤ _
    rw [List.length_append, List.length_singleton]
    exact Nat.le_refl _
  | wrong => exact Nat.le_succ _
theorem deed_eq (d e : Dd) : decide (V.str (dS d) = V.str (dS e)) = decide (d = e) := by cases d <;> cases e <;> decide +kernel
end Sr
end
section
set_option Elab.async false
set_option linter.all false
set_option maxRecDepth 100000
set_option maxHeartbeats 2000000
namespace Sr
open PySem PySem.Spec PyProof.Rows L2
section
variable {C D : Addr} {H H' : Hp} {p dx cur wt : Addr} {tk : List (Addr × Addr)} {m m' : Mir}
theorem RdrAt.putCur (r : RdrAt C H p dx cur wt tk m) (ys : List Int) : RdrAt C (upd H cur (.lst (ys.map V.int))) p dx cur wt tk { m with cur := ys } := by
  have q : ∀ b o, H b = some o → b ≠ cur → upd H cur (.lst (ys.map V.int)) b = some o := fun b o e hb => by rw [upd_ne hb]; exact e
  refine ⟨q _ _ r.obj r.npc, upd_same, q _ _ r.hwt r.ncw.symm, ?_, r.ncw, r.nct⟩
  refine r.toks.keep fun t ht => ⟨fun o e => q _ _ e ?_, fun o e => q _ _ e (r.nct t ht).1⟩
  obtain ⟨xs, e2⟩ := r.toks.tup t ht
  exact ne_of e2 r.hcur (by intro z; cases z)
theorem sf_state (d : Str) (s n : Int) : (sf d s n).lookup ("state" : Str) = some (.int s) := by unfold sf; rw [look_miss (by decide +kernel)]; exact look_hit
theorem sf_number (d : Str) (s n : Int) : (sf d s n).lookup ("number" : Str) = some (.int n) := by unfold sf; rw [look_miss (by decide +kernel), look_miss (by decide +kernel)]; exact look_hit
theorem sf_deed (d : Str) (s n : Int) : (sf d s n).lookup ("deed" : Str) = some (.str d) := look_hit
theorem line_of' {n : Nat} (h : n ≤ 2000) : n < sizeLine := Nat.lt_of_le_of_lt h (by decide)
/-- a token is finished: its tuple at ta, the list of those that wait grown, a new list for the next one -/
theorem RdrAt.fin {ta nc : Addr} {z : Int} {H1 H2 H3 : Hp} (r : RdrAt C H p dx cur wt tk m) (h1 : H ta = Option.none) (e1 : H1 = upd H ta (.tup [.int z, .ref cur])) (e2 : H2 = upd H1 wt (.lst ((tk.map fun t => V.ref t.1) ++ [.ref ta]))) (h3 : H2 nc = Option.none) (e3 : H3 = upd (upd H2 nc (.lst [])) p (.ins C dx (rf m nc wt))) :
    RdrAt C H3 p dx nc wt (tk ++ [(ta, cur)]) { m with wait := m.wait ++ [(z, m.cur)], cur := [] } ∧ Keep (own p cur wt tk) H (own p nc wt (tk ++ [(ta, cur)])) H3 := by
  have s1 : Same H H1 := by rw [e1]; exact Same_lay h1
  have s2 : ∀ b o, H1 b = some o → b ≠ wt → H2 b = some o := fun b o e hb => by rw [e2, upd_ne hb]; exact e
  have s3 : ∀ b o, H2 b = some o → b ≠ p → H3 b = some o := fun b o e hb => by rw [e3, upd_ne hb, upd_ne (ne_of_none e h3)]; exact e
  have kp : ∀ b o, H b = some o → b ≠ p → b ≠ wt → H3 b = some o := fun b o e n1 n2 => s3 _ _ (s2 _ _ (s1 _ _ e) n2) n1
  have w2 : H2 wt = some (.lst ((tk ++ [(ta, cur)]).map fun t => V.ref t.1)) := by rw [e2, upd_same, List.map_append]; rfl
  have t1 : H1 ta = some (.tup [.int z, .ref cur]) := by rw [e1]; exact upd_same
  have n1 : ta ≠ wt := fun q => by rw [q, r.hwt] at h1; cases h1
  have n2 : ta ≠ p := fun q => by rw [q, r.obj] at h1; cases h1
  have c2 : H2 cur = some (.lst (m.cur.map V.int)) := s2 _ _ (s1 _ _ r.hcur) r.ncw
  have p2 : H2 p = some (.ins C dx (rf m cur wt)) := s2 _ _ (s1 _ _ r.obj) r.npw
  have nnp : nc ≠ p := fun q => by rw [q, p2] at h3; cases h3
  have nnw : nc ≠ wt := fun q => by rw [q, w2] at h3; cases h3
  have nnc : cur ≠ nc := ne_of_none c2 h3
  have up : ∀ b o, H2 b = some o → b ≠ p → H3 b = some o := s3
  refine ⟨⟨by rw [e3]; exact upd_same, by rw [e3, upd_ne nnp]; exact upd_same, up _ _ w2 r.npw.symm, ?_, nnw, fun t ht => ?_⟩, ⟨fun b h => ?_, fun b o e n => kp b o e (fun q => n (.inl q)) fun q => n (.inr (.inr (.inl q)))⟩⟩
  · refine TokL.snoc ⟨up _ _ (s2 _ _ t1 n1) n2, up _ _ c2 r.npc.symm⟩ (r.toks.keep fun t ht => ?_)
    obtain ⟨xs, q1⟩ := r.toks.tup t ht
    obtain ⟨ys, q2⟩ := r.toks.snd t ht
    exact ⟨fun o e => kp _ _ e (ne_of q1 r.obj (by intro z; cases z)) (ne_of q1 r.hwt (by intro z; cases z)), fun o e => kp _ _ e (ne_of q2 r.obj (by intro z; cases z)) (r.nct t ht).2⟩
  · rcases List.mem_append.mp ht with q | q
    · obtain ⟨ys, q2⟩ := r.toks.snd t q
      exact ⟨ne_of_none (s2 _ _ (s1 _ _ q2) (r.nct t q).2) h3, (r.nct t q).2⟩
    · have e : t = (ta, cur) := List.mem_singleton.mp q
      rw [e]
      exact ⟨nnc, r.ncw⟩
  · rcases h with h | h | h | ⟨t, ht, h⟩
    · exact .inl (.inl h)
    · refine .inr ?_
      rw [h]
      cases q : H nc with
      | none => rfl
      | some o =>
        by_cases z : nc = wt
        · exact absurd z nnw
        · rw [s2 _ _ (s1 _ _ q) z] at h3
          cases h3
    · exact .inl (.inr (.inr (.inl h)))
    · rcases List.mem_append.mp ht with q | q
      · exact .inl (.inr (.inr (.inr ⟨t, q, h⟩)))
      · have e : t = (ta, cur) := List.mem_singleton.mp q
        rw [e] at h
        rcases h with h | h
        · exact .inl (.inr (.inl h))
        · exact .inr (by rw [h]; exact h1)
end
section
variable {P : Program} {w : World} {K : PySem.W.Frag} {mg : Str → Option Value} {base : Heap} {C D aB aM : Addr} {f : Addr} {fd : FuncData}
theorem scGoWrong : FnScope ["self"] ["self"] (defScope sGoWrong) := ⟨rfl, rfl, rfl, by decide +kernel, rfl, by decide +kernel, by decide +kernel⟩
theorem ok_goWrong (F : Fun K "go_wrong" "Reader.go_wrong" sGoWrong f fd) (T : TxS K mg D aB aM) (Tr : TxR K mg C) : FnOk P w K mg base CX0 1 f fd ["self"] (spGoWrong C) := by
  refine F.ok scGoWrong (fun vs H Q E h => ?_) (fun cdv A outer s H vs Q E hr h => ?_)
  · obtain ⟨p, dx, cur, wt, tk, m, rfl, _⟩ := h
    rfl
  · obtain ⟨p, dx, cur, wt, tk, m, rfl, r, k⟩ := h
    refine ⟨_, pss_cons (ps_fld (pv 0) (pe_gi T.gOver) rfl) (pss_one (ps_fld (pv 0) (pe_fld (pv 0) rfl) rfl)), ?_⟩
    refine ⟨_, rfl, p, C, dx, _, rfl, r.obj, Tr.cl, Tr.nState, (by show 6 < 1000; decide), ?_⟩
    rw [put_state]
    have r1 := r.put (n := { m with st := 15 }) rfl rfl
    refine ⟨_, rfl, p, C, dx, _, _, rfl, r1.obj, Tr.cl, Tr.nHanded, rf_handed .., _, rfl, p, C, dx, _, rfl, r1.obj, Tr.cl, Tr.nFault, (by show 6 < 1000; decide), ?_⟩
    rw [put_fault]
    have r2 := r1.put (n := goWrong m) rfl rfl
    exact k _ r2 (Keep.at_p.trans Keep.at_p)
theorem scAddByte : FnScope ["self", "byte"] ["self", "byte"] (defScope sAddByte) := ⟨rfl, rfl, rfl, by decide +kernel, rfl, by decide +kernel, by decide +kernel⟩
theorem ok_addByte (F : Fun K "add_byte" "Reader.add_byte" sAddByte f fd) (Tr : TxR K mg C) (G : MthD P w K mg base 1 C "go_wrong" ["self"] (spGoWrong C)) : FnOk P w K mg base CX0 2 f fd ["self", "byte"] (spAddByte C) := by
  obtain ⟨fw, fdw, mW, GW, bW⟩ := G.ex
  refine F.ok scAddByte (fun vs H Q E h => ?_) (fun cdv A outer s H vs Q E hr h => ?_)
  · obtain ⟨p, dx, cur, wt, tk, m, b, rfl, _⟩ := h
    rfl
  · obtain ⟨p, dx, cur, wt, tk, m, b, rfl, r, hc, k⟩ := h
    refine ⟨_, pss_one (ps_if (pt_cmp (pc_eqI (pe_callB call_len_seq (by rfl) Tr.len PySem.boot_len (pa_cons (pe_fld (pv 0) rfl) pa_nil)) (pe_gi Tr.gMost)))
      (pss_one (ps_expr (pe_meth0 (pv 0) Tr.cl mW GW hr bW .nil pass0)))
      (pss_one (ps_expr (pe_bm PySem.F.plainAttrs_list PySem.F.slot_list_append PySem.F.type_list_append mt_append (pe_fld (pv 0) rfl) (pa_cons (pv 1) pa_nil))))), ?_⟩
    refine ⟨_, rfl, p, C, dx, _, _, rfl, r.obj, Tr.cl, Tr.nCurrent, rf_current .., cur, _, rfl, .inl (SqL.of r.hcur), _, _, rfl, rfl, _, rfl, ite2 (fun hf => ?_) fun hf => ?_⟩
    · have hf : m.cur.length = 255 := by
        have z := of_decide_eq_true hf
        rw [List.length_map] at z
        omega
      refine ⟨_, rfl, p, dx, _, rfl, r.obj, rf_no _ _ _ (by decide +kernel), p, dx, cur, wt, tk, m, rfl, r, fun H' r' kp => k H' ?_ kp⟩
      unfold addByte
      rw [if_pos hf]
      exact r'
    · have hf : ¬ m.cur.length = 255 := fun z => hf (decide_eq_true (by rw [List.length_map]; omega))
      refine ⟨_, rfl, p, C, dx, _, _, rfl, r.obj, Tr.cl, Tr.nCurrent, rf_current .., .inl ⟨rfl, _, SqL.of r.hcur⟩, _, rfl, cur, _, _, rfl, rfl, r.hcur, (by rw [List.length_map]; exact line_of' (by omega)), ?_⟩
      have r1 := r.putCur (m.cur ++ [b])
      rw [List.map_append] at r1
      refine k _ ?_ Keep.at_cur
      unfold addByte
      rw [if_neg hf]
      exact r1
theorem scDoStep : FnScope ["self", "step"] ["self", "step"] (defScope sDoStep) := ⟨rfl, rfl, rfl, by decide +kernel, rfl, by decide +kernel, by decide +kernel⟩
theorem deed_of {d e : Dd} (h : decide (V.str (dS d) = V.str (dS e)) = true) : d = e := by rw [deed_eq] at h; exact of_decide_eq_true h
theorem deed_no {d e : Dd} (h : ¬ decide (V.str (dS d) = V.str (dS e)) = true) : d ≠ e := fun z => h (by rw [deed_eq]; exact decide_eq_true z)
theorem ok_doStep (F : Fun K "do_step" "Reader.do_step" sDoStep f fd) (T : TxS K mg D aB aM) (Tr : TxR K mg C) (GA : MthD P w K mg base 2 C "add_byte" ["self", "byte"] (spAddByte C)) (GW : MthD P w K mg base 1 C "go_wrong" ["self"] (spGoWrong C)) :
    FnOk P w K mg base CX0 3 f fd ["self", "step"] (spDoStep C D) := by
  obtain ⟨fw, fdw, mW, GW, bW⟩ := GW.ex
  obtain ⟨fa, fda, mA, GA, bA⟩ := GA.ex
  refine F.ok scDoStep (fun vs H Q E h => ?_) (fun cdv A outer s H vs Q E hr h => ?_)
  · obtain ⟨p, q, dx, cur, wt, tk, m, t, rfl, _⟩ := h
    rfl
  · obtain ⟨p, q, dx, cur, wt, tk, m, t, rfl, r, hst, hc, hw, k⟩ := h
    have hr1 := hr.mono (show 1 ≤ 2 by decide)
    refine ⟨_, pss_cons (ps_fld (pv 0) (pe_fld (pv 1) rfl) rfl)
      (pss_one (ps_if (pt_cmpR op_eq (pe_fld (pv 1) rfl) (pe_gs T.gAdd) (nomark _)) (pss_one (ps_expr (pe_meth (pv 0) Tr.cl mA GA hr bA .nil pass0 (pa_cons (pe_fld (pv 1) rfl) pa_nil))))
      (pss_one (ps_if (pt_cmpR op_eq (pe_fld (pv 1) rfl) (pe_gs T.gHigh) (nomark _)) (pss_one (ps_fld (pv 0) (pe_fld (pv 1) rfl) rfl))
      (pss_one (ps_if (pt_cmpR op_eq (pe_fld (pv 1) rfl) (pe_gs T.gLowD) (nomark _)) (pss_one (ps_expr (pe_meth (pv 0) Tr.cl mA GA hr bA .nil pass0 (pa_cons (pe_op op_add (pe_op op_mul (pe_fld (pv 0) rfl) pe_int) (pe_fld (pv 1) rfl)) pa_nil))))
      (pss_one (ps_if (pt_cmpR op_eq (pe_fld (pv 1) rfl) (pe_gs T.gFinish) (nomark _))
        (pss_cons (ps_expr (pe_bm PySem.F.plainAttrs_list PySem.F.slot_list_append PySem.F.type_list_append mt_append (pe_fld (pv 0) rfl) (pa_cons (pe_tup (pa_cons (pe_fld (pv 1) rfl) (pa_cons (pe_fld (pv 0) rfl) pa_nil))) pa_nil))) (pss_one (ps_fld (pv 0) (pe_lst pa_nil) rfl)))
      (pss_one (ps_if (pt_cmpR op_eq (pe_fld (pv 1) rfl) (pe_gs T.gWrongD) (nomark _)) (pss_one (ps_expr (pe_meth0 (pv 0) Tr.cl mW GW hr1 bW .nil pass0))) pss_nil)))))))))), ?_⟩
    have nq : ¬ own p cur wt tk q := r.step hst
    have hst0 := hst
    obtain ⟨dq, hq⟩ := hst
    refine ⟨_, rfl, q, D, dq, _, _, rfl, hq, T.cl, T.nState, sf_state .., _, rfl, p, C, dx, _, rfl, r.obj, Tr.cl, Tr.nState, (by show 6 < 1000; decide), ?_⟩
    rw [put_state]
    have r1 := r.put (n := { m with st := t.st }) rfl rfl
    have k1 : Keep (own p cur wt tk) H (own p cur wt tk) (upd H p (.ins C dx (rf { m with st := t.st } cur wt))) := Keep.at_p
    have hq1 := k1.kept _ _ hq nq
    revert k1 hq1 r1
    generalize upd H p (.ins C dx (rf { m with st := t.st } cur wt)) = H1
    intro r1 k1 hq1
    refine ⟨_, rfl, q, D, dq, _, _, rfl, hq1, T.cl, T.nDeed, sf_deed .., rfl, _, rfl, ite2 (fun hd => ?_) fun nA => ?_⟩
    · have hd := deed_of (e := .add) hd
      have e : doStep m t = addByte { m with st := t.st } t.n := by unfold doStep; rw [hd]
      rw [e] at k
      exact ⟨_, rfl, p, dx, _, rfl, r1.obj, rf_no _ _ _ (by decide +kernel), _, rfl, q, D, dq, _, _, rfl, hq1, T.cl, T.nNumber, sf_number .., p, dx, cur, wt, tk, _, t.n, rfl, r1, hc, fun H' r' kp => k H' _ ⟨dx, cur, wt, tk, rfl, r'⟩ (k1.trans kp)⟩
    have nA := deed_no (e := .add) nA
    refine ⟨_, rfl, q, D, dq, _, _, rfl, hq1, T.cl, T.nDeed, sf_deed .., rfl, _, rfl, ite2 (fun hd => ?_) fun nH => ?_⟩
    · have hd := deed_of (e := .high) hd
      have e : doStep m t = { m with st := t.st, hi := t.n } := by unfold doStep; rw [hd]
      rw [e] at k
      refine ⟨_, rfl, q, D, dq, _, _, rfl, hq1, T.cl, T.nNumber, sf_number .., _, rfl, p, C, dx, _, rfl, r1.obj, Tr.cl, Tr.nHigh, (by show 6 < 1000; decide), ?_⟩
      rw [put_high]
      exact k _ _ ⟨dx, cur, wt, tk, rfl, r1.put (n := { m with st := t.st, hi := t.n }) rfl rfl⟩ (k1.trans Keep.at_p)
    have nH := deed_no (e := .high) nH
    refine ⟨_, rfl, q, D, dq, _, _, rfl, hq1, T.cl, T.nDeed, sf_deed .., rfl, _, rfl, ite2 (fun hd => ?_) fun nL => ?_⟩
    · have hd := deed_of (e := .low) hd
      have e : doStep m t = addByte { m with st := t.st } (m.hi * 16 + t.n) := by unfold doStep; rw [hd]
      rw [e] at k
      exact ⟨_, rfl, p, dx, _, rfl, r1.obj, rf_no _ _ _ (by decide +kernel), _, rfl, p, C, dx, _, _, rfl, r1.obj, Tr.cl, Tr.nHigh, rf_high .., m.hi, 16, rfl, rfl, .inr ⟨by decide, by decide⟩, _, rfl, q, D, dq, _, _, rfl, hq1, T.cl, T.nNumber, sf_number .., _, _, rfl, rfl, p, dx, cur, wt, tk, _, m.hi * 16 + t.n, rfl, r1, hc, fun H' r' kp => k H' _ ⟨dx, cur, wt, tk, rfl, r'⟩ (k1.trans kp)⟩
    have nL := deed_no (e := .low) nL
    refine ⟨_, rfl, q, D, dq, _, _, rfl, hq1, T.cl, T.nDeed, sf_deed .., rfl, _, rfl, ite2 (fun hd => ?_) fun nF => ?_⟩
    · have hd := deed_of (e := .fin) hd
      have e : doStep m t = { m with st := t.st, wait := m.wait ++ [(t.n, m.cur)], cur := [] } := by unfold doStep; rw [hd]
      rw [e] at k
      have hlen : tk.length = m.wait.length := r1.toks.len
      refine ⟨_, rfl, p, C, dx, _, _, rfl, r1.obj, Tr.cl, Tr.nWaiting, rf_waiting .., .inl ⟨rfl, _, SqL.of r1.hwt⟩, _, rfl, q, D, dq, _, _, rfl, hq1, T.cl, T.nNumber, sf_number .., _, rfl, p, C, dx, _, _, rfl, r1.obj, Tr.cl, Tr.nCurrent, rf_current .., (by show 2 ≤ sizeLine; decide), fun ta hta => ?_⟩
      have w1 : upd H1 ta (.tup [.int t.n, .ref cur]) wt = some (.lst (tk.map fun t => V.ref t.1)) := Same_lay hta _ _ r1.hwt
      refine ⟨wt, _, _, rfl, rfl, w1, (by rw [List.length_map]; exact line_of' (by omega)), ?_⟩
      refine ⟨Nat.zero_le _, fun nc hnc => ?_⟩
      have n1 : ta ≠ p := fun z => by rw [z, r1.obj] at hta; cases hta
      have n2 : p ≠ wt := r1.npw
      have o2 : upd (upd H1 ta (.tup [.int t.n, .ref cur])) wt (.lst ((tk.map fun t => V.ref t.1) ++ [.ref ta])) p = some (.ins C dx (rf { m with st := t.st } cur wt)) := by rw [upd_ne n2, upd_ne (Ne.symm n1)]; exact r1.obj
      have o3 := Same_lay (o := .lst []) hnc _ _ o2
      refine ⟨_, rfl, p, C, dx, _, rfl, o3, Tr.cl, Tr.nCurrent, (by show 6 < 1000; decide), ?_⟩
      rw [put_current]
      obtain ⟨r3, k3⟩ := r1.fin (z := t.n) hta rfl rfl hnc rfl
      exact k _ _ ⟨dx, nc, wt, _, rfl, r3⟩ (k1.trans k3)
    have nF := deed_no (e := .fin) nF
    refine ⟨_, rfl, q, D, dq, _, _, rfl, hq1, T.cl, T.nDeed, sf_deed .., rfl, _, rfl, ite2 (fun hd => ?_) fun nW => ?_⟩
    · have hd := deed_of (e := .wrong) hd
      have e : doStep m t = goWrong { m with st := t.st } := by unfold doStep; rw [hd]
      rw [e] at k
      exact ⟨_, rfl, p, dx, _, rfl, r1.obj, rf_no _ _ _ (by decide +kernel), p, dx, cur, wt, tk, _, rfl, r1, fun H' r' kp => k H' _ ⟨dx, cur, wt, tk, rfl, r'⟩ (k1.trans kp)⟩
    have nW := deed_no (e := .wrong) nW
    have e : doStep m t = { m with st := t.st } := by
      unfold doStep
      cases hd : t.deed with
      | go => rfl
      | add => exact absurd hd nA
      | high => exact absurd hd nH
      | low => exact absurd hd nL
      | fin => exact absurd hd nF
      | wrong => exact absurd hd nW
    rw [e] at k
    exact k _ _ ⟨dx, cur, wt, tk, rfl, r1⟩ k1
end
end Sr
end
section
set_option Elab.async false
set_option linter.all false
set_option maxRecDepth 100000
set_option maxHeartbeats 2000000
namespace Sr
open PySem PySem.Spec PyProof.Rows L2
theorem StepsL.at_ {C : Addr} {H : Hp} : ∀ {as : List Addr} {L : List Stp} {i : Nat} {a : Addr}, StepsL C H as L → as[i]? = some a → ∃ t, L[i]? = some t ∧ StepAt C H a t
  | [], [], _, _, _, h => by simp at h
  | a :: as, t :: ts, 0, b, q, h => by
    have e : a = b := Option.some.inj h
    subst e
    exact ⟨t, rfl, q.1⟩
  | a :: as, t :: ts, i + 1, b, q, h => StepsL.at_ (i := i) q.2 h
  | [], _ :: _, _, _, q, _ => q.elim
  | _ :: _, [], _, _, q, _ => q.elim
theorem take_snoc {α : Type} : ∀ {l : List α} {i : Nat} {x : α}, l[i]? = some x → l.take (i + 1) = l.take i ++ [x]
  | [], i, x, h => by simp at h
  | a :: l, 0, x, h => by
    have e : a = x := Option.some.inj h
    subst e
    rfl
  | a :: l, i + 1, x, h => by
    have ih := take_snoc (l := l) (i := i) (x := x) h
    show a :: l.take (i + 1) = a :: l.take i ++ [x]
    rw [ih]
    rfl
theorem drop_cons {α : Type} : ∀ {l : List α} {i : Nat} {x : α}, l[i]? = some x → l.drop i = x :: l.drop (i + 1)
  | [], i, x, h => by simp at h
  | a :: l, 0, x, h => by
    have e : a = x := Option.some.inj h
    subst e
    rfl
  | a :: l, i + 1, x, h => drop_cons (l := l) (i := i) (x := x) h
theorem map_at {α β : Type} {g : α → β} {l : List α} {i : Nat} {y : β} (h : (l.map g)[i]? = some y) : ∃ a, l[i]? = some a ∧ y = g a := by
  rw [List.getElem?_map] at h
  cases e : l[i]? with
  | none =>
    rw [e] at h
    cases h
  | some a =>
    rw [e] at h
    exact ⟨a, rfl, (Option.some.inj h).symm⟩
theorem count_snoc (l : List Stp) (t : Stp) : countFin (l ++ [t]) = countFin l + (if t.deed = .fin then 1 else 0) := by
  unfold countFin
  rw [List.filter_append, List.length_append]
  by_cases h : t.deed = .fin
  · rw [if_pos h, List.filter_cons, if_pos (show isFin t = true from decide_eq_true h)]
    rfl
  · rw [if_neg h, List.filter_cons, if_neg (show ¬ isFin t = true from fun z => h (of_decide_eq_true z))]
    rfl
theorem count_le (l : List Stp) : countFin l ≤ l.length := List.length_filter_le _ _
theorem or_len (c : Int) (k : Int) : (stepsOf k c).length ≤ 3 := by
  unfold stepsOf
  have h2 := startL_len c
  have base : ∀ L ∈ table, (L c).length ≤ 3 := by
    intro L hL
    simp only [table, List.mem_cons, List.not_mem_nil, or_false] at hL
    rcases hL with h | h | h | h | h | h | h | h | h | h | h | h | h | h | h <;> subst h
    · omega
    · unfold wordL; split
      · exact Nat.le_add_left 1 2
      · show (startL c).length + 1 ≤ 3; omega
    · unfold minusL; repeat' split
      all_goals exact Nat.le_add_left 1 2
    · unfold zeroL; repeat' split
      all_goals first | exact Nat.le_add_left 1 2 | (show (startL c).length + 1 ≤ 3; omega)
    · unfold wholeL; repeat' split
      all_goals first | exact Nat.le_add_left 1 2 | (show (startL c).length + 1 ≤ 3; omega)
    · unfold pointL; repeat' split
      all_goals exact Nat.le_add_left 1 2
    · unfold fractionL; repeat' split
      all_goals first | exact Nat.le_add_left 1 2 | (show (startL c).length + 1 ≤ 3; omega)
    · unfold eL; repeat' split
      all_goals exact Nat.le_add_left 1 2
    · unfold signL; repeat' split
      all_goals exact Nat.le_add_left 1 2
    · unfold exponentL; repeat' split
      all_goals first | exact Nat.le_add_left 1 2 | (show (startL c).length + 1 ≤ 3; omega)
    · unfold textL; repeat' split
      all_goals exact Nat.le_add_left 1 2
    · unfold escapeL; repeat' split
      all_goals exact Nat.le_add_left 1 2
    · unfold hexL; repeat' split
      all_goals exact Nat.le_add_left 1 2
    · unfold lowL; repeat' split
      all_goals exact Nat.le_add_left 1 2
    · unfold commentL; repeat' split
      all_goals exact Nat.le_add_left 1 2
  rw [List.getD_eq_getElem?_getD]
  cases e : table[k.toNat]? with
  | none => exact Nat.zero_le _
  | some L => exact base L (List.mem_of_getElem? e)
section
variable {P : Program} {w : World} {K : PySem.W.Frag} {mg : Str → Option Value} {base : Heap} {C D aB aM : Addr} {f : Addr} {fd : FuncData}
/-! ### count_finished -/
theorem scCount : FnScope ["steps", "step"] ["steps"] (defScope sCount) := ⟨rfl, rfl, rfl, by decide +kernel, rfl, by decide +kernel, by decide +kernel⟩
def scopeComp : Scope := { kind := .function, names := [(Str.ofString ".0", .local), (Str.ofString "step", .local), (Str.ofString "FINISH", .globalImplicit)], isGenerator := false, isCoroutine := false, more := [] }
theorem blkCount : BlkOk ["steps", "step"] (defScope sCount) scopeComp [("step", 1)] := ⟨rfl, by decide +kernel, by decide +kernel, by decide +kernel, by decide +kernel⟩
def compE : Expr := match defBody sCount with
  | [.Return (some (.Call _ [e] _ _)) _] => e
  | _ => .Constant .none 0 ⟨0, 0, 0, 0⟩
theorem pe_comp {cdv : Value} {A : Around} {outer : List Env} {s : Shared} {H : Hp} {E : XK} (T : TxS K mg D aB aM) :
    PE (cxOf CX0 P w K mg base ["steps", "step"] "count_finished" (defScope sCount) f cdv A outer s H E).nox compE (tLc (iList K (tVar 0)) (gName 1) (tTest (tOp rEq (tFld K (tVar 1) "deed") (tC (.str "finish")))) (tVar 1) [1]) :=
  pe_lc (own := [("step", 1)]) (scope := scopeComp) rfl scCount.nd (pi_list (pv 0)) blkCount
    (fun _ _ _ _ _ => pg_name (i := 1) scCount.nd rfl (Or.inl rfl)) (fun _ _ _ _ _ => pts_one (pt_cmpR op_eq (pe_fld (pv 1) rfl) (pe_gs T.gFinish) (nomark _))) (fun _ _ _ _ _ => pv 1)
theorem ok_count (F : Fun K "count_finished" "count_finished" sCount f fd) (T : TxS K mg D aB aM) (hlen : mg "len" = none) : FnOk P w K mg base CX0 1 f fd ["steps"] (spCount D) := by
  refine F.ok scCount (fun vs H Q E h => ?_) (fun cdv A outer s H vs Q E hr h => ?_)
  · obtain ⟨l, L, rfl, _⟩ := h
    rfl
  · obtain ⟨l, L, rfl, hl, hz, k⟩ := h
    refine ⟨_, pss_one (ps_ret (pe_callB call_len_seq (by rfl) hlen PySem.boot_len (pa_cons (pe_comp T) pa_nil))), ?_⟩
    obtain ⟨as, e, hs⟩ := hl
    have hal := hs.len
    refine ⟨_, rfl, l, rfl, ⟨_, SqL.of e⟩, fun B hB => lc_list (K := K) (a := l) (xs := as.map V.ref) (fun i H' => Same H H' ∧ ∃ acc, H' B = some (.lst acc) ∧ acc.length = countFin (L.take i)) ⟨Same_lay hB, [], upd_same, rfl⟩ (fun i H' _ q => SqL.of (q.1 _ _ e)) ?_ ?_⟩
    · rintro i y H' hi ⟨sm, acc, hB', hacc⟩
      obtain ⟨a, ha, rfl⟩ := map_at hi
      obtain ⟨t, ht, hst⟩ := hs.at_ ha
      obtain ⟨dx, hd⟩ := hst.same sm
      have hil : i < L.length := (List.getElem?_eq_some_iff.mp ht).1
      have hc0 : countFin (L.take i) ≤ 10 := Nat.le_trans (count_le _) (by rw [List.length_take]; omega)
      refine ⟨rfl, _, rfl, a, D, dx, _, _, rfl, hd, T.cl, T.nDeed, sf_deed .., rfl, _, rfl, ite2 (fun h => ?_) fun h => ?_⟩
      · have h := deed_of (e := .fin) h
        refine ⟨_, rfl, acc, hB', line_of' (by omega), fun b o q => ?_, _, upd_same, ?_⟩
        · rw [upd_ne (ne_of_none q hB)]
          exact sm _ _ q
        · rw [take_snoc ht, count_snoc, if_pos h, List.length_append, hacc]
          rfl
      · have h := deed_no (e := .fin) h
        refine ⟨sm, acc, hB', ?_⟩
        rw [take_snoc ht, count_snoc, if_neg h, hacc]
        rfl
    · rintro H' ⟨sm, acc, hB', hacc⟩
      rw [List.length_map, hal, List.take_length] at hacc
      refine ⟨B, acc, rfl, .inl (SqL.of hB'), ?_⟩
      rw [hacc]
      exact k H' sm
/-! ### hand -/
def tRefT (C : Addr) : TT := fun σ H Q => ∃ (p dx cur wt : Addr) (m : Mir) (k c : Int), σ[0]? = some (some (.ref p)) ∧ σ[1]? = some (some (.int k)) ∧ σ[2]? = some (some (.int c)) ∧ H p = some (.ins C dx (rf m cur wt)) ∧ Q (refusedM m k c) H
theorem pt_ref {X : Cx} {a1 a2 a3 a4 : Expr} {pos : Pos} {mg' : Str → Option Value} (Tr : TxR X.K mg' C) (h1 : PT X a1 (tB (tNeI (tVar 1) (tFld X.K (tVar 0) "state")))) (h2 : PT X a2 (tB (tEqI (tVar 1) (tC (.int 15))))) (h3 : PT X a3 (tB (tLt (tVar 2) (tC (.int (-1))))))
    (h4 : PT X a4 (tB (tGt (tVar 2) (tC (.int 255))))) : PT X (.BoolOp .Or [a1, a2, a3, a4] pos) (tRefT C) := by
  intro pins s σ H Q I h
  obtain ⟨p, dx, cur, wt, m, k, c, e0, e1, e2, eo, q⟩ := h
  refine (pw_or h1 (pw_or h2 (pw_or h3 (pw_or1 h4)))).pt pins s σ H Q I ?_
  have no : ∀ {z : Bool}, ¬ z = true → z = false := fun {z} h => by cases z <;> first | rfl | exact absurd rfl h
  refine ⟨_, e1, _, e0, p, C, dx, _, _, rfl, eo, Tr.cl, Tr.nState, rf_state .., k, m.st, rfl, rfl, _, rfl, ite2 (fun b => ?_) fun b => ?_⟩
  · have b : (!decide (k = m.st)) = true := b
    have b1 : ¬ k = m.st := fun z => by rw [decide_eq_true z] at b; cases b
    have e : refusedM m k c = true := by
      unfold refusedM
      rw [decide_eq_true b1, Bool.true_or]
    rw [e] at q
    exact q
  have b1 : k = m.st := by
    by_cases z : k = m.st
    · exact z
    · exact absurd (show (!decide (k = m.st)) = true by rw [decide_eq_false z]; rfl) b
  refine ⟨_, e1, k, 15, rfl, rfl, _, rfl, ite2 (fun b => ?_) fun b => ?_⟩
  · have e : refusedM m k c = true := by
      unfold refusedM
      rw [show decide (k = 15) = true from b, Bool.true_or, Bool.or_true]
    rw [e] at q
    exact q
  have b2 : decide (k = 15) = false := no b
  refine ⟨_, e2, c, -1, rfl, rfl, _, rfl, ite2 (fun b => ?_) fun b => ?_⟩
  · have e : refusedM m k c = true := by
      unfold refusedM
      rw [show decide (c < -1) = true from b, Bool.true_or, Bool.or_true, Bool.or_true]
    rw [e] at q
    exact q
  have b3 : decide (c < -1) = false := no b
  have e : refusedM m k c = decide (255 < c) := by
    unfold refusedM
    rw [b2, b3, decide_eq_false (fun z : k ≠ m.st => z b1), Bool.false_or, Bool.false_or, Bool.false_or]
  rw [e] at q
  exact ⟨_, e2, c, 255, rfl, rfl, _, rfl, q⟩
theorem foldl_cur {l : List Stp} : ∀ {m : Mir}, m.cur.length ≤ 255 → (l.foldl doStep m).cur.length ≤ 255 := by
  induction l with
  | nil => intro m h; exact h
  | cons t l ih => intro m h; exact ih (doStep_cur h)
theorem foldl_wait {l : List Stp} : ∀ {m : Mir}, (l.foldl doStep m).wait.length ≤ m.wait.length + l.length := by
  induction l with
  | nil => intro m; exact Nat.le_refl _
  | cons t l ih =>
    intro m
    have h1 := @ih (doStep m t)
    have h2 := @doStep_wait m t
    show (l.foldl doStep (doStep m t)).wait.length ≤ m.wait.length + (l.length + 1)
    omega
theorem scHand : FnScope ["self", "state", "c", "steps", "step"] ["self", "state", "c"] (defScope sHand) := ⟨rfl, rfl, rfl, by decide +kernel, rfl, by decide +kernel, by decide +kernel⟩
theorem ok_hand (F : Fun K "hand" "Reader.hand" sHand f fd) (T : TxS K mg D aB aM) (Tr : TxR K mg C) (Ds : DefD P w K mg base 7 "steps_of" ["state", "c"] (spStepsOf D)) (Dc : DefD P w K mg base 1 "count_finished" ["steps"] (spCount D))
    (GD : MthD P w K mg base 3 C "do_step" ["self", "step"] (spDoStep C D)) : FnOk P w K mg base CX0 8 f fd ["self", "state", "c"] (spHand C) := by
  obtain ⟨fs, fds, mD, GD, bD⟩ := GD.ex
  refine F.ok scHand (fun vs H Q E h => ?_) (fun cdv A outer s H vs Q E hr h => ?_)
  · obtain ⟨p, S, m, k, c, rfl, _⟩ := h
    rfl
  · obtain ⟨p, S, m, k, c, rfl, hR, ok, kQ⟩ := h
    have hr1 := hr.mono (show 1 ≤ 7 by decide)
    have hr3 := hr.mono (show 3 ≤ 7 by decide)
    refine ⟨_, pss_cons (ps_if (pt_ref Tr (pt_cmp (pc_neI (pv 1) (pe_fld (pv 0) rfl))) (pt_cmp (pc_eqI (pv 1) (pe_gi T.gOver))) (pt_cmp (pc_lt (pv 2) (pe_gi T.gEnd))) (pt_cmp (pc_gt (pv 2) (pe_gi Tr.gHighest)))) (pss_one (ps_ret (pe_gi Tr.gRefused))) pss_nil)
      (pss_cons (ps_set (i := 3) scHand.nd rfl (Or.inl rfl) (pe_def Ds hr (pa_cons (pv 1) (pa_cons (pv 2) pa_nil))))
      (pss_cons (ps_if (pt_cmp (pc_gt (pe_op op_add (pe_callB call_len_seq (by rfl) Tr.len PySem.boot_len (pa_cons (pe_fld (pv 0) rfl) pa_nil)) (pe_def Dc hr1 (pa_cons (pv 3) pa_nil))) (pe_gi Tr.gMostW))) (pss_one (ps_ret (pe_gi Tr.gRefused))) pss_nil)
      (pss_cons (ps_for PassesOwn.never rfl (pi_list (pv 3)) (pg_name (i := 4) scHand.nd rfl (Or.inl rfl)) (pss_one (ps_expr (pe_meth (pv 0) Tr.cl mD GD hr3 bD .nil pass0 (pa_cons (pv 4) pa_nil)))))
      (pss_cons (ps_if (pt_cmp (pc_neI (pv 2) (pe_gi T.gEnd))) (pss_one (ps_fldaug (pv 0) pe_int in_add)) pss_nil)
      (pss_one (ps_ret (pe_fld (pv 0) rfl))))))), ?_⟩
    have hR0 := hR
    obtain ⟨dx, cur, wt, tk, rfl, r⟩ := hR
    refine ⟨p, dx, cur, wt, m, k, c, rfl, rfl, rfl, r.obj, ite2 (fun hf => ?_) fun hf => ?_⟩
    · have e : handM m k c = (m, -1) := if_pos hf
      rw [e] at kQ
      exact kQ H _ hR0 Keep.refl
    have e0 : handM m k c = (if 64 < m.wait.length + countFin (stepsOf k c) then (m, -1) else (handedM ((stepsOf k c).foldl doStep m) c, ((stepsOf k c).foldl doStep m).st)) := if_neg hf
    have hf' : k = m.st ∧ ¬ k = 15 ∧ ¬ c < -1 ∧ ¬ 255 < c := by
      unfold refusedM at hf
      simp only [Bool.or_eq_true, decide_eq_true_eq] at hf
      omega
    have hcl : m.cur.length ≤ 255 := ok.cur.resolve_left fun z => hf'.2.1 (hf'.1.trans z)
    have k0 := ok.lo
    have k15 := ok.hi
    refine ⟨_, rfl, _, rfl, k, c, rfl, by omega, by omega, fun H1 l hl sm fr => ?_⟩
    have hz := or_len c k
    generalize stepsOf k c = L at hl hz e0
    have kp1 : Keep (own p cur wt tk) H (own p cur wt tk) H1 := Keep.same sm
    have r1 : RdrAt C H1 p dx cur wt tk m := ⟨sm _ _ r.obj, sm _ _ r.hcur, sm _ _ r.hwt, r.toks.keep fun t ht => ⟨fun o e => sm _ _ e, fun o e => sm _ _ e⟩, r.ncw, r.nct⟩
    have nl : ¬ own p cur wt tk l := fun z => by
      obtain ⟨o, e⟩ := Rdr.some_of r z
      rw [fr] at e
      cases e
    refine ⟨_, rfl, p, C, dx, _, _, rfl, r1.obj, Tr.cl, Tr.nWaiting, rf_waiting .., wt, _, rfl, .inl (SqL.of r1.hwt), _, rfl, l, L, rfl, hl, Nat.le_trans hz (by decide), fun H2 sm2 => ?_⟩
    have hwl : (tk.map fun t => V.ref t.1).length = m.wait.length := by rw [List.length_map]; exact r1.toks.len
    refine ⟨_, _, rfl, rfl, _, 64, rfl, rfl, _, rfl, ite2 (fun hw => ?_) fun hw => ?_⟩
    all_goals have kp2 : Keep (own p cur wt tk) H (own p cur wt tk) H2 := kp1.trans (Keep.same sm2)
    all_goals have r2 : RdrAt C H2 p dx cur wt tk m := ⟨sm2 _ _ r1.obj, sm2 _ _ r1.hcur, sm2 _ _ r1.hwt, r1.toks.keep fun t ht => ⟨fun o e => sm2 _ _ e, fun o e => sm2 _ _ e⟩, r1.ncw, r1.nct⟩
    · have hw' : 64 < m.wait.length + countFin L := by
        have := of_decide_eq_true hw
        rw [hwl] at this
        omega
      rw [if_pos hw'] at e0
      rw [e0] at kQ
      exact kQ H2 _ ⟨dx, cur, wt, tk, rfl, r2⟩ kp2
    · have hw' : ¬ 64 < m.wait.length + countFin L := fun z => hw (decide_eq_true (by rw [hwl]; omega))
      rw [if_neg hw'] at e0
      rw [e0] at kQ
      obtain ⟨as, el, hs⟩ := hl
      have el2 := sm2 _ _ el
      have hs2 := hs.same sm2
      have hal := hs.len
      have hwt := ok.wait
      refine ⟨_, rfl, l, rfl, ⟨_, SqL.of el2⟩, for_list (K := K) (a := l) (xs := as.map V.ref) (fun i σ H' => ∃ (v : Option V) (S' : Addr → Prop), σ = [some (.ref p), some (.int k), some (.int c), some (.ref l), v] ∧ Rdr C H' p S' ((L.take i).foldl doStep m) ∧ Keep (own p cur wt tk) H2 S' H')
        ⟨none, _, rfl, ⟨dx, cur, wt, tk, rfl, r2⟩, Keep.refl⟩ (fun i σ H' _ q => ?_) ?_ ?_⟩
      · obtain ⟨_, S', _, _, kp⟩ := q
        exact SqL.of (kp.kept _ _ el2 nl)
      · rintro i y σ H' hi ⟨v, S', rfl, ⟨dx', cur', wt', tk', rfl, r'⟩, kp⟩
        obtain ⟨a, ha, rfl⟩ := map_at hi
        obtain ⟨t, ht, hst⟩ := hs2.at_ ha
        have hst' : StepAt D H' a t := by
          have na := r2.step hst
          obtain ⟨dq, hq⟩ := hst
          exact ⟨dq, kp.kept _ _ hq na⟩
        have hc1 : ((L.take i).foldl doStep m).cur.length ≤ 255 := foldl_cur hcl
        have hw1 : ((L.take i).foldl doStep m).wait.length ≤ 1000 := by
          have h1 := @foldl_wait (L.take i) m
          rw [List.length_take] at h1
          omega
        refine ⟨_, rfl, p, dx', _, rfl, r'.obj, rf_no _ _ _ (by decide +kernel), _, rfl, p, a, dx', cur', wt', tk', _, t, rfl, r', hst', hc1, hw1, fun H3 S3 rd kp3 => ?_⟩
        refine ⟨_, S3, rfl, ?_, kp.trans kp3⟩
        rw [take_snoc ht, List.foldl_append]
        exact rd
      · rintro σ H3 ⟨v, S3, rfl, rd, kp⟩
        rw [List.length_map, hal, List.take_length] at rd
        obtain ⟨dx', cur', wt', tk', rfl, r'⟩ := rd
        generalize L.foldl doStep m = m1 at r' kQ
        refine ⟨_, rfl, c, -1, rfl, rfl, _, rfl, ite2 (fun hc => ?_) fun hc => ?_⟩
        rotate_left
        · have hc : c = -1 := by
            by_cases q : c = -1
            · exact q
            · exact absurd (show (!decide (c = -1)) = true by rw [decide_eq_false q]; rfl) hc
          refine ⟨_, rfl, p, C, dx', _, _, rfl, r'.obj, Tr.cl, Tr.nState, rf_state .., ?_⟩
          refine kQ H3 _ ⟨dx', cur', wt', tk', rfl, ?_⟩ (kp2.trans kp)
          show RdrAt C H3 p dx' cur' wt' tk' (handedM m1 c)
          unfold handedM
          rw [if_pos hc]
          exact r'
        · have hc : ¬ c = -1 := fun q => by
            have hc : (!decide (c = -1)) = true := hc
            rw [decide_eq_true q] at hc
            cases hc
          refine ⟨_, rfl, p, C, dx', _, _, rfl, r'.obj, Tr.cl, Tr.nHanded, rf_handed .., _, _, rfl, rfl, dx', _, r'.obj, (by show 6 < 1000; decide), ?_⟩
          rw [put_handed]
          have r4 := r'.put (n := { m1 with n := m1.n + 1 }) rfl rfl
          refine ⟨_, rfl, p, C, dx', _, _, rfl, r4.obj, Tr.cl, Tr.nState, rf_state .., ?_⟩
          refine kQ _ _ ⟨dx', cur', wt', tk', rfl, ?_⟩ ((kp2.trans kp).trans Keep.at_p)
          show RdrAt C _ p dx' cur' wt' tk' (handedM m1 c)
          unfold handedM
          rw [if_neg hc]
          exact r4
/-! ### run -/
theorem scRun : FnScope ["self", "cs", "c"] ["self", "cs"] (defScope sRun) := ⟨rfl, rfl, rfl, by decide +kernel, rfl, by decide +kernel, by decide +kernel⟩
theorem ok_run (F : Fun K "run" "Reader.run" sRun f fd) (Tr : TxR K mg C) (GH : MthD P w K mg base 8 C "hand" ["self", "state", "c"] (spHand C)) : FnOk P w K mg base CX0 9 f fd ["self", "cs"] (spRun K C) := by
  obtain ⟨fh, fdh, mH, GH, bH⟩ := GH.ex
  refine F.ok scRun (fun vs H Q E h => ?_) (fun cdv A outer s H vs Q E hr h => ?_)
  · obtain ⟨p, a, S, m, s, cs, rfl, _⟩ := h
    rfl
  · obtain ⟨p, a, S, m, z, cs, rfl, hR, rel, g, hw, hS, na, kQ⟩ := h
    refine ⟨_, pss_cons (ps_for PassesOwn.never rfl (pi_list (pv 1)) (pg_name (i := 2) scRun.nd rfl (Or.inl rfl))
        (pss_one (ps_if (pt_cmp (pc_eqI (pe_meth (pv 0) Tr.cl mH GH hr bH .nil pass0 (pa_cons (pe_fld (pv 0) rfl) (pa_cons (pv 2) pa_nil))) (pe_gi Tr.gRefused))) (pss_one (ps_ret (pe_gi Tr.gRefused))) pss_nil)))
      (pss_one (ps_ret (pe_fld (pv 0) rfl))), ?_⟩
    refine ⟨_, rfl, a, rfl, ⟨_, hS⟩, for_list (K := K) (a := a) (xs := cs.map V.int) (fun i σ H' => ∃ (v : Option V) (S' : Addr → Prop) (m' : Mir) (z' : Sg04.St), σ = [some (.ref p), some (.ref a), v] ∧ Rdr C H' p S' m' ∧ R m' z' ∧ Good z' ∧ z'.waiting.length ≤ 64 ∧ Keep S H S' H' ∧ runM m cs = runM m' (cs.drop i))
      ⟨none, S, m, z, rfl, hR, rel, g, hw, Keep.refl, rfl⟩ (fun i σ H' _ q => ?_) ?_ ?_⟩
    · obtain ⟨_, S', _, _, _, _, _, _, _, kp, _⟩ := q
      exact kp.seq na hS
    · rintro i y σ H' hi ⟨v, S', m', z', rfl, rd, rel', g', hw', kp, er⟩
      obtain ⟨c, hc, rfl⟩ := map_at hi
      rw [drop_cons hc] at er
      have rd0 := rd
      obtain ⟨dx', cur', wt', tk', rfl, r'⟩ := rd
      refine ⟨_, rfl, p, dx', _, rfl, r'.obj, rf_no _ _ _ (by decide +kernel), _, rfl, p, C, dx', _, _, rfl, r'.obj, Tr.cl, Tr.nState, rf_state .., _, rfl, p, _, m', m'.st, c, rfl, rd0, rel'.okM g' hw', fun H2 S2 rd2 kp2 => ?_⟩
      refine ⟨_, -1, rfl, rfl, _, rfl, ite2 (fun hf => ?_) fun hf => ?_⟩
      · have hf := of_decide_eq_true hf
        have e : runM m cs = ((handM m' m'.st c).1, -1) := by
          rw [er]
          unfold runM
          rw [if_pos hf]
        rw [e] at kQ
        exact kQ H2 S2 rd2 (kp.trans kp2)
      · have hf : ¬ (handM m' m'.st c).2 = -1 := fun q => hf (decide_eq_true q)
        have e : runM m cs = runM (handM m' m'.st c).1 (cs.drop (i + 1)) := by
          rw [er]
          show (if (handM m' m'.st c).2 = -1 then _ else _) = _
          rw [if_neg hf]
        have hh := hand_ok (k := z'.state) (c := c) rel' g'
        rw [← rel'.st] at hh
        rcases hh with ⟨t, m2, e1, e2, rel2, g2, hw2⟩ | ⟨e1, e2⟩
        · rw [e2] at e rd2
          exact ⟨_, S2, m2, t, rfl, rd2, rel2, g2, hw2, kp.trans kp2, e⟩
        · rw [e2] at hf
          exact absurd rfl hf
    · rintro σ H' ⟨v, S', m', z', rfl, rd, rel', g', hw', kp, er⟩
      rw [List.length_map, List.drop_length] at er
      rw [er] at kQ
      have rd0 := rd
      obtain ⟨dx', cur', wt', tk', rfl, r'⟩ := rd
      refine ⟨_, rfl, p, C, dx', _, _, rfl, r'.obj, Tr.cl, Tr.nState, rf_state .., ?_⟩
      exact kQ H' _ rd0 kp
end
end Sr
end
section
set_option Elab.async false
set_option linter.all false
set_option maxRecDepth 100000
set_option maxHeartbeats 2000000
/-! The reader's beginning, and answers itself over the promises of call_length and answer_call. -/
namespace Sr
open PySem PySem.Spec PyProof.Rows L2
abbrev sCallLen : Stmt := top 78
abbrev sAnsCall : Stmt := top 79
abbrev sAnswers : Stmt := top 80
/-! ### Reader() -/
def InitS (C dx p : Addr) (H Hi : Hp) (fs : List (Str × V)) : Prop := Hi p = some (.ins C dx fs) ∧ ∀ b o, H b = some o → b ≠ p → Hi b = some o
theorem InitS.put {C dx p : Addr} {H Hi : Hp} {fs : List (Str × V)} (h : InitS C dx p H Hi fs) (fs' : List (Str × V)) : InitS C dx p H (upd Hi p (.ins C dx fs')) fs' :=
  ⟨upd_same, fun b o e hb => by rw [upd_ne hb]; exact h.2 b o e hb⟩
theorem InitS.lay {C dx p l : Addr} {H Hi : Hp} {fs : List (Str × V)} {o : HO} (h : InitS C dx p H Hi fs) (hl : Hi l = Option.none) : InitS C dx p H (upd Hi l o) fs :=
  ⟨Same_lay hl _ _ h.1, fun b u e hb => Same_lay hl _ _ (h.2 b u e hb)⟩
theorem InitS.free {C dx p l : Addr} {H Hi : Hp} {fs : List (Str × V)} (h : InitS C dx p H Hi fs) (hl : Hi l = Option.none) : l ≠ p ∧ H l = Option.none := by
  have n : l ≠ p := fun z => by rw [z, h.1] at hl; cases hl
  refine ⟨n, ?_⟩
  cases q : H l with
  | none => rfl
  | some o => rw [h.2 l o q n] at hl; cases hl
section
variable {P : Program} {w : World} {K : PySem.W.Frag} {mg : Str → Option Value} {base : Heap} {C D aB aM : Addr} {f : Addr} {fd : FuncData}
theorem scRInit : FnScope ["self"] ["self"] (defScope sRInit) := ⟨rfl, rfl, rfl, by decide +kernel, rfl, by decide +kernel, by decide +kernel⟩
theorem ok_rInit (F : Fun K "__init__" "Reader.__init__" sRInit f fd) (T : TxS K mg D aB aM) (Tr : TxR K mg C) : FnOk P w K mg base CX0 1 f fd ["self"] (spRInit C) := by
  refine F.ok scRInit (fun vs H Q E h => ?_) (fun cdv A outer s H vs Q E hr h => ?_)
  · obtain ⟨p, dx, rfl, _⟩ := h
    rfl
  · obtain ⟨p, dx, rfl, hp, k⟩ := h
    refine ⟨_, pss_cons (ps_fld (pv 0) (pe_gi T.gStart) rfl) (pss_cons (ps_fld (pv 0) pe_int rfl) (pss_cons (ps_fld (pv 0) (pe_lst pa_nil) rfl) (pss_cons (ps_fld (pv 0) pe_int rfl) (pss_cons (ps_fld (pv 0) (pe_lst pa_nil) rfl) (pss_one (ps_fld (pv 0) (pe_gi Tr.gNoPlace) rfl)))))), ?_⟩
    have i0 : InitS C dx p H H [] := ⟨hp, fun b o e _ => e⟩
    refine ⟨_, rfl, p, C, dx, [], rfl, hp, Tr.cl, Tr.nState, (by show 0 < 1000; decide), ?_⟩
    have i1 := i0.put [("state", V.int 0)]
    show tSeq _ _ _ _ (upd H p (.ins C dx [("state", V.int 0)]))
    generalize upd H p (.ins C dx [("state", V.int 0)]) = H1 at i1
    refine ⟨_, rfl, p, C, dx, _, rfl, i1.1, Tr.cl, Tr.nHanded, (by show 1 < 1000; decide), ?_⟩
    rw [putF_miss (by decide +kernel)]
    have i2 := i1.put [("state", V.int 0), ("handed", V.int 0)]
    show tSeq _ _ _ _ (upd H1 p (.ins C dx [("state", V.int 0), ("handed", V.int 0)]))
    generalize upd H1 p (.ins C dx [("state", V.int 0), ("handed", V.int 0)]) = H2 at i2
    refine ⟨Nat.zero_le _, fun l1 hl1 => ?_⟩
    obtain ⟨n1, f1⟩ := i2.free hl1
    have i3 := i2.lay (o := .lst []) hl1
    have c1 : upd H2 l1 (.lst []) l1 = some (.lst []) := upd_same
    generalize upd H2 l1 (.lst []) = H3 at i3 c1
    refine ⟨_, rfl, p, C, dx, _, rfl, i3.1, Tr.cl, Tr.nCurrent, (by show 2 < 1000; decide), ?_⟩
    rw [putF_miss (by decide +kernel), putF_miss (by decide +kernel)]
    have i4 := i3.put [("state", V.int 0), ("handed", V.int 0), ("current", V.ref l1)]
    have c2 : upd H3 p (.ins C dx [("state", V.int 0), ("handed", V.int 0), ("current", V.ref l1)]) l1 = some (.lst []) := by rw [upd_ne n1]; exact c1
    show tSeq _ _ _ _ (upd H3 p (.ins C dx [("state", V.int 0), ("handed", V.int 0), ("current", V.ref l1)]))
    generalize upd H3 p (.ins C dx [("state", V.int 0), ("handed", V.int 0), ("current", V.ref l1)]) = H4 at i4 c2
    refine ⟨_, rfl, p, C, dx, _, rfl, i4.1, Tr.cl, Tr.nHigh, (by show 3 < 1000; decide), ?_⟩
    rw [putF_miss (by decide +kernel), putF_miss (by decide +kernel), putF_miss (by decide +kernel)]
    have i5 := i4.put [("state", V.int 0), ("handed", V.int 0), ("current", V.ref l1), ("high", V.int 0)]
    have c3 : upd H4 p (.ins C dx [("state", V.int 0), ("handed", V.int 0), ("current", V.ref l1), ("high", V.int 0)]) l1 = some (.lst []) := by rw [upd_ne n1]; exact c2
    show tSeq _ _ _ _ (upd H4 p (.ins C dx [("state", V.int 0), ("handed", V.int 0), ("current", V.ref l1), ("high", V.int 0)]))
    generalize upd H4 p (.ins C dx [("state", V.int 0), ("handed", V.int 0), ("current", V.ref l1), ("high", V.int 0)]) = H5 at i5 c3
    refine ⟨Nat.zero_le _, fun l2 hl2 => ?_⟩
    obtain ⟨n2, f2⟩ := i5.free hl2
    have n12 : l1 ≠ l2 := ne_of_none c3 hl2
    have i6 := i5.lay (o := .lst []) hl2
    have c4 : upd H5 l2 (.lst []) l1 = some (.lst []) := Same_lay hl2 _ _ c3
    have d4 : upd H5 l2 (.lst []) l2 = some (.lst []) := upd_same
    generalize upd H5 l2 (.lst []) = H6 at i6 c4 d4
    refine ⟨_, rfl, p, C, dx, _, rfl, i6.1, Tr.cl, Tr.nWaiting, (by show 4 < 1000; decide), ?_⟩
    rw [putF_miss (by decide +kernel), putF_miss (by decide +kernel), putF_miss (by decide +kernel), putF_miss (by decide +kernel)]
    have i7 := i6.put [("state", V.int 0), ("handed", V.int 0), ("current", V.ref l1), ("high", V.int 0), ("waiting", V.ref l2)]
    have c5 : upd H6 p (.ins C dx [("state", V.int 0), ("handed", V.int 0), ("current", V.ref l1), ("high", V.int 0), ("waiting", V.ref l2)]) l1 = some (.lst []) := by rw [upd_ne n1]; exact c4
    have d5 : upd H6 p (.ins C dx [("state", V.int 0), ("handed", V.int 0), ("current", V.ref l1), ("high", V.int 0), ("waiting", V.ref l2)]) l2 = some (.lst []) := by rw [upd_ne n2]; exact d4
    show Ends.nx _ _ (upd H6 p (.ins C dx [("state", V.int 0), ("handed", V.int 0), ("current", V.ref l1), ("high", V.int 0), ("waiting", V.ref l2)]))
    generalize upd H6 p (.ins C dx [("state", V.int 0), ("handed", V.int 0), ("current", V.ref l1), ("high", V.int 0), ("waiting", V.ref l2)]) = H7 at i7 c5 d5
    refine ⟨_, rfl, p, C, dx, _, rfl, i7.1, Tr.cl, Tr.nFault, (by show 5 < 1000; decide), ?_⟩
    rw [putF_miss (by decide +kernel), putF_miss (by decide +kernel), putF_miss (by decide +kernel), putF_miss (by decide +kernel), putF_miss (by decide +kernel)]
    have i8 := i7.put (rf m0 l1 l2)
    refine k _ (own p l1 l2 []) ⟨dx, l1, l2, [], rfl, ⟨i8.1, by rw [upd_ne n1]; exact c5, by rw [upd_ne n2]; exact d5, trivial, n12, fun t ht => nomatch ht⟩⟩ i8.2 fun b hb => ?_
    rcases hb with h | h | h | ⟨t, ht, _⟩
    · exact .inl h
    · exact .inr (by rw [h]; exact f1)
    · exact .inr (by rw [h]; exact f2)
    · exact nomatch ht
/-! ### answers -/
def spCallLen (K : PySem.W.Frag) : Sp := fun vs H Q _ => ∃ (a : Addr) (l : List Int) (i n : Nat) (c : List (List Int)) (t : List Int), vs = [.ref a, .int (i : Int)] ∧ SqL K H a (l.map V.int) ∧ Form (l.drop i) c t ∧ (l.drop i).length = n + t.length ∧ Q (.int (n : Int)) H
def spAnsCall (C : Addr) : Sp := fun vs H Q _ => ∃ (p b : Addr) (S : Addr → Prop) (m : Mir) (s : Sg04.St) (x : List Int) (c : List (List Int)), vs = [.ref p, .ref b] ∧ Rdr C H p S m ∧ R m s ∧ Good s ∧ s.waiting.length ≤ 64 ∧ H b = some (.lst (x.map V.int)) ∧ ¬ S b ∧ Form x c [] ∧
  ∀ (H' : Hp) (S' : Addr → Prop) (m' : Mir) (l : Addr), Rdr C H' p S' m' → R m' (Sg04Neutral.step s c).1 → Good (Sg04Neutral.step s c).1 → (Sg04Neutral.step s c).1.waiting.length ≤ 64 → Keep S H S' H' → (∀ o, H l = some o → S l) → H' l = some (.lst ((Sg04Neutral.step s c).2.map V.int)) → ¬ S' l → Q (.ref l) H'
/-- answers' own: a list of calls that may be asked is handed in, what is due comes out -/
def spAns (K : PySem.W.Frag) : Sp := fun vs H Q _ => ∃ (a : Addr) (l : List Int), vs = [.ref a] ∧ SqL K H a (l.map V.int) ∧ l.length ≤ 30000 ∧ PySg04.answers_asked l = true ∧ ∀ (H' : Hp) (q : Addr), H' q = some (.lst ((PySg04.answers l).map V.int)) → Q (.ref q) H'
theorem Keep.with {S S' : Addr → Prop} {H H' : Hp} (k : Keep S H S' H') (q : Addr) : Keep (fun b => S b ∨ b = q) H (fun b => S' b ∨ b = q) H' := by
  refine ⟨fun b h => ?_, fun b o e n => k.kept b o e fun z => n (.inl z)⟩
  rcases h with h | h
  · rcases k.owns b h with z | z
    · exact .inl (.inl z)
    · exact .inr z
  · exact .inl (.inr h)
theorem Keep.at_q {S : Addr → Prop} {H : Hp} {q : Addr} {o : HO} : Keep (fun b => S b ∨ b = q) H (fun b => S b ∨ b = q) (upd H q o) :=
  ⟨fun _ h => .inl h, fun b u e n => by rw [upd_ne fun z => n (.inr z)]; exact e⟩
theorem cut_at (l : List Int) {i n : Nat} (h : i + n ≤ l.length) : cutV (l.map V.int) (some (i : Int)) (some ((i : Int) + (n : Int))) = ((l.drop i).take n).map V.int := by
  unfold cutV
  rw [show ((i : Int) + (n : Int)) = ((i + n : Nat) : Int) from rfl, HT.sIx_nat, HT.sIx_nat, List.length_map, Nat.min_eq_left (show i ≤ l.length by omega), Nat.min_eq_left h, Nat.add_sub_cancel_left, List.map_take, List.map_drop]
theorem scAnswers : FnScope ["calls", "reader", "answered", "at", "behind", "numbers"] ["calls"] (defScope sAnswers) := ⟨rfl, rfl, rfl, by decide +kernel, rfl, by decide +kernel, by decide +kernel⟩
theorem ok_answers (F : Fun K "answers" "answers" sAnswers f fd) (hlen : mg "len" = none) (DR : ClsD P w K mg base 1 "Reader" C ["self"] (spRInit C)) (DL : DefD P w K mg base 1 "call_length" ["calls", "at"] (spCallLen K)) (DA : DefD P w K mg base 10 "answer_call" ["reader", "call"] (spAnsCall C)) :
    FnOk P w K mg base CX0 11 f fd ["calls"] (spAns K) := by
  obtain ⟨fR, fdR, M, GR, bR⟩ := DR.ex
  refine F.ok scAnswers (fun vs H Q E h => ?_) (fun cdv A outer s H vs Q E hr h => ?_)
  · obtain ⟨a, l, rfl, _⟩ := h
    rfl
  · obtain ⟨a, l, rfl, hS, hl, hask, kQ⟩ := h
    have hr1 := hr.mono (show 1 ≤ 10 by decide)
    have hr2 := hr.mono (show 2 ≤ 10 by decide)
    refine ⟨_, pss_cons (ps_set (i := 1) scAnswers.nd rfl (Or.inl rfl) (pe_make0 M GR hr2 rfl DR.gl bR .nil pass0))
      (pss_cons (ps_set (i := 2) scAnswers.nd rfl (Or.inl rfl) (pe_lst pa_nil))
      (pss_cons (ps_set (i := 3) scAnswers.nd rfl (Or.inl rfl) pe_int)
      (pss_cons (ps_while PassesOwn.never (pt_cmp (pc_lt (pv 3) (pe_callB call_len_seq (by rfl) hlen PySem.boot_len (pa_cons (pv 0) pa_nil))))
        (pss_cons (ps_set (i := 4) scAnswers.nd rfl (Or.inl rfl) (pe_op op_add (pv 3) (pe_def DL hr1 (pa_cons (pv 0) (pa_cons (pv 3) pa_nil)))))
        (pss_cons (ps_set (i := 5) scAnswers.nd rfl (Or.inl rfl) (pe_def DA hr (pa_cons (pv 1) (pa_cons (pe_slice sl_list (pv 0) (po_some (pv 3)) (po_some (pv 4))) pa_nil))))
        (pss_cons (ps_expr (pe_bm PySem.F.plainAttrs_list PySem.F.slot_list_append PySem.F.type_list_append mt_append (pv 2) (pa_cons (pe_callB call_len_seq (by rfl) hlen PySem.boot_len (pa_cons (pv 5) pa_nil)) pa_nil)))
        (pss_cons (ps_expr (pe_bm PySem.F.plainAttrs_list PySem.F.slot_list_extend PySem.F.type_list_extend mt_extend (pv 2) (pa_cons (pv 5) pa_nil)))
        (pss_one (ps_set (i := 3) scAnswers.nd rfl (Or.inl rfl) (pv 4))))))))
      (pss_one (ps_ret (pv 2)))))), ?_⟩
    obtain ⟨cs0, hcalls, hall, hdue, hbig⟩ := asked_of hask
    rw [hdue] at kQ
    intro p dx np ndx ne
    refine ⟨p, dx, rfl, upd_same, fun H1 S1 rd1 k1 fr1 => ⟨rfl, ?_⟩⟩
    have s1 : Same H H1 := Same.made np ndx k1
    refine ⟨Nat.zero_le _, fun q hq => ?_⟩
    have nS1 : ¬ S1 q := fun z => by
      obtain ⟨o, e⟩ := rd1.has z
      rw [hq] at e
      cases e
    have kp0 : Keep (fun _ => False) H (fun b => S1 b ∨ b = q) (upd H1 q (.lst [])) := by
      refine ⟨fun b h => .inr ?_, fun b o e _ => Same_lay hq _ _ (s1 _ _ e)⟩
      rcases h with h | h
      · rcases fr1 b h with z | z
        · rw [z]; exact np
        · cases e : H b with
          | none => rfl
          | some o =>
            have n1 : b ≠ p := ne_of_none e np
            have n2 : b ≠ dx := ne_of_none e ndx
            rw [upd_ne n1, upd_ne n2, e] at z
            cases z
      · rw [h]; exact s1.free hq
    refine while_by (fun σ H' => ∃ (i f : Nat) (m : Mir) (z : Sg04.St) (S : Addr → Prop) (acc : List Int) (cs : List (List (List Int))) (v4 v5 : Option V), σ = [some (.ref a), some (.ref p), some (.ref q), some (.int (i : Int)), v4, v5] ∧ i ≤ l.length ∧ Rdr C H' p S m ∧ R m z ∧ Good z ∧ z.waiting.length ≤ 64 ∧
        H' q = some (.lst (acc.map V.int)) ∧ ¬ S q ∧ Keep (fun _ => False) H (fun b => S b ∨ b = q) H' ∧ PyFlat.calls PySg04.shape f (l.drop i) = some cs ∧ (∀ c ∈ cs, Sg04Neutral.asked1 c = true) ∧ acc ++ outs z cs = outs Sg04.begun cs0)
      (fun (σ : L2.St) _ => l.length - (match σ[3]? with | some (some (V.int i)) => i.toNat | _ => 0)) ?_ ?_ ?_
    · refine ⟨0, l.length, m0, Sg04.begun, S1, [], cs0, _, _, rfl, Nat.zero_le _, rd1.keep fun b o e hb => Same_lay hq _ _ e, ⟨rfl, rfl, fun _ => rfl, rfl, rfl, rfl⟩, ⟨Nat.zero_le _, Nat.zero_le _, (fun t ht => nomatch ht), fun _ => rfl⟩, Nat.zero_le _, upd_same, nS1, kp0, hcalls, hall, rfl⟩
    · rintro σ H' ⟨i, f, m, z, S, acc, cs, v4, v5, rfl, hi, rd, rel, g, hw, hq', nq, kp, hc, ha, hacc⟩
      have hS' : SqL K H' a (l.map V.int) := kp.seq (fun z => z) hS
      refine ⟨_, rfl, _, rfl, a, _, rfl, .inl hS', _, _, rfl, rfl, _, rfl, ite2 (fun hlt => ?_) fun hlt => ?_⟩
      · have hlt : i < l.length := by
          have q := of_decide_eq_true hlt
          rw [List.length_map] at q
          omega
        obtain ⟨y, r, hd⟩ : ∃ y r, l.drop i = y :: r := by
          cases e : l.drop i with
          | nil =>
            have q := congrArg List.length e
            rw [List.length_drop, List.length_nil] at q
            omega
          | cons y r => exact ⟨y, r, rfl⟩
        rw [hd] at hc
        obtain ⟨f', c, t, cs', e1, e2, e3⟩ := calls_cons hc
        subst e3
        have fm := form_of e1 (ha c List.mem_cons_self)
        rw [← hd] at fm
        obtain ⟨n, h1, h2, h3, h4⟩ := fm.cut
        have hin : i + n ≤ l.length := by
          rw [List.length_drop] at h2
          omega
        refine ⟨_, rfl, _, rfl, _, rfl, a, l, i, n, c, t, rfl, hS', fm, h2, _, _, rfl, rfl, ?_⟩
        refine ⟨_, rfl, _, rfl, _, rfl, _, rfl, _, rfl, _, rfl, a, _, rfl, hS', fun b hb => ?_⟩
        rw [cut_at l hin]
        have nb : ¬ S b := fun q => by
          obtain ⟨o, e⟩ := rd.has q
          rw [hb] at e
          cases e
        refine ⟨p, b, S, m, z, (l.drop i).take n, c, rfl, rd.keep fun b' o e _ => Same_lay hb _ _ e, rel, g, hw, upd_same, nb, h4, fun H2 S2 m2 l2 rd2 rel2 g2 hw2 kp2 fr2 e2' ns2 => ?_⟩
        have kA : Keep (fun b => S b ∨ b = q) H' (fun b => S b ∨ b = q) (upd H' b (.lst (((l.drop i).take n).map V.int))) := Keep.same (Same_lay hb)
        have q1 : upd H' b (.lst (((l.drop i).take n).map V.int)) q = some (.lst (acc.map V.int)) := Same_lay hb _ _ hq'
        have q2 : H2 q = some (.lst (acc.map V.int)) := kp2.kept _ _ q1 nq
        have nq2 : ¬ S2 q := kp2.out q1 nq
        have nlq : l2 ≠ q := fun z => nq (by rw [z] at fr2; exact fr2 _ q1)
        rw [outs_cons] at hacc
        have hb1 : acc.length + ((Sg04Neutral.step z c).2.length + 1) ≤ 1000200 := by
          have e := congrArg List.length hacc
          rw [List.length_append, List.length_append, List.length_cons] at e
          omega
        have big : (1000200 : Nat) < sizeLine := by decide
        refine ⟨_, rfl, .inl ⟨rfl, _, SqL.of q2⟩, _, rfl, l2, _, rfl, .inl (SqL.of e2'), q, _, _, rfl, rfl, q2, (by rw [List.length_map]; omega), ?_⟩
        have q3 : upd H2 q (.lst (acc.map V.int ++ [V.int (((Sg04Neutral.step z c).2.map V.int).length : Int)])) q = some (.lst (acc.map V.int ++ [V.int (((Sg04Neutral.step z c).2.map V.int).length : Int)])) := upd_same
        have l3 : upd H2 q (.lst (acc.map V.int ++ [V.int (((Sg04Neutral.step z c).2.map V.int).length : Int)])) l2 = some (.lst ((Sg04Neutral.step z c).2.map V.int)) := by rw [upd_ne nlq]; exact e2'
        refine ⟨_, rfl, .inl ⟨rfl, _, SqL.of q3⟩, _, rfl, q, l2, _, _, rfl, rfl, q3, l3, (by rw [List.length_append, List.length_map, List.length_map, List.length_singleton]; omega), ?_⟩
        refine ⟨_, rfl, ?_⟩
        refine ⟨⟨i + n, f', m2, (Sg04Neutral.step z c).1, S2, acc ++ (((Sg04Neutral.step z c).2.length : Int) :: (Sg04Neutral.step z c).2), cs', _, _, rfl, hin, ?_, rel2, g2, hw2, ?_, nq2, ?_, ?_, fun c' hc' => ha c' (List.mem_cons_of_mem _ hc'), ?_⟩, ?_⟩
        · exact rd2.keep fun b' o e hb' => by
            have nb' : b' ≠ q := fun z => nq2 (z ▸ hb')
            rw [upd_ne nb', upd_ne nb']
            exact e
        · rw [upd_same, List.map_append, List.map_cons, List.length_map, List.append_assoc]
          rfl
        · exact ((kp.trans kA).trans (kp2.with q)).trans (Keep.at_q.trans Keep.at_q)
        · rw [← List.drop_drop, h3]
          exact e2
        · rw [List.append_assoc]
          exact hacc
        · show l.length - ((i : Int) + (n : Int)).toNat < l.length - (i : Int).toNat
          omega
      · have hlt : ¬ i < l.length := fun q => hlt (decide_eq_true (by rw [List.length_map]; omega))
        have hd : l.drop i = [] := List.drop_eq_nil_of_le (by omega)
        rw [hd] at hc
        have e := calls_nil f hc
        subst e
        rw [outs_nil, List.append_nil] at hacc
        refine ⟨_, rfl, ?_⟩
        rw [hacc] at hq'
        exact kQ H' q hq'
    · rintro σ H' Q1 Q2 hQ ⟨v, e, v2, e2, p', ys, e3, e4, i', j', e5, e6, c', e7, e8⟩
      exact ⟨v, e, v2, e2, p', ys, e3, e4, i', j', e5, e6, c', e7, hQ _ _ e8⟩
end
end Sr
end
section
set_option Elab.async false
set_option linter.all false
set_option maxRecDepth 100000
set_option maxHeartbeats 2000000
/-! The reader's where, kind, take, fault; call_length and answer_call. -/
namespace Sr
open PySem PySem.Spec PyProof.Rows L2
structure TxA (K : PySem.W.Frag) (mg : Str → Option Value) : Prop where
  gMostOut : GI mg "MOST_OUT_OF_RANGE" (-2)
  gNoneW : GI mg "NONE_WAITS" (-1)
  gTooSmall : GI mg "MOST_TOO_SMALL" (-3)
  gNoKind : GI mg "NO_KIND" 0
  gPlaces : GI mg "PLACES" 2147483648
  gCHand : GI mg "HAND" 1
  gCRun : GI mg "RUN" 2
  gCWhere : GI mg "WHERE" 3
  gCKind : GI mg "KIND" 4
  gCTake : GI mg "TAKE" 5
  gCFault : GI mg "FAULT" 6
def spKind (C : Addr) : Sp := fun vs H Q _ => ∃ (p : Addr) (S : Addr → Prop) (m : Mir), vs = [.ref p] ∧ Rdr C H p S m ∧ Q (.int (kindM m)) H
def spFault (C : Addr) : Sp := fun vs H Q _ => ∃ (p : Addr) (S : Addr → Prop) (m : Mir), vs = [.ref p] ∧ Rdr C H p S m ∧ Q (.int (faultM m)) H
def spTake (C : Addr) : Sp := fun vs H Q _ => ∃ (p : Addr) (S : Addr → Prop) (m : Mir) (x : Int), vs = [.ref p, .int x] ∧ Rdr C H p S m ∧ (∀ t ∈ m.wait, t.2.length ≤ 255) ∧
  ∀ (H' : Hp) (S' : Addr → Prop) (l : Addr), Rdr C H' p S' (takeM m x).1 → Keep S H S' H' → H l = Option.none → H' l = some (.lst ((takeM m x).2.map V.int)) → ¬ S' l → Q (.ref l) H'
theorem iteD {c : Bool} {A B : Prop} (hc : c = true) (h : A) : if c = true then A else B := by rw [if_pos hc]; exact h
theorem iteN {c : Bool} {A B : Prop} (hc : c = false) (h : B) : if c = true then A else B := by rw [hc, if_neg Bool.false_ne_true]; exact h
/-- a list laid behind a call leaves the reader as it is -/
theorem ans_fin {C : Addr} {H H2 : Hp} {p l : Addr} {S S2 : Addr → Prop} {m : Mir} {o : HO} (rd : Rdr C H2 p S2 m) (kp : Keep S H S2 H2) (hl : H2 l = Option.none) :
    Rdr C (upd H2 l o) p S2 m ∧ Keep S H S2 (upd H2 l o) ∧ (∀ u, H l = some u → S l) ∧ ¬ S2 l := by
  refine ⟨rd.keep fun b u e _ => Same_lay hl _ _ e, kp.trans (Keep.same (Same_lay hl)), fun u e => ?_, fun z => ?_⟩
  · by_cases h : S l
    · exact h
    · rw [kp.kept _ _ e h] at hl
      cases hl
  · obtain ⟨u, e⟩ := rd.has z
    rw [hl] at e
    cases e
theorem RdrAt.pop {C : Addr} {H : Hp} {p dx cur wt : Addr} {a : Addr × Addr} {tk : List (Addr × Addr)} {m : Mir} {t : Int × List Int} {ts : List (Int × List Int)} (r : RdrAt C H p dx cur wt (a :: tk) m) (hm : m.wait = t :: ts) :
    RdrAt C (upd H wt (.lst (tk.map fun t => V.ref t.1))) p dx cur wt tk { m with wait := ts } ∧ Keep (own p cur wt (a :: tk)) H (own p cur wt tk) (upd H wt (.lst (tk.map fun t => V.ref t.1))) := by
  have ht := r.toks
  rw [hm] at ht
  have q : ∀ b o, H b = some o → b ≠ wt → upd H wt (.lst (tk.map fun t => V.ref t.1)) b = some o := fun b o e hb => by rw [upd_ne hb]; exact e
  refine ⟨⟨q _ _ r.obj r.npw, q _ _ r.hcur r.ncw, upd_same, ?_, r.ncw, fun t' h => r.nct t' (List.mem_cons_of_mem _ h)⟩, ⟨fun b h => .inl ?_, fun b o e n => q b o e fun z => n (.inr (.inr (.inl z)))⟩⟩
  · refine TokL.keep (H := H) ht.2 fun t' h => ⟨fun o e => q _ _ e ?_, fun o e => q _ _ e (r.nct t' (List.mem_cons_of_mem _ h)).2⟩
    obtain ⟨xs, e2⟩ := TokL.tup ht.2 t' h
    exact ne_of e2 r.hwt (by intro z; cases z)
  · rcases h with h | h | h | ⟨t', h1, h2⟩
    · exact .inl h
    · exact .inr (.inl h)
    · exact .inr (.inr (.inl h))
    · exact .inr (.inr (.inr ⟨t', List.mem_cons_of_mem _ h1, h2⟩))
section
variable {P : Program} {w : World} {K : PySem.W.Frag} {mg : Str → Option Value} {base : Heap} {C D aB aM : Addr} {f : Addr} {fd : FuncData}
theorem scWhere : FnScope ["self"] ["self"] (defScope sWhere) := ⟨rfl, rfl, rfl, by decide +kernel, rfl, by decide +kernel, by decide +kernel⟩
theorem ok_where (F : Fun K "where" "Reader.where" sWhere f fd) (Tr : TxR K mg C) : FnOk P w K mg base CX0 1 f fd ["self"] (spWhere C) := by
  refine F.ok scWhere (fun vs H Q E h => ?_) (fun cdv A outer s H vs Q E hr h => ?_)
  · obtain ⟨p, S, m, rfl, _⟩ := h
    rfl
  · obtain ⟨p, S, m, rfl, hR, k⟩ := h
    refine ⟨_, pss_one (ps_ret (pe_fld (pv 0) rfl)), ?_⟩
    obtain ⟨dx, cur, wt, tk, rfl, r⟩ := hR
    exact ⟨_, rfl, p, C, dx, _, _, rfl, r.obj, Tr.cl, Tr.nState, rf_state .., k⟩
theorem scFault : FnScope ["self"] ["self"] (defScope sFault) := ⟨rfl, rfl, rfl, by decide +kernel, rfl, by decide +kernel, by decide +kernel⟩
theorem ok_fault (F : Fun K "fault" "Reader.fault" sFault f fd) (Tr : TxR K mg C) (Ta : TxA K mg) : FnOk P w K mg base CX0 1 f fd ["self"] (spFault C) := by
  refine F.ok scFault (fun vs H Q E h => ?_) (fun cdv A outer s H vs Q E hr h => ?_)
  · obtain ⟨p, S, m, rfl, _⟩ := h
    rfl
  · obtain ⟨p, S, m, rfl, hR, k⟩ := h
    refine ⟨_, pss_cons (ps_if (pt_cmp (pc_eqI (pe_fld (pv 0) rfl) (pe_gi Tr.gNoPlace))) (pss_one (ps_ret (pe_gi Tr.gNoPlace))) pss_nil)
      (pss_one (ps_ret (pe_op op_mod (pe_fld (pv 0) rfl) (pe_gi Ta.gPlaces)))), ?_⟩
    obtain ⟨dx, cur, wt, tk, rfl, r⟩ := hR
    refine ⟨_, rfl, p, C, dx, _, _, rfl, r.obj, Tr.cl, Tr.nFault, rf_fault .., m.flt, -1, rfl, rfl, _, rfl, ite2 (fun h => ?_) fun h => ?_⟩
    · have e : faultM m = -1 := if_pos (of_decide_eq_true h)
      rw [e] at k
      exact k
    · have e : faultM m = m.flt % 2147483648 := if_neg fun z => h (decide_eq_true z)
      rw [e] at k
      exact ⟨_, rfl, p, C, dx, _, _, rfl, r.obj, Tr.cl, Tr.nFault, rf_fault .., m.flt, 2147483648, rfl, rfl, (by show (0 : Int) < 2147483648; decide), k⟩
theorem scKind : FnScope ["self"] ["self"] (defScope sKind) := ⟨rfl, rfl, rfl, by decide +kernel, rfl, by decide +kernel, by decide +kernel⟩
theorem ok_kind (F : Fun K "kind" "Reader.kind" sKind f fd) (Tr : TxR K mg C) (Ta : TxA K mg) : FnOk P w K mg base CX0 1 f fd ["self"] (spKind C) := by
  refine F.ok scKind (fun vs H Q E h => ?_) (fun cdv A outer s H vs Q E hr h => ?_)
  · obtain ⟨p, S, m, rfl, _⟩ := h
    rfl
  · obtain ⟨p, S, m, rfl, hR, k⟩ := h
    refine ⟨_, pss_cons (ps_if (pt_cmp (pc_eqI (pe_callB call_len_seq (by rfl) Tr.len PySem.boot_len (pa_cons (pe_fld (pv 0) rfl) pa_nil)) pe_int)) (pss_one (ps_ret (pe_gi Ta.gNoKind))) pss_nil)
      (pss_one (ps_ret (pe_ix ix_tup (pe_ix ix_list (pe_fld (pv 0) rfl) pe_int (fun _ _ => rfl)) pe_int (fun _ _ => rfl)))), ?_⟩
    obtain ⟨dx, cur, wt, tk, rfl, r⟩ := hR
    have ht := r.toks
    refine ⟨_, rfl, p, C, dx, _, _, rfl, r.obj, Tr.cl, Tr.nWaiting, rf_waiting .., wt, _, rfl, .inl (SqL.of r.hwt), _, 0, rfl, rfl, _, rfl, ite2 (fun h => ?_) fun h => ?_⟩
    · have h := of_decide_eq_true h
      have e : kindM m = 0 := by
        have hl := ht.len
        rw [List.length_map] at h
        unfold kindM
        cases e : m.wait with
        | nil => rfl
        | cons t ts =>
          rw [e, List.length_cons] at hl
          omega
      rw [e] at k
      exact k
    · cases tk with
      | nil => exact absurd (by rfl) h
      | cons a tk =>
        cases e : m.wait with
        | nil =>
          rw [e] at ht
          exact ht.elim
        | cons t ts =>
          rw [e] at ht
          have ek : kindM m = t.1 := by unfold kindM; rw [e]
          rw [ek] at k
          exact ⟨_, rfl, p, C, dx, _, _, rfl, r.obj, Tr.cl, Tr.nWaiting, rf_waiting .., wt, _, 0, .ref a.1, rfl, rfl, SqL.of r.hwt, atI_nat (j := 0) rfl, a.1, _, 0, .int t.1, rfl, rfl, SqT.of ht.1.1, atI_nat (j := 0) rfl, k⟩
theorem scTake : FnScope ["self", "most", "content"] ["self", "most"] (defScope sTake) := ⟨rfl, rfl, rfl, by decide +kernel, rfl, by decide +kernel, by decide +kernel⟩
theorem ok_take (F : Fun K "take" "Reader.take" sTake f fd) (Tr : TxR K mg C) (Ta : TxA K mg) : FnOk P w K mg base CX0 1 f fd ["self", "most"] (spTake C) := by
  refine F.ok scTake (fun vs H Q E h => ?_) (fun cdv A outer s H vs Q E hr h => ?_)
  · obtain ⟨p, S, m, x, rfl, _⟩ := h
    rfl
  · obtain ⟨p, S, m, x, rfl, hR, hz, kQ⟩ := h
    refine ⟨_, pss_cons (ps_if (PW.pt (pw_or (pt_cmp (pc_lt (pv 1) pe_int)) (pw_or1 (pt_cmp (pc_gt (pv 1) (pe_gi Tr.gMost)))))) (pss_one (ps_ret (pe_lst (pa_cons (pe_gi Ta.gMostOut) pa_nil)))) pss_nil)
      (pss_cons (ps_if (pt_cmp (pc_eqI (pe_callB call_len_seq (by rfl) Tr.len PySem.boot_len (pa_cons (pe_fld (pv 0) rfl) pa_nil)) pe_int)) (pss_one (ps_ret (pe_lst (pa_cons (pe_gi Ta.gNoneW) pa_nil)))) pss_nil)
      (pss_cons (ps_set (i := 2) scTake.nd rfl (Or.inl rfl) (pe_ix ix_tup (pe_ix ix_list (pe_fld (pv 0) rfl) pe_int (fun _ _ => rfl)) pe_int (fun _ _ => rfl)))
      (pss_cons (ps_if (pt_cmp (pc_lt (pv 1) (pe_callB call_len_seq (by rfl) Tr.len PySem.boot_len (pa_cons (pv 2) pa_nil)))) (pss_one (ps_ret (pe_lst (pa_cons (pe_gi Ta.gTooSmall) pa_nil)))) pss_nil)
      (pss_cons (ps_expr (pe_bm PySem.F.plainAttrs_list PySem.F.slot_list_pop PySem.F.type_list_pop mt_popAt (pe_fld (pv 0) rfl) (pa_cons pe_int pa_nil)))
      (pss_one (ps_ret (pe_op op_cat (pe_lst (pa_cons (pe_callB call_len_seq (by rfl) Tr.len PySem.boot_len (pa_cons (pv 2) pa_nil)) pa_nil)) (pv 2)))))))), ?_⟩
    have hR0 := hR
    have fin : ∀ (l : Addr) (z : Int), H l = Option.none → takeM m x = (m, [z]) → Q (.ref l) (upd H l (.lst [.int z])) := fun l z hl e => by
      rw [e] at kQ
      obtain ⟨h1, h2, _, h4⟩ := ans_fin (o := .lst [.int z]) hR0 Keep.refl hl
      exact kQ _ _ l h1 h2 hl upd_same h4
    obtain ⟨dx, cur, wt, tk, rfl, r⟩ := hR
    refine ⟨_, rfl, x, 0, rfl, rfl, _, rfl, ite2 (fun h => iteT ?_) fun h => ⟨_, rfl, x, 255, rfl, rfl, _, rfl, ite2 (fun h2 => ?_) fun h2 => ?_⟩⟩
    · exact ⟨(by show 1 ≤ sizeLine; decide), fun l hl => fin l (-2) hl (if_pos (.inl (of_decide_eq_true h)))⟩
    · exact ⟨(by show 1 ≤ sizeLine; decide), fun l hl => fin l (-2) hl (if_pos (.inr (of_decide_eq_true h2)))⟩
    have hx : ¬ (x < 0 ∨ 255 < x) := fun z => z.elim (fun z => h (decide_eq_true z)) fun z => h2 (decide_eq_true z)
    have e0 : takeM m x = (match m.wait with
      | [] => (m, [-1])
      | t :: r => if x < (t.2.length : Int) then (m, [-3]) else ({ m with wait := r }, (t.2.length : Int) :: t.2)) := if_neg hx
    have ht := r.toks
    refine ⟨_, rfl, p, C, dx, _, _, rfl, r.obj, Tr.cl, Tr.nWaiting, rf_waiting .., wt, _, rfl, .inl (SqL.of r.hwt), _, 0, rfl, rfl, _, rfl, ite2 (fun h3 => ?_) fun h3 => ?_⟩
    · have h3 := of_decide_eq_true h3
      have e : m.wait = [] := by
        have hl := ht.len
        rw [List.length_map] at h3
        cases e : m.wait with
        | nil => rfl
        | cons t ts =>
          rw [e, List.length_cons] at hl
          omega
      rw [e] at e0
      exact ⟨(by show 1 ≤ sizeLine; decide), fun l hl => fin l (-1) hl e0⟩
    cases tk with
    | nil => exact absurd (by rfl) h3
    | cons a tk =>
      cases e : m.wait with
      | nil =>
        rw [e] at ht
        exact ht.elim
      | cons t ts =>
        rw [e] at ht e0 hz
        have e0 : takeM m x = (if x < (t.2.length : Int) then (m, [-3]) else ({ m with wait := ts }, (t.2.length : Int) :: t.2)) := e0
        have hc := ht.1.2
        have hl := hz t List.mem_cons_self
        refine ⟨_, rfl, p, C, dx, _, _, rfl, r.obj, Tr.cl, Tr.nWaiting, rf_waiting .., wt, _, 0, .ref a.1, rfl, rfl, SqL.of r.hwt, atI_nat (j := 0) rfl, a.1, _, 1, .ref a.2, rfl, rfl, SqT.of ht.1.1, atI_nat (j := 1) rfl, ?_⟩
        refine ⟨_, rfl, _, rfl, a.2, _, rfl, .inl (SqL.of hc), x, _, rfl, rfl, _, rfl, ite2 (fun h4 => ?_) fun h4 => ?_⟩
        · have h4 := of_decide_eq_true h4
          rw [List.length_map] at h4
          rw [if_pos h4] at e0
          exact ⟨(by show 1 ≤ sizeLine; decide), fun l hl => fin l (-3) hl e0⟩
        · have h4 : ¬ x < (t.2.length : Int) := fun z => h4 (decide_eq_true (by rw [List.length_map]; exact z))
          rw [if_neg h4] at e0
          rw [e0] at kQ
          obtain ⟨r1, k1⟩ := r.pop e
          have n1 : a.2 ≠ wt := (r.nct a List.mem_cons_self).2
          have hc1 : upd H wt (.lst (tk.map fun t => V.ref t.1)) a.2 = some (.lst (t.2.map V.int)) := by rw [upd_ne n1]; exact hc
          refine ⟨_, rfl, p, C, dx, _, _, rfl, r.obj, Tr.cl, Tr.nWaiting, rf_waiting .., .inl ⟨rfl, _, SqL.of r.hwt⟩, wt, _, 0, 0, .ref a.1, rfl, rfl, r.hwt, (by decide), (by decide), PySem.seqIndex_of (by decide) (by rw [List.length_map, List.length_cons]; omega), rfl, ?_⟩
          have fr : ∀ b, upd H wt (.lst (tk.map fun t => V.ref t.1)) b = Option.none → H b = Option.none := fun b hb => by
            cases q : H b with
            | none => rfl
            | some o =>
              by_cases z : b = wt
              · rw [z, upd_same] at hb
                cases hb
              · rw [upd_ne z, q] at hb
                cases hb
          show Ends.nx _ _ (upd H wt (.lst (tk.map fun t => V.ref t.1)))
          generalize upd H wt (.lst (tk.map fun t => V.ref t.1)) = H1 at r1 k1 hc1 fr
          refine ⟨_, rfl, a.2, _, rfl, .inl (SqL.of hc1), (by show 1 ≤ sizeLine; decide), fun l1 hl1 => ?_⟩
          refine ⟨_, rfl, l1, a.2, _, _, rfl, rfl, upd_same, Same_lay hl1 _ _ hc1, (by rw [List.length_map, List.length_singleton]; exact Nat.le_of_lt (line_of' (by omega))), fun l2 hl2 => ?_⟩
          have rd1 : Rdr C H1 p (own p cur wt tk) { m with wait := ts } := ⟨dx, cur, wt, tk, rfl, r1⟩
          obtain ⟨rd2, k2, _, _⟩ := ans_fin (o := .lst [.int ((t.2.map V.int).length : Int)]) rd1 k1 hl1
          obtain ⟨rd3, k3, _, n3⟩ := ans_fin (o := .lst ([.int ((t.2.map V.int).length : Int)] ++ t.2.map V.int)) rd2 k2 hl2
          have fl2 : H1 l2 = Option.none := (Same_lay (o := .lst [.int ((t.2.map V.int).length : Int)]) hl1).free hl2
          refine kQ _ _ l2 rd3 k3 (fr l2 fl2) ?_ n3
          rw [upd_same, List.length_map]
          rfl
/-! ### call_length -/
theorem scCallLen : FnScope ["calls", "at", "call"] ["calls", "at"] (defScope sCallLen) := ⟨rfl, rfl, rfl, by decide +kernel, rfl, by decide +kernel, by decide +kernel⟩
theorem ok_callLen (F : Fun K "call_length" "call_length" sCallLen f fd) (Ta : TxA K mg) : FnOk P w K mg base CX0 1 f fd ["calls", "at"] (spCallLen K) := by
  refine F.ok scCallLen (fun vs H Q E h => ?_) (fun cdv A outer s H vs Q E hr h => ?_)
  · obtain ⟨a, l, i, n, c, t, rfl, _⟩ := h
    rfl
  · obtain ⟨a, l, i, n, c, t, rfl, hS, hf, hn, k⟩ := h
    refine ⟨_, pss_cons (ps_set (i := 2) scCallLen.nd rfl (Or.inl rfl) (pe_ix ix_list (pv 0) (pv 1) (fun _ _ => rfl)))
      (pss_cons (ps_if (pt_cmp (pc_eqI (pv 2) (pe_gi Ta.gCHand))) (pss_one (ps_ret pe_int)) pss_nil)
      (pss_cons (ps_if (pt_cmp (pc_eqI (pv 2) (pe_gi Ta.gCRun))) (pss_one (ps_ret (pe_op op_add pe_int (pe_ix ix_list (pv 0) (pe_op op_add (pv 1) pe_int) (fun _ _ => rfl))))) pss_nil)
      (pss_cons (ps_if (pt_cmp (pc_eqI (pv 2) (pe_gi Ta.gCTake))) (pss_one (ps_ret pe_int)) pss_nil)
      (pss_cons (ps_if (PW.pt (pw_or (pt_cmp (pc_eqI (pv 2) (pe_gi Ta.gCWhere))) (pw_or (pt_cmp (pc_eqI (pv 2) (pe_gi Ta.gCKind))) (pw_or1 (pt_cmp (pc_eqI (pv 2) (pe_gi Ta.gCFault))))))) (pss_one (ps_ret pe_int)) pss_nil)
      (pss_one ps_never))))), ?_⟩
    generalize hx : l.drop i = x at hf hn
    have at0 : ∀ (y : Int) (r : List Int), x = y :: r → atI (l.map V.int) (i : Int) = some (.int y) := fun y r e => by
      have q := congrArg (fun z : List Int => z[0]?) (hx.trans e)
      have q : (l.drop i)[0]? = some y := q
      rw [List.getElem?_drop] at q
      exact atI_nat (by rw [List.getElem?_map]; exact congrArg (Option.map V.int) q)
    have at1 : ∀ (y z : Int) (r : List Int), x = y :: z :: r → atI (l.map V.int) ((i : Int) + 1) = some (.int z) := fun y z r e => by
      have q := congrArg (fun z : List Int => z[1]?) (hx.trans e)
      have q : (l.drop i)[1]? = some z := q
      rw [List.getElem?_drop] at q
      exact atI_nat (j := i + 1) (by rw [List.getElem?_map, q]; rfl)
    cases hf with
    | hand kk xx t h0 h1 =>
      have en : n = 3 := by simp only [List.length_cons] at hn; omega
      subst en
      exact ⟨_, rfl, _, rfl, a, _, _, _, rfl, rfl, hS, at0 _ _ rfl, _, rfl, 1, 1, rfl, rfl, _, rfl, iteD (by decide) k⟩
    | run b t h =>
      have en : n = 2 + b.length := by simp only [List.length_cons, List.length_append] at hn; omega
      subst en
      exact ⟨_, rfl, _, rfl, a, _, _, _, rfl, rfl, hS, at0 _ _ rfl, _, rfl, 2, 1, rfl, rfl, _, rfl, iteN (by decide) ⟨_, rfl, 2, 2, rfl, rfl, _, rfl, iteD (by decide)
        ⟨_, rfl, _, rfl, _, 1, rfl, rfl, a, _, _, _, rfl, rfl, hS, at1 _ _ _ rfl, 2, _, rfl, rfl, k⟩⟩⟩
    | where_ t =>
      have en : n = 1 := by simp only [List.length_cons] at hn; omega
      subst en
      exact ⟨_, rfl, _, rfl, a, _, _, _, rfl, rfl, hS, at0 _ _ rfl, _, rfl, 3, 1, rfl, rfl, _, rfl, iteN (by decide) ⟨_, rfl, 3, 2, rfl, rfl, _, rfl, iteN (by decide) ⟨_, rfl, 3, 5, rfl, rfl, _, rfl, iteN (by decide)
        ⟨_, rfl, 3, 3, rfl, rfl, _, rfl, iteD (by decide) (iteT k)⟩⟩⟩⟩
    | kind t =>
      have en : n = 1 := by simp only [List.length_cons] at hn; omega
      subst en
      exact ⟨_, rfl, _, rfl, a, _, _, _, rfl, rfl, hS, at0 _ _ rfl, _, rfl, 4, 1, rfl, rfl, _, rfl, iteN (by decide) ⟨_, rfl, 4, 2, rfl, rfl, _, rfl, iteN (by decide) ⟨_, rfl, 4, 5, rfl, rfl, _, rfl, iteN (by decide)
        ⟨_, rfl, 4, 3, rfl, rfl, _, rfl, iteN (by decide) ⟨_, rfl, 4, 4, rfl, rfl, _, rfl, iteD (by decide) (iteT k)⟩⟩⟩⟩⟩
    | take mm t =>
      have en : n = 2 := by simp only [List.length_cons] at hn; omega
      subst en
      exact ⟨_, rfl, _, rfl, a, _, _, _, rfl, rfl, hS, at0 _ _ rfl, _, rfl, 5, 1, rfl, rfl, _, rfl, iteN (by decide) ⟨_, rfl, 5, 2, rfl, rfl, _, rfl, iteN (by decide) ⟨_, rfl, 5, 5, rfl, rfl, _, rfl, iteD (by decide) k⟩⟩⟩
    | fault t =>
      have en : n = 1 := by simp only [List.length_cons] at hn; omega
      subst en
      exact ⟨_, rfl, _, rfl, a, _, _, _, rfl, rfl, hS, at0 _ _ rfl, _, rfl, 6, 1, rfl, rfl, _, rfl, iteN (by decide) ⟨_, rfl, 6, 2, rfl, rfl, _, rfl, iteN (by decide) ⟨_, rfl, 6, 5, rfl, rfl, _, rfl, iteN (by decide)
        ⟨_, rfl, 6, 3, rfl, rfl, _, rfl, iteN (by decide) ⟨_, rfl, 6, 4, rfl, rfl, _, rfl, iteN (by decide) ⟨_, rfl, 6, 6, rfl, rfl, _, rfl, iteD (by decide) k⟩⟩⟩⟩⟩⟩
/-! ### answer_call -/
theorem cut_tail (x y : Int) (b : List Int) : cutV ((x :: y :: b).map V.int) (some 2) none = b.map V.int := by
  unfold cutV
  rw [show (some (2 : Int)) = some ((2 : Nat) : Int) from rfl, HT.sIx_nat, HT.sIx_none, List.length_map, List.length_cons, List.length_cons, Nat.min_eq_left (show 2 ≤ b.length + 1 + 1 by omega)]
  show (b.map V.int).take (b.length + 1 + 1 - 2) = b.map V.int
  rw [show b.length + 1 + 1 - 2 = (b.map V.int).length by rw [List.length_map]; omega, List.take_length]
theorem scAnsCall : FnScope ["reader", "call"] ["reader", "call"] (defScope sAnsCall) := ⟨rfl, rfl, rfl, by decide +kernel, rfl, by decide +kernel, by decide +kernel⟩
theorem ok_ansCall (F : Fun K "answer_call" "answer_call" sAnsCall f fd) (Tr : TxR K mg C) (Ta : TxA K mg) (GH : MthD P w K mg base 8 C "hand" ["self", "state", "c"] (spHand C)) (GR : MthD P w K mg base 9 C "run" ["self", "cs"] (spRun K C))
    (GW : MthD P w K mg base 1 C "where" ["self"] (spWhere C)) (GK : MthD P w K mg base 1 C "kind" ["self"] (spKind C)) (GT : MthD P w K mg base 1 C "take" ["self", "most"] (spTake C)) (GF : MthD P w K mg base 1 C "fault" ["self"] (spFault C)) :
    FnOk P w K mg base CX0 10 f fd ["reader", "call"] (spAnsCall C) := by
  obtain ⟨fh, fdh, mH, GH, bH⟩ := GH.ex
  obtain ⟨fr, fdr, mR, GR, bR⟩ := GR.ex
  obtain ⟨fw, fdw, mW, GW, bW⟩ := GW.ex
  obtain ⟨fk, fdk, mK, GK, bK⟩ := GK.ex
  obtain ⟨ft, fdt, mT, GT, bT⟩ := GT.ex
  obtain ⟨ff, fdf, mF, GF, bF⟩ := GF.ex
  refine F.ok scAnsCall (fun vs H Q E h => ?_) (fun cdv A outer s H vs Q E hr h => ?_)
  · obtain ⟨p, b, S, m, s, x, c, rfl, _⟩ := h
    rfl
  · obtain ⟨p, b, S, m, z, x, c, rfl, hR, rel, g, hw, hb, nb, hf, k⟩ := h
    have hr1 := hr.mono (show 1 ≤ 9 by decide)
    have hr8 := hr.mono (show 8 ≤ 9 by decide)
    refine ⟨_, pss_cons (ps_if (pt_cmp (pc_eqI (pe_ix ix_list (pv 1) pe_int (fun _ _ => rfl)) (pe_gi Ta.gCHand))) (pss_one (ps_ret (pe_lst (pa_cons (pe_meth (pv 0) Tr.cl mH GH hr8 bH .nil pass0 (pa_cons (pe_ix ix_list (pv 1) pe_int (fun _ _ => rfl)) (pa_cons (pe_ix ix_list (pv 1) pe_int (fun _ _ => rfl)) pa_nil))) pa_nil)))) pss_nil)
      (pss_cons (ps_if (pt_cmp (pc_eqI (pe_ix ix_list (pv 1) pe_int (fun _ _ => rfl)) (pe_gi Ta.gCRun))) (pss_one (ps_ret (pe_lst (pa_cons (pe_meth (pv 0) Tr.cl mR GR hr bR .nil pass0 (pa_cons (pe_slice sl_list (pv 1) (po_some pe_int) po_none) pa_nil)) pa_nil)))) pss_nil)
      (pss_cons (ps_if (pt_cmp (pc_eqI (pe_ix ix_list (pv 1) pe_int (fun _ _ => rfl)) (pe_gi Ta.gCWhere))) (pss_one (ps_ret (pe_lst (pa_cons (pe_meth0 (pv 0) Tr.cl mW GW hr1 bW .nil pass0) pa_nil)))) pss_nil)
      (pss_cons (ps_if (pt_cmp (pc_eqI (pe_ix ix_list (pv 1) pe_int (fun _ _ => rfl)) (pe_gi Ta.gCKind))) (pss_one (ps_ret (pe_lst (pa_cons (pe_meth0 (pv 0) Tr.cl mK GK hr1 bK .nil pass0) pa_nil)))) pss_nil)
      (pss_cons (ps_if (pt_cmp (pc_eqI (pe_ix ix_list (pv 1) pe_int (fun _ _ => rfl)) (pe_gi Ta.gCTake))) (pss_one (ps_ret (pe_meth (pv 0) Tr.cl mT GT hr1 bT .nil pass0 (pa_cons (pe_ix ix_list (pv 1) pe_int (fun _ _ => rfl)) pa_nil)))) pss_nil)
      (pss_one (ps_ret (pe_lst (pa_cons (pe_meth0 (pv 0) Tr.cl mF GF hr1 bF .nil pass0) pa_nil)))))))), ?_⟩
    have hR0 := hR
    have ok := rel.okM g hw
    obtain ⟨dx, cur, wt, tk, rfl, r⟩ := hR
    cases hf with
    | hand kk xx _ h0 h1 =>
      refine ⟨_, rfl, b, _, 0, .int 1, rfl, rfl, SqL.of hb, atI_nat (j := 0) rfl, 1, 1, rfl, rfl, _, rfl, iteD (by decide) ?_⟩
      refine ⟨_, rfl, p, dx, _, rfl, r.obj, rf_no _ _ _ (by decide +kernel), _, rfl, b, _, 1, .int kk, rfl, rfl, SqL.of hb, atI_nat (j := 1) rfl, _, rfl, b, _, 2, .int xx, rfl, rfl, SqL.of hb, atI_nat (j := 2) rfl, p, _, m, kk, xx, rfl, hR0, ok, fun H1 S1 rd1 kp1 => ⟨(by show 1 ≤ sizeLine; decide), fun l hl => ?_⟩⟩
      have hh := hand_ok (k := Sg04Neutral.stateOf kk.toNat) (c := xx) rel g
      rw [num_stateOf h0 h1] at hh
      rw [step_hand] at k
      rcases hh with ⟨t, m', e1, e2, rel', g', hw'⟩ | ⟨e1, e2⟩
      · rw [e1] at k
        rw [e2] at rd1 ⊢
        obtain ⟨q1, q2, q3, q4⟩ := ans_fin (o := .lst [.int (num t.state)]) rd1 kp1 hl
        exact k _ _ _ l q1 rel' g' hw' q2 q3 upd_same q4
      · rw [e1] at k
        rw [e2] at rd1 ⊢
        obtain ⟨q1, q2, q3, q4⟩ := ans_fin (o := .lst [.int (-1)]) rd1 kp1 hl
        exact k _ _ _ l q1 rel g hw q2 q3 upd_same q4
    | run bb _ h2 =>
      refine ⟨_, rfl, b, _, 0, .int 2, rfl, rfl, SqL.of hb, atI_nat (j := 0) rfl, 2, 1, rfl, rfl, _, rfl, iteN (by decide) ?_⟩
      refine ⟨_, rfl, b, _, 0, .int 2, rfl, rfl, SqL.of hb, atI_nat (j := 0) rfl, 2, 2, rfl, rfl, _, rfl, iteD (by decide) ?_⟩
      refine ⟨_, rfl, p, dx, _, rfl, r.obj, rf_no _ _ _ (by decide +kernel), _, rfl, 2, rfl, b, _, rfl, SqL.of hb, fun a ha => ?_⟩
      rw [cut_tail, List.append_nil]
      have na : ¬ own p cur wt tk a := fun q => by
        obtain ⟨o, e⟩ := Rdr.some_of r q
        rw [ha] at e
        cases e
      have kp0 : Keep (own p cur wt tk) H (own p cur wt tk) (upd H a (.lst (bb.map V.int))) := Keep.same (Same_lay ha)
      refine ⟨p, a, _, m, z, bb, rfl, hR0.keep fun b' o e _ => Same_lay ha _ _ e, rel, g, hw, SqL.of upd_same, na, fun H1 S1 rd1 kp1 => ⟨(by show 1 ≤ sizeLine; decide), fun l hl => ?_⟩⟩
      obtain ⟨rel', g', hw', ev⟩ := run_ok bb rel g hw
      rw [step_run] at k
      obtain ⟨q1, q2, q3, q4⟩ := ans_fin (o := .lst [.int (runM m bb).2]) rd1 (kp0.trans kp1) hl
      exact k _ _ _ l q1 rel' g' hw' q2 q3 (by rw [upd_same, ev]; rfl) q4
    | where_ =>
      refine ⟨_, rfl, b, _, 0, .int 3, rfl, rfl, SqL.of hb, atI_nat (j := 0) rfl, 3, 1, rfl, rfl, _, rfl, iteN (by decide) ?_⟩
      refine ⟨_, rfl, b, _, 0, .int 3, rfl, rfl, SqL.of hb, atI_nat (j := 0) rfl, 3, 2, rfl, rfl, _, rfl, iteN (by decide) ?_⟩
      refine ⟨_, rfl, b, _, 0, .int 3, rfl, rfl, SqL.of hb, atI_nat (j := 0) rfl, 3, 3, rfl, rfl, _, rfl, iteD (by decide) ?_⟩
      refine ⟨_, rfl, p, dx, _, rfl, r.obj, rf_no _ _ _ (by decide +kernel), p, _, m, rfl, hR0, (by show 1 ≤ sizeLine; decide), fun l hl => ?_⟩
      rw [step_where] at k
      obtain ⟨q1, q2, q3, q4⟩ := ans_fin (o := .lst [.int m.st]) hR0 Keep.refl hl
      exact k _ _ _ l q1 rel g hw q2 q3 (by rw [upd_same, rel.st]; rfl) q4
    | kind =>
      refine ⟨_, rfl, b, _, 0, .int 4, rfl, rfl, SqL.of hb, atI_nat (j := 0) rfl, 4, 1, rfl, rfl, _, rfl, iteN (by decide) ?_⟩
      refine ⟨_, rfl, b, _, 0, .int 4, rfl, rfl, SqL.of hb, atI_nat (j := 0) rfl, 4, 2, rfl, rfl, _, rfl, iteN (by decide) ?_⟩
      refine ⟨_, rfl, b, _, 0, .int 4, rfl, rfl, SqL.of hb, atI_nat (j := 0) rfl, 4, 3, rfl, rfl, _, rfl, iteN (by decide) ?_⟩
      refine ⟨_, rfl, b, _, 0, .int 4, rfl, rfl, SqL.of hb, atI_nat (j := 0) rfl, 4, 4, rfl, rfl, _, rfl, iteD (by decide) ?_⟩
      refine ⟨_, rfl, p, dx, _, rfl, r.obj, rf_no _ _ _ (by decide +kernel), p, _, m, rfl, hR0, (by show 1 ≤ sizeLine; decide), fun l hl => ?_⟩
      rw [step_kind] at k
      obtain ⟨q1, q2, q3, q4⟩ := ans_fin (o := .lst [.int (kindM m)]) hR0 Keep.refl hl
      exact k _ _ _ l q1 rel g hw q2 q3 (by rw [upd_same, kind_ok rel]; rfl) q4
    | take mm =>
      refine ⟨_, rfl, b, _, 0, .int 5, rfl, rfl, SqL.of hb, atI_nat (j := 0) rfl, 5, 1, rfl, rfl, _, rfl, iteN (by decide) ?_⟩
      refine ⟨_, rfl, b, _, 0, .int 5, rfl, rfl, SqL.of hb, atI_nat (j := 0) rfl, 5, 2, rfl, rfl, _, rfl, iteN (by decide) ?_⟩
      refine ⟨_, rfl, b, _, 0, .int 5, rfl, rfl, SqL.of hb, atI_nat (j := 0) rfl, 5, 3, rfl, rfl, _, rfl, iteN (by decide) ?_⟩
      refine ⟨_, rfl, b, _, 0, .int 5, rfl, rfl, SqL.of hb, atI_nat (j := 0) rfl, 5, 4, rfl, rfl, _, rfl, iteN (by decide) ?_⟩
      refine ⟨_, rfl, b, _, 0, .int 5, rfl, rfl, SqL.of hb, atI_nat (j := 0) rfl, 5, 5, rfl, rfl, _, rfl, iteD (by decide) ?_⟩
      refine ⟨_, rfl, p, dx, _, rfl, r.obj, rf_no _ _ _ (by decide +kernel), _, rfl, b, _, 1, .int mm, rfl, rfl, SqL.of hb, atI_nat (j := 1) rfl, p, _, m, mm, rfl, hR0, take_toks rel g, fun H1 S1 l rd1 kp1 hl e1 n1 => ?_⟩
      obtain ⟨rel', g', hw', ev⟩ := take_ok (x := mm) rel g hw
      exact k _ _ _ l rd1 rel' g' hw' kp1 (fun o e => by rw [hl] at e; cases e) (by rw [← ev]; exact e1) n1
    | fault =>
      refine ⟨_, rfl, b, _, 0, .int 6, rfl, rfl, SqL.of hb, atI_nat (j := 0) rfl, 6, 1, rfl, rfl, _, rfl, iteN (by decide) ?_⟩
      refine ⟨_, rfl, b, _, 0, .int 6, rfl, rfl, SqL.of hb, atI_nat (j := 0) rfl, 6, 2, rfl, rfl, _, rfl, iteN (by decide) ?_⟩
      refine ⟨_, rfl, b, _, 0, .int 6, rfl, rfl, SqL.of hb, atI_nat (j := 0) rfl, 6, 3, rfl, rfl, _, rfl, iteN (by decide) ?_⟩
      refine ⟨_, rfl, b, _, 0, .int 6, rfl, rfl, SqL.of hb, atI_nat (j := 0) rfl, 6, 4, rfl, rfl, _, rfl, iteN (by decide) ?_⟩
      refine ⟨_, rfl, b, _, 0, .int 6, rfl, rfl, SqL.of hb, atI_nat (j := 0) rfl, 6, 5, rfl, rfl, _, rfl, iteN (by decide) ?_⟩
      refine ⟨_, rfl, p, dx, _, rfl, r.obj, rf_no _ _ _ (by decide +kernel), p, _, m, rfl, hR0, (by show 1 ≤ sizeLine; decide), fun l hl => ?_⟩
      rw [step_fault] at k
      obtain ⟨q1, q2, q3, q4⟩ := ans_fin (o := .lst [.int (faultM m)]) hR0 Keep.refl hl
      exact k _ _ _ l q1 rel g hw q2 q3 (by rw [upd_same, fault_ok rel]; rfl) q4
end
end Sr
end
section
set_option Elab.async false
set_option linter.all false
set_option maxRecDepth 100000
set_option maxHeartbeats 8000000
namespace Sr
open PySem PySem.Spec PyProof.Rows L2
theorem vals_refs : ∀ fs : List Addr, Vals (fs.map V.ref) (fs.map Value.ref)
  | [] => .nil
  | _ :: fs => .cons rfl (vals_refs fs)
theorem all_mk {P : Program} {w : World} {K : PySem.W.Frag} {h : Heap} {mg : Str → Option Value} {C D aB aM aS fStepInit fGoes fAdds fFinishes fWrong fIsLetter fIsDigit fIsE fHexValue fStart fFas fWord fMinus fZero fWhole fPoint fFraction fE fSign fExponent fText fEscape fHex fLow fComment fStepsOf fCount fCallLen fAnsCall fAnswers fRInit fGoWrong fAddByte fDoStep fHand fRun fWhere fKind fTake fFault : Addr}
    {tStart tWord tMinus tZero tWhole tPoint tFraction tE tSign tExponent tText tEscape tHex tLow tComment tOver tEnd tKWord tKWhole tKNumber tKText tKMark tRefused tNoPlace tHighest tMost tMostW tMostOut tNoneW tTooSmall tNoKind tPlaces tCHand tCRun tCWhere tCKind tCTake tCFault uGo uAdd uHigh uLowD uFinish uWrongD b0 b1 b2 b3 q0 q1 q2 q3 q4 q5 q6 : Tok} {odB odM odStepInit anStepInit odGoes anGoes odAdds anAdds odFinishes anFinishes odWrong anWrong odIsLetter anIsLetter odIsDigit anIsDigit odIsE anIsE odHexValue anHexValue odStart anStart odFas anFas odWord anWord odMinus anMinus odZero anZero odWhole anWhole odPoint anPoint odFraction anFraction odE anE odSign anSign odExponent anExponent odText anText odEscape anEscape odHex anHex odLow anLow odComment anComment odStepsOf anStepsOf odCount anCount odCallLen anCallLen odAnsCall anAnsCall odAnswers anAnswers odS odRInit anRInit odGoWrong anGoWrong odAddByte anAddByte odDoStep anDoStep odHand anHand odRun anRun odWhere anWhere odKind anKind odTake anTake odFault anFault : Option Addr} {slB slM slStepInit slGoes slAdds slFinishes slWrong slIsLetter slIsDigit slIsE slHexValue slStart slFas slWord slMinus slZero slWhole slPoint slFraction slE slSign slExponent slText slEscape slHex slLow slComment slStepsOf slCount slCallLen slAnsCall slAnswers slS slRInit slGoWrong slAddByte slDoStep slHand slRun slWhere slKind slTake slFault : Array (Option Value)} {nB nM nS : Nat}
    {ocStepInit kVStepInit dcStepInit pmStepInit cdStepInit ctStepInit ocGoes kVGoes dcGoes pmGoes cdGoes ctGoes ocAdds kVAdds dcAdds pmAdds cdAdds ctAdds ocFinishes kVFinishes dcFinishes pmFinishes cdFinishes ctFinishes ocWrong kVWrong dcWrong pmWrong cdWrong ctWrong ocIsLetter kVIsLetter dcIsLetter pmIsLetter cdIsLetter ctIsLetter ocIsDigit kVIsDigit dcIsDigit pmIsDigit cdIsDigit ctIsDigit ocIsE kVIsE dcIsE pmIsE cdIsE ctIsE ocHexValue kVHexValue dcHexValue pmHexValue cdHexValue ctHexValue ocStart kVStart dcStart pmStart cdStart ctStart ocFas kVFas dcFas pmFas cdFas ctFas ocWord kVWord dcWord pmWord cdWord ctWord ocMinus kVMinus dcMinus pmMinus cdMinus ctMinus ocZero kVZero dcZero pmZero cdZero ctZero ocWhole kVWhole dcWhole pmWhole cdWhole ctWhole ocPoint kVPoint dcPoint pmPoint cdPoint ctPoint ocFraction kVFraction dcFraction pmFraction cdFraction ctFraction ocE kVE dcE pmE cdE ctE ocSign kVSign dcSign pmSign cdSign ctSign ocExponent kVExponent dcExponent pmExponent cdExponent ctExponent ocText kVText dcText pmText cdText ctText ocEscape kVEscape dcEscape pmEscape cdEscape ctEscape ocHex kVHex dcHex pmHex cdHex ctHex ocLow kVLow dcLow pmLow cdLow ctLow ocComment kVComment dcComment pmComment cdComment ctComment ocStepsOf kVStepsOf dcStepsOf pmStepsOf cdStepsOf ctStepsOf ocCount kVCount dcCount pmCount cdCount ctCount ocCallLen kVCallLen dcCallLen pmCallLen cdCallLen ctCallLen ocAnsCall kVAnsCall dcAnsCall pmAnsCall cdAnsCall ctAnsCall ocAnswers kVAnswers dcAnswers pmAnswers cdAnswers ctAnswers ocRInit kVRInit dcRInit pmRInit cdRInit ctRInit ocGoWrong kVGoWrong dcGoWrong pmGoWrong cdGoWrong ctGoWrong ocAddByte kVAddByte dcAddByte pmAddByte cdAddByte ctAddByte ocDoStep kVDoStep dcDoStep pmDoStep cdDoStep ctDoStep ocHand kVHand dcHand pmHand cdHand ctHand ocRun kVRun dcRun pmRun cdRun ctRun ocWhere kVWhere dcWhere pmWhere cdWhere ctWhere ocKind kVKind dcKind pmKind cdKind ctKind ocTake kVTake dcTake pmTake cdTake ctTake ocFault kVFault dcFault pmFault cdFault ctFault : Value} (X : K.In h) (G : h.Ns mainGlobals mg) {fa : Addr} (hfa : mg "answers" = some (.ref fa))
    (gStart : PySem.W.nsIn K mainGlobals "START" = some (some (.int 0 tStart)))
    (gWord : PySem.W.nsIn K mainGlobals "WORD" = some (some (.int 1 tWord)))
    (gMinus : PySem.W.nsIn K mainGlobals "MINUS" = some (some (.int 2 tMinus)))
    (gZero : PySem.W.nsIn K mainGlobals "ZERO" = some (some (.int 3 tZero)))
    (gWhole : PySem.W.nsIn K mainGlobals "WHOLE" = some (some (.int 4 tWhole)))
    (gPoint : PySem.W.nsIn K mainGlobals "POINT" = some (some (.int 5 tPoint)))
    (gFraction : PySem.W.nsIn K mainGlobals "FRACTION" = some (some (.int 6 tFraction)))
    (gE : PySem.W.nsIn K mainGlobals "E" = some (some (.int 7 tE)))
    (gSign : PySem.W.nsIn K mainGlobals "SIGN" = some (some (.int 8 tSign)))
    (gExponent : PySem.W.nsIn K mainGlobals "EXPONENT" = some (some (.int 9 tExponent)))
    (gText : PySem.W.nsIn K mainGlobals "TEXT" = some (some (.int 10 tText)))
    (gEscape : PySem.W.nsIn K mainGlobals "ESCAPE" = some (some (.int 11 tEscape)))
    (gHex : PySem.W.nsIn K mainGlobals "HEX" = some (some (.int 12 tHex)))
    (gLow : PySem.W.nsIn K mainGlobals "LOW" = some (some (.int 13 tLow)))
    (gComment : PySem.W.nsIn K mainGlobals "COMMENT" = some (some (.int 14 tComment)))
    (gOver : PySem.W.nsIn K mainGlobals "OVER" = some (some (.int 15 tOver)))
    (gEnd : PySem.W.nsIn K mainGlobals "END" = some (some (.int (-1) tEnd)))
    (gKWord : PySem.W.nsIn K mainGlobals "KIND_WORD" = some (some (.int 1 tKWord)))
    (gKWhole : PySem.W.nsIn K mainGlobals "KIND_WHOLE" = some (some (.int 2 tKWhole)))
    (gKNumber : PySem.W.nsIn K mainGlobals "KIND_NUMBER" = some (some (.int 3 tKNumber)))
    (gKText : PySem.W.nsIn K mainGlobals "KIND_TEXT" = some (some (.int 4 tKText)))
    (gKMark : PySem.W.nsIn K mainGlobals "KIND_MARK" = some (some (.int 5 tKMark)))
    (gRefused : PySem.W.nsIn K mainGlobals "REFUSED" = some (some (.int (-1) tRefused)))
    (gNoPlace : PySem.W.nsIn K mainGlobals "NO_PLACE" = some (some (.int (-1) tNoPlace)))
    (gHighest : PySem.W.nsIn K mainGlobals "HIGHEST_BYTE" = some (some (.int 255 tHighest)))
    (gMost : PySem.W.nsIn K mainGlobals "MOST_BYTES" = some (some (.int 255 tMost)))
    (gMostW : PySem.W.nsIn K mainGlobals "MOST_WAITING" = some (some (.int 64 tMostW)))
    (gMostOut : PySem.W.nsIn K mainGlobals "MOST_OUT_OF_RANGE" = some (some (.int (-2) tMostOut)))
    (gNoneW : PySem.W.nsIn K mainGlobals "NONE_WAITS" = some (some (.int (-1) tNoneW)))
    (gTooSmall : PySem.W.nsIn K mainGlobals "MOST_TOO_SMALL" = some (some (.int (-3) tTooSmall)))
    (gNoKind : PySem.W.nsIn K mainGlobals "NO_KIND" = some (some (.int 0 tNoKind)))
    (gPlaces : PySem.W.nsIn K mainGlobals "PLACES" = some (some (.int 2147483648 tPlaces)))
    (gCHand : PySem.W.nsIn K mainGlobals "HAND" = some (some (.int 1 tCHand)))
    (gCRun : PySem.W.nsIn K mainGlobals "RUN" = some (some (.int 2 tCRun)))
    (gCWhere : PySem.W.nsIn K mainGlobals "WHERE" = some (some (.int 3 tCWhere)))
    (gCKind : PySem.W.nsIn K mainGlobals "KIND" = some (some (.int 4 tCKind)))
    (gCTake : PySem.W.nsIn K mainGlobals "TAKE" = some (some (.int 5 tCTake)))
    (gCFault : PySem.W.nsIn K mainGlobals "FAULT" = some (some (.int 6 tCFault)))
    (s_Go : PySem.W.nsIn K mainGlobals "GO" = some (some (.str "go" uGo)))
    (s_Add : PySem.W.nsIn K mainGlobals "ADD" = some (some (.str "add" uAdd)))
    (s_High : PySem.W.nsIn K mainGlobals "HIGH_DIGIT" = some (some (.str "high digit" uHigh)))
    (s_LowD : PySem.W.nsIn K mainGlobals "LOW_DIGIT" = some (some (.str "low digit" uLowD)))
    (s_Finish : PySem.W.nsIn K mainGlobals "FINISH" = some (some (.str "finish" uFinish)))
    (s_WrongD : PySem.W.nsIn K mainGlobals "WRONG" = some (some (.str "wrong" uWrongD)))
    (zOrd : PySem.W.nsIn K mainGlobals "ord" = some none)
    (zLen : PySem.W.nsIn K mainGlobals "len" = some none)
    (mB : PySem.W.nsIn K mainGlobals "BLANKS" = some (some (.ref aB)))
    (lB : K.lookup aB = some ⟨.type "tuple", odB, .seq #[.int 32 b0, .int 9 b1, .int 10 b2, .int 13 b3] nB, slB⟩)
    (mM : PySem.W.nsIn K mainGlobals "MARKS" = some (some (.ref aM)))
    (lM : K.lookup aM = some ⟨.type "tuple", odM, .seq #[.int 123 q0, .int 125 q1, .int 91 q2, .int 93 q3, .int 58 q4, .int 44 q5, .int 61 q6] nM, slM⟩)
    (aD : PySem.W.nsIn K mainGlobals "Step" = some (some (.ref D)))
    (iD : PySem.W.findIn K (.ref D) "__init__" = some (some (.ref fStepInit)))
    (jD : PySem.W.isFn K (.ref fStepInit) = true)
    (lStepInit : K.lookup fStepInit = some ⟨ocStepInit, odStepInit, .func (PySem.W.fnOf "__init__" "Step.__init__" (defArgs sStepInit) (defBody sStepInit) (defScope sStepInit) .none kVStepInit dcStepInit pmStepInit anStepInit cdStepInit ctStepInit), slStepInit⟩)
    (cStepInit : PySem.W.codeIn K cdStepInit "Step.__init__" = true)
    (kStepInit : PySem.W.keepIn K (.ref fStepInit) = true)
    (pgD : PySem.W.plainGet K D Str.empty = true)
    (hdD : PySem.W.hasDictIn K D = true)
    (poD : PySem.W.plainOver K D = true)
    (saD : PySem.W.findIn K (.ref D) "__setattr__" = some (some (.builtin "object.__setattr__")))
    (mkD : PySem.W.makesIn K D = true)
    (kcD : PySem.W.keepIn K (.ref D) = true)
    (nD_deed : PySem.W.findIn K (.ref D) "deed" = some none)
    (nD_state : PySem.W.findIn K (.ref D) "state" = some none)
    (nD_number : PySem.W.findIn K (.ref D) "number" = some none)
    (aGoes : PySem.W.nsIn K mainGlobals "goes" = some (some (.ref fGoes)))
    (lGoes : K.lookup fGoes = some ⟨ocGoes, odGoes, .func (PySem.W.fnOf "goes" "goes" (defArgs sGoes) (defBody sGoes) (defScope sGoes) .none kVGoes dcGoes pmGoes anGoes cdGoes ctGoes), slGoes⟩)
    (cGoes : PySem.W.codeIn K cdGoes "goes" = true)
    (kGoes : PySem.W.keepIn K (.ref fGoes) = true)
    (aAdds : PySem.W.nsIn K mainGlobals "adds" = some (some (.ref fAdds)))
    (lAdds : K.lookup fAdds = some ⟨ocAdds, odAdds, .func (PySem.W.fnOf "adds" "adds" (defArgs sAdds) (defBody sAdds) (defScope sAdds) .none kVAdds dcAdds pmAdds anAdds cdAdds ctAdds), slAdds⟩)
    (cAdds : PySem.W.codeIn K cdAdds "adds" = true)
    (kAdds : PySem.W.keepIn K (.ref fAdds) = true)
    (aFinishes : PySem.W.nsIn K mainGlobals "finishes" = some (some (.ref fFinishes)))
    (lFinishes : K.lookup fFinishes = some ⟨ocFinishes, odFinishes, .func (PySem.W.fnOf "finishes" "finishes" (defArgs sFinishes) (defBody sFinishes) (defScope sFinishes) .none kVFinishes dcFinishes pmFinishes anFinishes cdFinishes ctFinishes), slFinishes⟩)
    (cFinishes : PySem.W.codeIn K cdFinishes "finishes" = true)
    (kFinishes : PySem.W.keepIn K (.ref fFinishes) = true)
    (aWrong : PySem.W.nsIn K mainGlobals "wrong" = some (some (.ref fWrong)))
    (lWrong : K.lookup fWrong = some ⟨ocWrong, odWrong, .func (PySem.W.fnOf "wrong" "wrong" (defArgs sWrong) (defBody sWrong) (defScope sWrong) .none kVWrong dcWrong pmWrong anWrong cdWrong ctWrong), slWrong⟩)
    (cWrong : PySem.W.codeIn K cdWrong "wrong" = true)
    (kWrong : PySem.W.keepIn K (.ref fWrong) = true)
    (aIsLetter : PySem.W.nsIn K mainGlobals "is_letter" = some (some (.ref fIsLetter)))
    (lIsLetter : K.lookup fIsLetter = some ⟨ocIsLetter, odIsLetter, .func (PySem.W.fnOf "is_letter" "is_letter" (defArgs sIsLetter) (defBody sIsLetter) (defScope sIsLetter) .none kVIsLetter dcIsLetter pmIsLetter anIsLetter cdIsLetter ctIsLetter), slIsLetter⟩)
    (cIsLetter : PySem.W.codeIn K cdIsLetter "is_letter" = true)
    (kIsLetter : PySem.W.keepIn K (.ref fIsLetter) = true)
    (aIsDigit : PySem.W.nsIn K mainGlobals "is_digit" = some (some (.ref fIsDigit)))
    (lIsDigit : K.lookup fIsDigit = some ⟨ocIsDigit, odIsDigit, .func (PySem.W.fnOf "is_digit" "is_digit" (defArgs sIsDigit) (defBody sIsDigit) (defScope sIsDigit) .none kVIsDigit dcIsDigit pmIsDigit anIsDigit cdIsDigit ctIsDigit), slIsDigit⟩)
    (cIsDigit : PySem.W.codeIn K cdIsDigit "is_digit" = true)
    (kIsDigit : PySem.W.keepIn K (.ref fIsDigit) = true)
    (aIsE : PySem.W.nsIn K mainGlobals "is_e" = some (some (.ref fIsE)))
    (lIsE : K.lookup fIsE = some ⟨ocIsE, odIsE, .func (PySem.W.fnOf "is_e" "is_e" (defArgs sIsE) (defBody sIsE) (defScope sIsE) .none kVIsE dcIsE pmIsE anIsE cdIsE ctIsE), slIsE⟩)
    (cIsE : PySem.W.codeIn K cdIsE "is_e" = true)
    (kIsE : PySem.W.keepIn K (.ref fIsE) = true)
    (aHexValue : PySem.W.nsIn K mainGlobals "hex_value" = some (some (.ref fHexValue)))
    (lHexValue : K.lookup fHexValue = some ⟨ocHexValue, odHexValue, .func (PySem.W.fnOf "hex_value" "hex_value" (defArgs sHexValue) (defBody sHexValue) (defScope sHexValue) .none kVHexValue dcHexValue pmHexValue anHexValue cdHexValue ctHexValue), slHexValue⟩)
    (cHexValue : PySem.W.codeIn K cdHexValue "hex_value" = true)
    (kHexValue : PySem.W.keepIn K (.ref fHexValue) = true)
    (aStart : PySem.W.nsIn K mainGlobals "start_steps" = some (some (.ref fStart)))
    (lStart : K.lookup fStart = some ⟨ocStart, odStart, .func (PySem.W.fnOf "start_steps" "start_steps" (defArgs sStart) (defBody sStart) (defScope sStart) .none kVStart dcStart pmStart anStart cdStart ctStart), slStart⟩)
    (cStart : PySem.W.codeIn K cdStart "start_steps" = true)
    (kStart : PySem.W.keepIn K (.ref fStart) = true)
    (aFas : PySem.W.nsIn K mainGlobals "finish_and_start" = some (some (.ref fFas)))
    (lFas : K.lookup fFas = some ⟨ocFas, odFas, .func (PySem.W.fnOf "finish_and_start" "finish_and_start" (defArgs sFas) (defBody sFas) (defScope sFas) .none kVFas dcFas pmFas anFas cdFas ctFas), slFas⟩)
    (cFas : PySem.W.codeIn K cdFas "finish_and_start" = true)
    (kFas : PySem.W.keepIn K (.ref fFas) = true)
    (aWord : PySem.W.nsIn K mainGlobals "word_steps" = some (some (.ref fWord)))
    (lWord : K.lookup fWord = some ⟨ocWord, odWord, .func (PySem.W.fnOf "word_steps" "word_steps" (defArgs sWord) (defBody sWord) (defScope sWord) .none kVWord dcWord pmWord anWord cdWord ctWord), slWord⟩)
    (cWord : PySem.W.codeIn K cdWord "word_steps" = true)
    (kWord : PySem.W.keepIn K (.ref fWord) = true)
    (aMinus : PySem.W.nsIn K mainGlobals "minus_steps" = some (some (.ref fMinus)))
    (lMinus : K.lookup fMinus = some ⟨ocMinus, odMinus, .func (PySem.W.fnOf "minus_steps" "minus_steps" (defArgs sMinus) (defBody sMinus) (defScope sMinus) .none kVMinus dcMinus pmMinus anMinus cdMinus ctMinus), slMinus⟩)
    (cMinus : PySem.W.codeIn K cdMinus "minus_steps" = true)
    (kMinus : PySem.W.keepIn K (.ref fMinus) = true)
    (aZero : PySem.W.nsIn K mainGlobals "zero_steps" = some (some (.ref fZero)))
    (lZero : K.lookup fZero = some ⟨ocZero, odZero, .func (PySem.W.fnOf "zero_steps" "zero_steps" (defArgs sZero) (defBody sZero) (defScope sZero) .none kVZero dcZero pmZero anZero cdZero ctZero), slZero⟩)
    (cZero : PySem.W.codeIn K cdZero "zero_steps" = true)
    (kZero : PySem.W.keepIn K (.ref fZero) = true)
    (aWhole : PySem.W.nsIn K mainGlobals "whole_steps" = some (some (.ref fWhole)))
    (lWhole : K.lookup fWhole = some ⟨ocWhole, odWhole, .func (PySem.W.fnOf "whole_steps" "whole_steps" (defArgs sWhole) (defBody sWhole) (defScope sWhole) .none kVWhole dcWhole pmWhole anWhole cdWhole ctWhole), slWhole⟩)
    (cWhole : PySem.W.codeIn K cdWhole "whole_steps" = true)
    (kWhole : PySem.W.keepIn K (.ref fWhole) = true)
    (aPoint : PySem.W.nsIn K mainGlobals "point_steps" = some (some (.ref fPoint)))
    (lPoint : K.lookup fPoint = some ⟨ocPoint, odPoint, .func (PySem.W.fnOf "point_steps" "point_steps" (defArgs sPoint) (defBody sPoint) (defScope sPoint) .none kVPoint dcPoint pmPoint anPoint cdPoint ctPoint), slPoint⟩)
    (cPoint : PySem.W.codeIn K cdPoint "point_steps" = true)
    (kPoint : PySem.W.keepIn K (.ref fPoint) = true)
    (aFraction : PySem.W.nsIn K mainGlobals "fraction_steps" = some (some (.ref fFraction)))
    (lFraction : K.lookup fFraction = some ⟨ocFraction, odFraction, .func (PySem.W.fnOf "fraction_steps" "fraction_steps" (defArgs sFraction) (defBody sFraction) (defScope sFraction) .none kVFraction dcFraction pmFraction anFraction cdFraction ctFraction), slFraction⟩)
    (cFraction : PySem.W.codeIn K cdFraction "fraction_steps" = true)
    (kFraction : PySem.W.keepIn K (.ref fFraction) = true)
    (aE : PySem.W.nsIn K mainGlobals "e_steps" = some (some (.ref fE)))
    (lE : K.lookup fE = some ⟨ocE, odE, .func (PySem.W.fnOf "e_steps" "e_steps" (defArgs sE) (defBody sE) (defScope sE) .none kVE dcE pmE anE cdE ctE), slE⟩)
    (cE : PySem.W.codeIn K cdE "e_steps" = true)
    (kE : PySem.W.keepIn K (.ref fE) = true)
    (aSign : PySem.W.nsIn K mainGlobals "sign_steps" = some (some (.ref fSign)))
    (lSign : K.lookup fSign = some ⟨ocSign, odSign, .func (PySem.W.fnOf "sign_steps" "sign_steps" (defArgs sSign) (defBody sSign) (defScope sSign) .none kVSign dcSign pmSign anSign cdSign ctSign), slSign⟩)
    (cSign : PySem.W.codeIn K cdSign "sign_steps" = true)
    (kSign : PySem.W.keepIn K (.ref fSign) = true)
    (aExponent : PySem.W.nsIn K mainGlobals "exponent_steps" = some (some (.ref fExponent)))
    (lExponent : K.lookup fExponent = some ⟨ocExponent, odExponent, .func (PySem.W.fnOf "exponent_steps" "exponent_steps" (defArgs sExponent) (defBody sExponent) (defScope sExponent) .none kVExponent dcExponent pmExponent anExponent cdExponent ctExponent), slExponent⟩)
    (cExponent : PySem.W.codeIn K cdExponent "exponent_steps" = true)
    (kExponent : PySem.W.keepIn K (.ref fExponent) = true)
    (aText : PySem.W.nsIn K mainGlobals "text_steps" = some (some (.ref fText)))
    (lText : K.lookup fText = some ⟨ocText, odText, .func (PySem.W.fnOf "text_steps" "text_steps" (defArgs sText) (defBody sText) (defScope sText) .none kVText dcText pmText anText cdText ctText), slText⟩)
    (cText : PySem.W.codeIn K cdText "text_steps" = true)
    (kText : PySem.W.keepIn K (.ref fText) = true)
    (aEscape : PySem.W.nsIn K mainGlobals "escape_steps" = some (some (.ref fEscape)))
    (lEscape : K.lookup fEscape = some ⟨ocEscape, odEscape, .func (PySem.W.fnOf "escape_steps" "escape_steps" (defArgs sEscape) (defBody sEscape) (defScope sEscape) .none kVEscape dcEscape pmEscape anEscape cdEscape ctEscape), slEscape⟩)
    (cEscape : PySem.W.codeIn K cdEscape "escape_steps" = true)
    (kEscape : PySem.W.keepIn K (.ref fEscape) = true)
    (aHex : PySem.W.nsIn K mainGlobals "hex_steps" = some (some (.ref fHex)))
    (lHex : K.lookup fHex = some ⟨ocHex, odHex, .func (PySem.W.fnOf "hex_steps" "hex_steps" (defArgs sHex) (defBody sHex) (defScope sHex) .none kVHex dcHex pmHex anHex cdHex ctHex), slHex⟩)
    (cHex : PySem.W.codeIn K cdHex "hex_steps" = true)
    (kHex : PySem.W.keepIn K (.ref fHex) = true)
    (aLow : PySem.W.nsIn K mainGlobals "low_steps" = some (some (.ref fLow)))
    (lLow : K.lookup fLow = some ⟨ocLow, odLow, .func (PySem.W.fnOf "low_steps" "low_steps" (defArgs sLow) (defBody sLow) (defScope sLow) .none kVLow dcLow pmLow anLow cdLow ctLow), slLow⟩)
    (cLow : PySem.W.codeIn K cdLow "low_steps" = true)
    (kLow : PySem.W.keepIn K (.ref fLow) = true)
    (aComment : PySem.W.nsIn K mainGlobals "comment_steps" = some (some (.ref fComment)))
    (lComment : K.lookup fComment = some ⟨ocComment, odComment, .func (PySem.W.fnOf "comment_steps" "comment_steps" (defArgs sComment) (defBody sComment) (defScope sComment) .none kVComment dcComment pmComment anComment cdComment ctComment), slComment⟩)
    (cComment : PySem.W.codeIn K cdComment "comment_steps" = true)
    (kComment : PySem.W.keepIn K (.ref fComment) = true)
    (aStepsOf : PySem.W.nsIn K mainGlobals "steps_of" = some (some (.ref fStepsOf)))
    (lStepsOf : K.lookup fStepsOf = some ⟨ocStepsOf, odStepsOf, .func (PySem.W.fnOf "steps_of" "steps_of" (defArgs sStepsOf) (defBody sStepsOf) (defScope sStepsOf) .none kVStepsOf dcStepsOf pmStepsOf anStepsOf cdStepsOf ctStepsOf), slStepsOf⟩)
    (cStepsOf : PySem.W.codeIn K cdStepsOf "steps_of" = true)
    (kStepsOf : PySem.W.keepIn K (.ref fStepsOf) = true)
    (aCount : PySem.W.nsIn K mainGlobals "count_finished" = some (some (.ref fCount)))
    (lCount : K.lookup fCount = some ⟨ocCount, odCount, .func (PySem.W.fnOf "count_finished" "count_finished" (defArgs sCount) (defBody sCount) (defScope sCount) .none kVCount dcCount pmCount anCount cdCount ctCount), slCount⟩)
    (cCount : PySem.W.codeIn K cdCount "count_finished" = true)
    (kCount : PySem.W.keepIn K (.ref fCount) = true)
    (aCallLen : PySem.W.nsIn K mainGlobals "call_length" = some (some (.ref fCallLen)))
    (lCallLen : K.lookup fCallLen = some ⟨ocCallLen, odCallLen, .func (PySem.W.fnOf "call_length" "call_length" (defArgs sCallLen) (defBody sCallLen) (defScope sCallLen) .none kVCallLen dcCallLen pmCallLen anCallLen cdCallLen ctCallLen), slCallLen⟩)
    (cCallLen : PySem.W.codeIn K cdCallLen "call_length" = true)
    (kCallLen : PySem.W.keepIn K (.ref fCallLen) = true)
    (aAnsCall : PySem.W.nsIn K mainGlobals "answer_call" = some (some (.ref fAnsCall)))
    (lAnsCall : K.lookup fAnsCall = some ⟨ocAnsCall, odAnsCall, .func (PySem.W.fnOf "answer_call" "answer_call" (defArgs sAnsCall) (defBody sAnsCall) (defScope sAnsCall) .none kVAnsCall dcAnsCall pmAnsCall anAnsCall cdAnsCall ctAnsCall), slAnsCall⟩)
    (cAnsCall : PySem.W.codeIn K cdAnsCall "answer_call" = true)
    (kAnsCall : PySem.W.keepIn K (.ref fAnsCall) = true)
    (aAnswers : PySem.W.nsIn K mainGlobals "answers" = some (some (.ref fAnswers)))
    (lAnswers : K.lookup fAnswers = some ⟨ocAnswers, odAnswers, .func (PySem.W.fnOf "answers" "answers" (defArgs sAnswers) (defBody sAnswers) (defScope sAnswers) .none kVAnswers dcAnswers pmAnswers anAnswers cdAnswers ctAnswers), slAnswers⟩)
    (cAnswers : PySem.W.codeIn K cdAnswers "answers" = true)
    (kAnswers : PySem.W.keepIn K (.ref fAnswers) = true)
    (mS : PySem.W.nsIn K mainGlobals "STEPS" = some (some (.ref aS)))
    (lS : K.lookup aS = some ⟨.type "tuple", odS, .seq #[.ref fStart, .ref fWord, .ref fMinus, .ref fZero, .ref fWhole, .ref fPoint, .ref fFraction, .ref fE, .ref fSign, .ref fExponent, .ref fText, .ref fEscape, .ref fHex, .ref fLow, .ref fComment] nS, slS⟩)
    (aC : PySem.W.nsIn K mainGlobals "Reader" = some (some (.ref C)))
    (iC : PySem.W.findIn K (.ref C) "__init__" = some (some (.ref fRInit)))
    (jC : PySem.W.isFn K (.ref fRInit) = true)
    (lRInit : K.lookup fRInit = some ⟨ocRInit, odRInit, .func (PySem.W.fnOf "__init__" "Reader.__init__" (defArgs sRInit) (defBody sRInit) (defScope sRInit) .none kVRInit dcRInit pmRInit anRInit cdRInit ctRInit), slRInit⟩)
    (cRInit : PySem.W.codeIn K cdRInit "Reader.__init__" = true)
    (kRInit : PySem.W.keepIn K (.ref fRInit) = true)
    (pgC : PySem.W.plainGet K C Str.empty = true)
    (hdC : PySem.W.hasDictIn K C = true)
    (poC : PySem.W.plainOver K C = true)
    (saC : PySem.W.findIn K (.ref C) "__setattr__" = some (some (.builtin "object.__setattr__")))
    (mkC : PySem.W.makesIn K C = true)
    (kcC : PySem.W.keepIn K (.ref C) = true)
    (nC_state : PySem.W.findIn K (.ref C) "state" = some none)
    (nC_handed : PySem.W.findIn K (.ref C) "handed" = some none)
    (nC_current : PySem.W.findIn K (.ref C) "current" = some none)
    (nC_high : PySem.W.findIn K (.ref C) "high" = some none)
    (nC_waiting : PySem.W.findIn K (.ref C) "waiting" = some none)
    (nC_fault_place : PySem.W.findIn K (.ref C) "fault_place" = some none)
    (aGoWrong : PySem.W.findIn K (.ref C) "go_wrong" = some (some (.ref fGoWrong)))
    (iGoWrong : PySem.W.isFn K (.ref fGoWrong) = true)
    (lGoWrong : K.lookup fGoWrong = some ⟨ocGoWrong, odGoWrong, .func (PySem.W.fnOf "go_wrong" "Reader.go_wrong" (defArgs sGoWrong) (defBody sGoWrong) (defScope sGoWrong) .none kVGoWrong dcGoWrong pmGoWrong anGoWrong cdGoWrong ctGoWrong), slGoWrong⟩)
    (cGoWrong : PySem.W.codeIn K cdGoWrong "Reader.go_wrong" = true)
    (kGoWrong : PySem.W.keepIn K (.ref fGoWrong) = true)
    (aAddByte : PySem.W.findIn K (.ref C) "add_byte" = some (some (.ref fAddByte)))
    (iAddByte : PySem.W.isFn K (.ref fAddByte) = true)
    (lAddByte : K.lookup fAddByte = some ⟨ocAddByte, odAddByte, .func (PySem.W.fnOf "add_byte" "Reader.add_byte" (defArgs sAddByte) (defBody sAddByte) (defScope sAddByte) .none kVAddByte dcAddByte pmAddByte anAddByte cdAddByte ctAddByte), slAddByte⟩)
    (cAddByte : PySem.W.codeIn K cdAddByte "Reader.add_byte" = true)
    (kAddByte : PySem.W.keepIn K (.ref fAddByte) = true)
    (aDoStep : PySem.W.findIn K (.ref C) "do_step" = some (some (.ref fDoStep)))
    (iDoStep : PySem.W.isFn K (.ref fDoStep) = true)
    (lDoStep : K.lookup fDoStep = some ⟨ocDoStep, odDoStep, .func (PySem.W.fnOf "do_step" "Reader.do_step" (defArgs sDoStep) (defBody sDoStep) (defScope sDoStep) .none kVDoStep dcDoStep pmDoStep anDoStep cdDoStep ctDoStep), slDoStep⟩)
    (cDoStep : PySem.W.codeIn K cdDoStep "Reader.do_step" = true)
    (kDoStep : PySem.W.keepIn K (.ref fDoStep) = true)
    (aHand : PySem.W.findIn K (.ref C) "hand" = some (some (.ref fHand)))
    (iHand : PySem.W.isFn K (.ref fHand) = true)
    (lHand : K.lookup fHand = some ⟨ocHand, odHand, .func (PySem.W.fnOf "hand" "Reader.hand" (defArgs sHand) (defBody sHand) (defScope sHand) .none kVHand dcHand pmHand anHand cdHand ctHand), slHand⟩)
    (cHand : PySem.W.codeIn K cdHand "Reader.hand" = true)
    (kHand : PySem.W.keepIn K (.ref fHand) = true)
    (aRun : PySem.W.findIn K (.ref C) "run" = some (some (.ref fRun)))
    (iRun : PySem.W.isFn K (.ref fRun) = true)
    (lRun : K.lookup fRun = some ⟨ocRun, odRun, .func (PySem.W.fnOf "run" "Reader.run" (defArgs sRun) (defBody sRun) (defScope sRun) .none kVRun dcRun pmRun anRun cdRun ctRun), slRun⟩)
    (cRun : PySem.W.codeIn K cdRun "Reader.run" = true)
    (kRun : PySem.W.keepIn K (.ref fRun) = true)
    (aWhere : PySem.W.findIn K (.ref C) "where" = some (some (.ref fWhere)))
    (iWhere : PySem.W.isFn K (.ref fWhere) = true)
    (lWhere : K.lookup fWhere = some ⟨ocWhere, odWhere, .func (PySem.W.fnOf "where" "Reader.where" (defArgs sWhere) (defBody sWhere) (defScope sWhere) .none kVWhere dcWhere pmWhere anWhere cdWhere ctWhere), slWhere⟩)
    (cWhere : PySem.W.codeIn K cdWhere "Reader.where" = true)
    (kWhere : PySem.W.keepIn K (.ref fWhere) = true)
    (aKind : PySem.W.findIn K (.ref C) "kind" = some (some (.ref fKind)))
    (iKind : PySem.W.isFn K (.ref fKind) = true)
    (lKind : K.lookup fKind = some ⟨ocKind, odKind, .func (PySem.W.fnOf "kind" "Reader.kind" (defArgs sKind) (defBody sKind) (defScope sKind) .none kVKind dcKind pmKind anKind cdKind ctKind), slKind⟩)
    (cKind : PySem.W.codeIn K cdKind "Reader.kind" = true)
    (kKind : PySem.W.keepIn K (.ref fKind) = true)
    (aTake : PySem.W.findIn K (.ref C) "take" = some (some (.ref fTake)))
    (iTake : PySem.W.isFn K (.ref fTake) = true)
    (lTake : K.lookup fTake = some ⟨ocTake, odTake, .func (PySem.W.fnOf "take" "Reader.take" (defArgs sTake) (defBody sTake) (defScope sTake) .none kVTake dcTake pmTake anTake cdTake ctTake), slTake⟩)
    (cTake : PySem.W.codeIn K cdTake "Reader.take" = true)
    (kTake : PySem.W.keepIn K (.ref fTake) = true)
    (aFault : PySem.W.findIn K (.ref C) "fault" = some (some (.ref fFault)))
    (iFault : PySem.W.isFn K (.ref fFault) = true)
    (lFault : K.lookup fFault = some ⟨ocFault, odFault, .func (PySem.W.fnOf "fault" "Reader.fault" (defArgs sFault) (defBody sFault) (defScope sFault) .none kVFault dcFault pmFault anFault cdFault ctFault), slFault⟩)
    (cFault : PySem.W.codeIn K cdFault "Reader.fault" = true)
    (kFault : PySem.W.keepIn K (.ref fFault) = true) :
    ∃ fd : FuncData, (∀ (s : Shared) (us : List Value), us.length = (["calls"] : List Str).length → BindsTo s fd ⟨us, []⟩ ((["calls"] : List Str).zip us)) ∧ ∀ base : Heap, K.In base → base.Ns mainGlobals mg → FnOk P w K mg base CX0 11 fa fd ["calls"] (spAns K) := by
  have e := hfa.symm.trans (PySem.W.mg_of X G aAnswers)
  cases e
  have T : TxS K mg D aB aM := { cl := ⟨pgD, hdD, poD, saD⟩, nDeed := nD_deed, nState := nD_state, nNumber := nD_number, ord := PySem.W.mg_none_of X G zOrd, gStart := ⟨_, PySem.W.mg_of X G gStart⟩, gWord := ⟨_, PySem.W.mg_of X G gWord⟩, gMinus := ⟨_, PySem.W.mg_of X G gMinus⟩, gZero := ⟨_, PySem.W.mg_of X G gZero⟩, gWhole := ⟨_, PySem.W.mg_of X G gWhole⟩, gPoint := ⟨_, PySem.W.mg_of X G gPoint⟩, gFraction := ⟨_, PySem.W.mg_of X G gFraction⟩, gE := ⟨_, PySem.W.mg_of X G gE⟩, gSign := ⟨_, PySem.W.mg_of X G gSign⟩, gExponent := ⟨_, PySem.W.mg_of X G gExponent⟩, gText := ⟨_, PySem.W.mg_of X G gText⟩, gEscape := ⟨_, PySem.W.mg_of X G gEscape⟩, gHex := ⟨_, PySem.W.mg_of X G gHex⟩, gLow := ⟨_, PySem.W.mg_of X G gLow⟩, gComment := ⟨_, PySem.W.mg_of X G gComment⟩, gOver := ⟨_, PySem.W.mg_of X G gOver⟩, gEnd := ⟨_, PySem.W.mg_of X G gEnd⟩, gKWord := ⟨_, PySem.W.mg_of X G gKWord⟩, gKWhole := ⟨_, PySem.W.mg_of X G gKWhole⟩, gKNumber := ⟨_, PySem.W.mg_of X G gKNumber⟩, gKText := ⟨_, PySem.W.mg_of X G gKText⟩, gKMark := ⟨_, PySem.W.mg_of X G gKMark⟩, gGo := ⟨_, PySem.W.mg_of X G s_Go⟩, gAdd := ⟨_, PySem.W.mg_of X G s_Add⟩, gHigh := ⟨_, PySem.W.mg_of X G s_High⟩, gLowD := ⟨_, PySem.W.mg_of X G s_LowD⟩, gFinish := ⟨_, PySem.W.mg_of X G s_Finish⟩, gWrongD := ⟨_, PySem.W.mg_of X G s_WrongD⟩, mB := PySem.W.mg_of X G mB, tB := ⟨_, _, _, lB, rfl, rfl, (by show 4 ≤ sizeLine; decide), .cons ⟨_, rfl⟩ (.cons ⟨_, rfl⟩ (.cons ⟨_, rfl⟩ (.cons ⟨_, rfl⟩ .nil)))⟩, mM := PySem.W.mg_of X G mM, tM := ⟨_, _, _, lM, rfl, rfl, (by show 7 ≤ sizeLine; decide), .cons ⟨_, rfl⟩ (.cons ⟨_, rfl⟩ (.cons ⟨_, rfl⟩ (.cons ⟨_, rfl⟩ (.cons ⟨_, rfl⟩ (.cons ⟨_, rfl⟩ (.cons ⟨_, rfl⟩ .nil))))))⟩ }
  have Tr : TxR K mg C := { cl := ⟨pgC, hdC, poC, saC⟩, nState := nC_state, nHanded := nC_handed, nCurrent := nC_current, nHigh := nC_high, nWaiting := nC_waiting, nFault := nC_fault_place, len := PySem.W.mg_none_of X G zLen, gRefused := ⟨_, PySem.W.mg_of X G gRefused⟩, gNoPlace := ⟨_, PySem.W.mg_of X G gNoPlace⟩, gHighest := ⟨_, PySem.W.mg_of X G gHighest⟩, gMost := ⟨_, PySem.W.mg_of X G gMost⟩, gMostW := ⟨_, PySem.W.mg_of X G gMostW⟩ }
  have Ta : TxA K mg := { gMostOut := ⟨_, PySem.W.mg_of X G gMostOut⟩, gNoneW := ⟨_, PySem.W.mg_of X G gNoneW⟩, gTooSmall := ⟨_, PySem.W.mg_of X G gTooSmall⟩, gNoKind := ⟨_, PySem.W.mg_of X G gNoKind⟩, gPlaces := ⟨_, PySem.W.mg_of X G gPlaces⟩, gCHand := ⟨_, PySem.W.mg_of X G gCHand⟩, gCRun := ⟨_, PySem.W.mg_of X G gCRun⟩, gCWhere := ⟨_, PySem.W.mg_of X G gCWhere⟩, gCKind := ⟨_, PySem.W.mg_of X G gCKind⟩, gCTake := ⟨_, PySem.W.mg_of X G gCTake⟩, gCFault := ⟨_, PySem.W.mg_of X G gCFault⟩ }
  have FStepInit := fun_mk (st := sStepInit) lStepInit cStepInit kStepInit
  have FRInit := fun_mk (st := sRInit) lRInit cRInit kRInit
  have FGoes := fun_mk (st := sGoes) lGoes cGoes kGoes
  have FAdds := fun_mk (st := sAdds) lAdds cAdds kAdds
  have FFinishes := fun_mk (st := sFinishes) lFinishes cFinishes kFinishes
  have FWrong := fun_mk (st := sWrong) lWrong cWrong kWrong
  have FIsLetter := fun_mk (st := sIsLetter) lIsLetter cIsLetter kIsLetter
  have FIsDigit := fun_mk (st := sIsDigit) lIsDigit cIsDigit kIsDigit
  have FIsE := fun_mk (st := sIsE) lIsE cIsE kIsE
  have FHexValue := fun_mk (st := sHexValue) lHexValue cHexValue kHexValue
  have FStart := fun_mk (st := sStart) lStart cStart kStart
  have FFas := fun_mk (st := sFas) lFas cFas kFas
  have FWord := fun_mk (st := sWord) lWord cWord kWord
  have FMinus := fun_mk (st := sMinus) lMinus cMinus kMinus
  have FZero := fun_mk (st := sZero) lZero cZero kZero
  have FWhole := fun_mk (st := sWhole) lWhole cWhole kWhole
  have FPoint := fun_mk (st := sPoint) lPoint cPoint kPoint
  have FFraction := fun_mk (st := sFraction) lFraction cFraction kFraction
  have FE := fun_mk (st := sE) lE cE kE
  have FSign := fun_mk (st := sSign) lSign cSign kSign
  have FExponent := fun_mk (st := sExponent) lExponent cExponent kExponent
  have FText := fun_mk (st := sText) lText cText kText
  have FEscape := fun_mk (st := sEscape) lEscape cEscape kEscape
  have FHex := fun_mk (st := sHex) lHex cHex kHex
  have FLow := fun_mk (st := sLow) lLow cLow kLow
  have FComment := fun_mk (st := sComment) lComment cComment kComment
  have FStepsOf := fun_mk (st := sStepsOf) lStepsOf cStepsOf kStepsOf
  have FCount := fun_mk (st := sCount) lCount cCount kCount
  have FCallLen := fun_mk (st := sCallLen) lCallLen cCallLen kCallLen
  have FAnsCall := fun_mk (st := sAnsCall) lAnsCall cAnsCall kAnsCall
  have FAnswers := fun_mk (st := sAnswers) lAnswers cAnswers kAnswers
  have FGoWrong := fun_mk (st := sGoWrong) lGoWrong cGoWrong kGoWrong
  have FAddByte := fun_mk (st := sAddByte) lAddByte cAddByte kAddByte
  have FDoStep := fun_mk (st := sDoStep) lDoStep cDoStep kDoStep
  have FHand := fun_mk (st := sHand) lHand cHand kHand
  have FRun := fun_mk (st := sRun) lRun cRun kRun
  have FWhere := fun_mk (st := sWhere) lWhere cWhere kWhere
  have FKind := fun_mk (st := sKind) lKind cKind kKind
  have FTake := fun_mk (st := sTake) lTake cTake kTake
  have FFault := fun_mk (st := sFault) lFault cFault kFault
  have bStepInit := FStepInit.binds (ps := ["self", "deed", "state", "number"]) fun _ _ _ _ _ _ us hl => match us, hl with | [_, _, _, _], _ => rfl
  have bRInit := FRInit.binds (ps := ["self"]) fun _ _ _ _ _ _ us hl => match us, hl with | [_], _ => rfl
  have bGoes := FGoes.binds (ps := ["state"]) fun _ _ _ _ _ _ us hl => match us, hl with | [_], _ => rfl
  have bAdds := FAdds.binds (ps := ["byte", "state"]) fun _ _ _ _ _ _ us hl => match us, hl with | [_, _], _ => rfl
  have bFinishes := FFinishes.binds (ps := ["kind"]) fun _ _ _ _ _ _ us hl => match us, hl with | [_], _ => rfl
  have bWrong := FWrong.binds (ps := []) fun _ _ _ _ _ _ us hl => match us, hl with | [], _ => rfl
  have bIsLetter := FIsLetter.binds (ps := ["c"]) fun _ _ _ _ _ _ us hl => match us, hl with | [_], _ => rfl
  have bIsDigit := FIsDigit.binds (ps := ["c"]) fun _ _ _ _ _ _ us hl => match us, hl with | [_], _ => rfl
  have bIsE := FIsE.binds (ps := ["c"]) fun _ _ _ _ _ _ us hl => match us, hl with | [_], _ => rfl
  have bHexValue := FHexValue.binds (ps := ["c"]) fun _ _ _ _ _ _ us hl => match us, hl with | [_], _ => rfl
  have bStart := FStart.binds (ps := ["c"]) fun _ _ _ _ _ _ us hl => match us, hl with | [_], _ => rfl
  have bFas := FFas.binds (ps := ["kind", "c"]) fun _ _ _ _ _ _ us hl => match us, hl with | [_, _], _ => rfl
  have bWord := FWord.binds (ps := ["c"]) fun _ _ _ _ _ _ us hl => match us, hl with | [_], _ => rfl
  have bMinus := FMinus.binds (ps := ["c"]) fun _ _ _ _ _ _ us hl => match us, hl with | [_], _ => rfl
  have bZero := FZero.binds (ps := ["c"]) fun _ _ _ _ _ _ us hl => match us, hl with | [_], _ => rfl
  have bWhole := FWhole.binds (ps := ["c"]) fun _ _ _ _ _ _ us hl => match us, hl with | [_], _ => rfl
  have bPoint := FPoint.binds (ps := ["c"]) fun _ _ _ _ _ _ us hl => match us, hl with | [_], _ => rfl
  have bFraction := FFraction.binds (ps := ["c"]) fun _ _ _ _ _ _ us hl => match us, hl with | [_], _ => rfl
  have bE := FE.binds (ps := ["c"]) fun _ _ _ _ _ _ us hl => match us, hl with | [_], _ => rfl
  have bSign := FSign.binds (ps := ["c"]) fun _ _ _ _ _ _ us hl => match us, hl with | [_], _ => rfl
  have bExponent := FExponent.binds (ps := ["c"]) fun _ _ _ _ _ _ us hl => match us, hl with | [_], _ => rfl
  have bText := FText.binds (ps := ["c"]) fun _ _ _ _ _ _ us hl => match us, hl with | [_], _ => rfl
  have bEscape := FEscape.binds (ps := ["c"]) fun _ _ _ _ _ _ us hl => match us, hl with | [_], _ => rfl
  have bHex := FHex.binds (ps := ["c"]) fun _ _ _ _ _ _ us hl => match us, hl with | [_], _ => rfl
  have bLow := FLow.binds (ps := ["c"]) fun _ _ _ _ _ _ us hl => match us, hl with | [_], _ => rfl
  have bComment := FComment.binds (ps := ["c"]) fun _ _ _ _ _ _ us hl => match us, hl with | [_], _ => rfl
  have bStepsOf := FStepsOf.binds (ps := ["state", "c"]) fun _ _ _ _ _ _ us hl => match us, hl with | [_, _], _ => rfl
  have bCount := FCount.binds (ps := ["steps"]) fun _ _ _ _ _ _ us hl => match us, hl with | [_], _ => rfl
  have bCallLen := FCallLen.binds (ps := ["calls", "at"]) fun _ _ _ _ _ _ us hl => match us, hl with | [_, _], _ => rfl
  have bAnsCall := FAnsCall.binds (ps := ["reader", "call"]) fun _ _ _ _ _ _ us hl => match us, hl with | [_, _], _ => rfl
  have bAnswers := FAnswers.binds (ps := ["calls"]) fun _ _ _ _ _ _ us hl => match us, hl with | [_], _ => rfl
  have bGoWrong := FGoWrong.binds (ps := ["self"]) fun _ _ _ _ _ _ us hl => match us, hl with | [_], _ => rfl
  have bAddByte := FAddByte.binds (ps := ["self", "byte"]) fun _ _ _ _ _ _ us hl => match us, hl with | [_, _], _ => rfl
  have bDoStep := FDoStep.binds (ps := ["self", "step"]) fun _ _ _ _ _ _ us hl => match us, hl with | [_, _], _ => rfl
  have bHand := FHand.binds (ps := ["self", "state", "c"]) fun _ _ _ _ _ _ us hl => match us, hl with | [_, _, _], _ => rfl
  have bRun := FRun.binds (ps := ["self", "cs"]) fun _ _ _ _ _ _ us hl => match us, hl with | [_, _], _ => rfl
  have bWhere := FWhere.binds (ps := ["self"]) fun _ _ _ _ _ _ us hl => match us, hl with | [_], _ => rfl
  have bKind := FKind.binds (ps := ["self"]) fun _ _ _ _ _ _ us hl => match us, hl with | [_], _ => rfl
  have bTake := FTake.binds (ps := ["self", "most"]) fun _ _ _ _ _ _ us hl => match us, hl with | [_, _], _ => rfl
  have bFault := FFault.binds (ps := ["self"]) fun _ _ _ _ _ _ us hl => match us, hl with | [_], _ => rfl
  refine ⟨PySem.W.fnOf "answers" "answers" (defArgs sAnswers) (defBody sAnswers) (defScope sAnswers) .none kVAnswers dcAnswers pmAnswers anAnswers cdAnswers ctAnswers, fun s us hu => match us, hu with | [_], _ => .of_eq rfl, fun base kb nb => ?_⟩
  have hStep : ClsD P w K mg base 1 "Step" D ["self", "deed", "state", "number"] (spStepInit D) := ⟨PySem.W.mg_of X G aD, fStepInit, _, ⟨mkD, iD, jD, kcD⟩, ok_stepInit FStepInit T, bStepInit⟩
  have hDigit : DefD P w K mg base 1 "is_digit" ["c"] (spB Sg04.digit) := ⟨⟨fIsDigit, _, PySem.W.mg_of X G aIsDigit, ok_isDigit FIsDigit T, bIsDigit, kIsDigit⟩⟩
  have S : Small P w K mg base D := { step := ⟨PySem.W.mg_of X G aD, fStepInit, _, ⟨mkD, iD, jD, kcD⟩, ok_stepInit FStepInit T, bStepInit⟩, goes := ⟨⟨fGoes, _, PySem.W.mg_of X G aGoes, ok_goes FGoes T hStep, bGoes, kGoes⟩⟩, adds := ⟨⟨fAdds, _, PySem.W.mg_of X G aAdds, ok_adds FAdds T hStep, bAdds, kAdds⟩⟩, finishes := ⟨⟨fFinishes, _, PySem.W.mg_of X G aFinishes, ok_finishes FFinishes T hStep, bFinishes, kFinishes⟩⟩, wrong := ⟨⟨fWrong, _, PySem.W.mg_of X G aWrong, ok_wrong FWrong T hStep, bWrong, kWrong⟩⟩, letter := ⟨⟨fIsLetter, _, PySem.W.mg_of X G aIsLetter, (ok_isLetter FIsLetter T).mono (by decide), bIsLetter, kIsLetter⟩⟩, digit := ⟨⟨fIsDigit, _, PySem.W.mg_of X G aIsDigit, (ok_isDigit FIsDigit T).mono (by decide), bIsDigit, kIsDigit⟩⟩, power := ⟨⟨fIsE, _, PySem.W.mg_of X G aIsE, (ok_isE FIsE T).mono (by decide), bIsE, kIsE⟩⟩, hexv := ⟨⟨fHexValue, _, PySem.W.mg_of X G aHexValue, (ok_hexValue FHexValue T hDigit).mono (by decide), bHexValue, kHexValue⟩⟩ }
  have oStart := ok_start_steps FStart T S
  have dStart : DefD P w K mg base 4 "start_steps" ["c"] (spSteps D startL) := ⟨⟨fStart, _, PySem.W.mg_of X G aStart, oStart, bStart, kStart⟩⟩
  have dFas : DefD P w K mg base 5 "finish_and_start" ["kind", "c"] (spFas D) := ⟨⟨fFas, _, PySem.W.mg_of X G aFas, ok_fas FFas S dStart, bFas, kFas⟩⟩
  have Tb : Table P w K mg base D [fStart, fWord, fMinus, fZero, fWhole, fPoint, fFraction, fE, fSign, fExponent, fText, fEscape, fHex, fLow, fComment] := ⟨fun j L e => match j, e with
    | 0, e => by
      have e' : startL = L := Option.some.inj e
      subst e'
      exact ⟨fStart, _, rfl, (ok_start_steps FStart T S).mono (by decide), bStart, kStart⟩
    | 1, e => by
      have e' : wordL = L := Option.some.inj e
      subst e'
      exact ⟨fWord, _, rfl, (ok_word_steps FWord T S dFas).mono (by decide), bWord, kWord⟩
    | 2, e => by
      have e' : minusL = L := Option.some.inj e
      subst e'
      exact ⟨fMinus, _, rfl, (ok_minus_steps FMinus T S).mono (by decide), bMinus, kMinus⟩
    | 3, e => by
      have e' : zeroL = L := Option.some.inj e
      subst e'
      exact ⟨fZero, _, rfl, (ok_zero_steps FZero T S dFas).mono (by decide), bZero, kZero⟩
    | 4, e => by
      have e' : wholeL = L := Option.some.inj e
      subst e'
      exact ⟨fWhole, _, rfl, (ok_whole_steps FWhole T S dFas).mono (by decide), bWhole, kWhole⟩
    | 5, e => by
      have e' : pointL = L := Option.some.inj e
      subst e'
      exact ⟨fPoint, _, rfl, (ok_point_steps FPoint T S).mono (by decide), bPoint, kPoint⟩
    | 6, e => by
      have e' : fractionL = L := Option.some.inj e
      subst e'
      exact ⟨fFraction, _, rfl, (ok_fraction_steps FFraction T S dFas).mono (by decide), bFraction, kFraction⟩
    | 7, e => by
      have e' : eL = L := Option.some.inj e
      subst e'
      exact ⟨fE, _, rfl, (ok_e_steps FE T S).mono (by decide), bE, kE⟩
    | 8, e => by
      have e' : signL = L := Option.some.inj e
      subst e'
      exact ⟨fSign, _, rfl, (ok_sign_steps FSign T S).mono (by decide), bSign, kSign⟩
    | 9, e => by
      have e' : exponentL = L := Option.some.inj e
      subst e'
      exact ⟨fExponent, _, rfl, (ok_exponent_steps FExponent T S dFas).mono (by decide), bExponent, kExponent⟩
    | 10, e => by
      have e' : textL = L := Option.some.inj e
      subst e'
      exact ⟨fText, _, rfl, (ok_text_steps FText T S).mono (by decide), bText, kText⟩
    | 11, e => by
      have e' : escapeL = L := Option.some.inj e
      subst e'
      exact ⟨fEscape, _, rfl, (ok_escape_steps FEscape T S).mono (by decide), bEscape, kEscape⟩
    | 12, e => by
      have e' : hexL = L := Option.some.inj e
      subst e'
      exact ⟨fHex, _, rfl, (ok_hex_steps FHex T S).mono (by decide), bHex, kHex⟩
    | 13, e => by
      have e' : lowL = L := Option.some.inj e
      subst e'
      exact ⟨fLow, _, rfl, (ok_low_steps FLow T S).mono (by decide), bLow, kLow⟩
    | 14, e => by
      have e' : commentL = L := Option.some.inj e
      subst e'
      exact ⟨fComment, _, rfl, (ok_comment_steps FComment T S).mono (by decide), bComment, kComment⟩
    | j + 15, e => by
      have e' : (none : Option (Int → List Stp)) = some L := e
      cases e'⟩
  have tS : TupAt K aS (([fStart, fWord, fMinus, fZero, fWhole, fPoint, fFraction, fE, fSign, fExponent, fText, fEscape, fHex, fLow, fComment] : List Addr).map V.ref) := ⟨_, _, _, lS, rfl, rfl, (by show 15 ≤ sizeLine; decide), vals_refs [fStart, fWord, fMinus, fZero, fWhole, fPoint, fFraction, fE, fSign, fExponent, fText, fEscape, fHex, fLow, fComment]⟩
  have dSteps : DefD P w K mg base 7 "steps_of" ["state", "c"] (spStepsOf D) := ⟨⟨fStepsOf, _, PySem.W.mg_of X G aStepsOf, ok_stepsOf FStepsOf (PySem.W.mg_of X G mS) tS Tb, bStepsOf, kStepsOf⟩⟩
  have dCount : DefD P w K mg base 1 "count_finished" ["steps"] (spCount D) := ⟨⟨fCount, _, PySem.W.mg_of X G aCount, ok_count FCount T Tr.len, bCount, kCount⟩⟩
  have dGoWrong : MthD P w K mg base 1 C "go_wrong" ["self"] (spGoWrong C) := ⟨⟨fGoWrong, _, ⟨aGoWrong, iGoWrong, kGoWrong⟩, ok_goWrong FGoWrong T Tr, bGoWrong⟩⟩
  have dAddByte : MthD P w K mg base 2 C "add_byte" ["self", "byte"] (spAddByte C) := ⟨⟨fAddByte, _, ⟨aAddByte, iAddByte, kAddByte⟩, ok_addByte FAddByte Tr dGoWrong, bAddByte⟩⟩
  have dDoStep : MthD P w K mg base 3 C "do_step" ["self", "step"] (spDoStep C D) := ⟨⟨fDoStep, _, ⟨aDoStep, iDoStep, kDoStep⟩, ok_doStep FDoStep T Tr dAddByte dGoWrong, bDoStep⟩⟩
  have dHand : MthD P w K mg base 8 C "hand" ["self", "state", "c"] (spHand C) := ⟨⟨fHand, _, ⟨aHand, iHand, kHand⟩, ok_hand FHand T Tr dSteps dCount dDoStep, bHand⟩⟩
  have dRun : MthD P w K mg base 9 C "run" ["self", "cs"] (spRun K C) := ⟨⟨fRun, _, ⟨aRun, iRun, kRun⟩, ok_run FRun Tr dHand, bRun⟩⟩
  have dWhere : MthD P w K mg base 1 C "where" ["self"] (spWhere C) := ⟨⟨fWhere, _, ⟨aWhere, iWhere, kWhere⟩, ok_where FWhere Tr, bWhere⟩⟩
  have dKind : MthD P w K mg base 1 C "kind" ["self"] (spKind C) := ⟨⟨fKind, _, ⟨aKind, iKind, kKind⟩, ok_kind FKind Tr Ta, bKind⟩⟩
  have dTake : MthD P w K mg base 1 C "take" ["self", "most"] (spTake C) := ⟨⟨fTake, _, ⟨aTake, iTake, kTake⟩, ok_take FTake Tr Ta, bTake⟩⟩
  have dFault : MthD P w K mg base 1 C "fault" ["self"] (spFault C) := ⟨⟨fFault, _, ⟨aFault, iFault, kFault⟩, ok_fault FFault Tr Ta, bFault⟩⟩
  have dCallLen : DefD P w K mg base 1 "call_length" ["calls", "at"] (spCallLen K) := ⟨⟨fCallLen, _, PySem.W.mg_of X G aCallLen, ok_callLen FCallLen Ta, bCallLen, kCallLen⟩⟩
  have dAnsCall : DefD P w K mg base 10 "answer_call" ["reader", "call"] (spAnsCall C) := ⟨⟨fAnsCall, _, PySem.W.mg_of X G aAnsCall, ok_ansCall FAnsCall Tr Ta dHand dRun dWhere dKind dTake dFault, bAnsCall, kAnsCall⟩⟩
  have dReader : ClsD P w K mg base 1 "Reader" C ["self"] (spRInit C) := ⟨PySem.W.mg_of X G aC, fRInit, _, ⟨mkC, iC, jC, kcC⟩, ok_rInit FRInit T Tr, bRInit⟩
  exact ok_answers FAnswers Tr.len dReader dCallLen dAnsCall
end Sr
end
open PySem PySem.W PyProof.Rows
set_option Elab.async false
set_option maxRecDepth 100000
set_option maxHeartbeats 0 in
theorem PySem.Challenge.cw_statereader_s01_answers_holds : PySem.Challenge.rw_statereader_s01_answers.Holds := by
  w_on; k_headS; (case hw => exact ⟨[.list [.int 3]], by decide +kernel, by decide +kernel⟩)
  k_fillS
  refine L2.walk_specK (r := PySem.Challenge.rw_statereader_s01_answers) (k := 11) (CX := L2.CX0) (ps := ["calls"]) (sp := Sr.spAns) (by decide +kernel) rfl rfl ⟨rfl, by decide, by decide⟩ (fun w h Y => PySem.W.kIn_of Y) ?F ?S (fun _ _ _ _ z => z)
  case F =>
    intro w mg fa h Y KX G hmg
    refine' Sr.all_mk KX G hmg ?gStart ?gWord ?gMinus ?gZero ?gWhole ?gPoint ?gFraction ?gE ?gSign ?gExponent ?gText ?gEscape ?gHex ?gLow ?gComment ?gOver ?gEnd ?gKWord ?gKWhole ?gKNumber ?gKText ?gKMark ?gRefused ?gNoPlace ?gHighest ?gMost ?gMostW ?gMostOut ?gNoneW ?gTooSmall ?gNoKind ?gPlaces ?gCHand ?gCRun ?gCWhere ?gCKind ?gCTake ?gCFault ?s_Go ?s_Add ?s_High ?s_LowD ?s_Finish ?s_WrongD ?zOrd ?zLen ?mB ?lB ?mM ?lM ?aD ?iD ?jD ?lStepInit ?cStepInit ?kStepInit ?pgD ?hdD ?poD ?saD ?mkD ?kcD ?nD_deed ?nD_state ?nD_number ?aGoes ?lGoes ?cGoes ?kGoes ?aAdds ?lAdds ?cAdds ?kAdds ?aFinishes ?lFinishes ?cFinishes ?kFinishes ?aWrong ?lWrong ?cWrong ?kWrong ?aIsLetter ?lIsLetter ?cIsLetter ?kIsLetter ?aIsDigit ?lIsDigit ?cIsDigit ?kIsDigit ?aIsE ?lIsE ?cIsE ?kIsE ?aHexValue ?lHexValue ?cHexValue ?kHexValue ?aStart ?lStart ?cStart ?kStart ?aFas ?lFas ?cFas ?kFas ?aWord ?lWord ?cWord ?kWord ?aMinus ?lMinus ?cMinus ?kMinus ?aZero ?lZero ?cZero ?kZero ?aWhole ?lWhole ?cWhole ?kWhole ?aPoint ?lPoint ?cPoint ?kPoint ?aFraction ?lFraction ?cFraction ?kFraction ?aE ?lE ?cE ?kE ?aSign ?lSign ?cSign ?kSign ?aExponent ?lExponent ?cExponent ?kExponent ?aText ?lText ?cText ?kText ?aEscape ?lEscape ?cEscape ?kEscape ?aHex ?lHex ?cHex ?kHex ?aLow ?lLow ?cLow ?kLow ?aComment ?lComment ?cComment ?kComment ?aStepsOf ?lStepsOf ?cStepsOf ?kStepsOf ?aCount ?lCount ?cCount ?kCount ?aCallLen ?lCallLen ?cCallLen ?kCallLen ?aAnsCall ?lAnsCall ?cAnsCall ?kAnsCall ?aAnswers ?lAnswers ?cAnswers ?kAnswers ?mS ?lS ?aC ?iC ?jC ?lRInit ?cRInit ?kRInit ?pgC ?hdC ?poC ?saC ?mkC ?kcC ?nC_state ?nC_handed ?nC_current ?nC_high ?nC_waiting ?nC_fault_place ?aGoWrong ?iGoWrong ?lGoWrong ?cGoWrong ?kGoWrong ?aAddByte ?iAddByte ?lAddByte ?cAddByte ?kAddByte ?aDoStep ?iDoStep ?lDoStep ?cDoStep ?kDoStep ?aHand ?iHand ?lHand ?cHand ?kHand ?aRun ?iRun ?lRun ?cRun ?kRun ?aWhere ?iWhere ?lWhere ?cWhere ?kWhere ?aKind ?iKind ?lKind ?cKind ?kKind ?aTake ?iTake ?lTake ?cTake ?kTake ?aFault ?iFault ?lFault ?cFault ?kFault
    (case gStart => k_is)
    (case gWord => k_is)
    (case gMinus => k_is)
    (case gZero => k_is)
    (case gWhole => k_is)
    (case gPoint => k_is)
    (case gFraction => k_is)
    (case gE => k_is)
    (case gSign => k_is)
    (case gExponent => k_is)
    (case gText => k_is)
    (case gEscape => k_is)
    (case gHex => k_is)
    (case gLow => k_is)
    (case gComment => k_is)
    (case gOver => k_is)
    (case gEnd => k_is)
    (case gKWord => k_is)
    (case gKWhole => k_is)
    (case gKNumber => k_is)
    (case gKText => k_is)
    (case gKMark => k_is)
    (case gRefused => k_is)
    (case gNoPlace => k_is)
    (case gHighest => k_is)
    (case gMost => k_is)
    (case gMostW => k_is)
    (case gMostOut => k_is)
    (case gNoneW => k_is)
    (case gTooSmall => k_is)
    (case gNoKind => k_is)
    (case gPlaces => k_is)
    (case gCHand => k_is)
    (case gCRun => k_is)
    (case gCWhere => k_is)
    (case gCKind => k_is)
    (case gCTake => k_is)
    (case gCFault => k_is)
    (case s_Go => k_is)
    (case s_Add => k_is)
    (case s_High => k_is)
    (case s_LowD => k_is)
    (case s_Finish => k_is)
    (case s_WrongD => k_is)
    (case zOrd => k_is)
    (case zLen => k_is)
    (case mB => k_is)
    (case lB => k_is)
    (case mM => k_is)
    (case lM => k_is)
    (case aD => k_is)
    (case iD => k_is)
    (case jD => k_is)
    (case lStepInit => k_is)
    (case cStepInit => k_is)
    (case kStepInit => k_is)
    (case pgD => k_is)
    (case hdD => k_is)
    (case poD => k_is)
    (case saD => k_is)
    (case mkD => k_is)
    (case kcD => k_is)
    (case nD_deed => k_is)
    (case nD_state => k_is)
    (case nD_number => k_is)
    (case aGoes => k_is)
    (case lGoes => k_is)
    (case cGoes => k_is)
    (case kGoes => k_is)
    (case aAdds => k_is)
    (case lAdds => k_is)
    (case cAdds => k_is)
    (case kAdds => k_is)
    (case aFinishes => k_is)
    (case lFinishes => k_is)
    (case cFinishes => k_is)
    (case kFinishes => k_is)
    (case aWrong => k_is)
    (case lWrong => k_is)
    (case cWrong => k_is)
    (case kWrong => k_is)
    (case aIsLetter => k_is)
    (case lIsLetter => k_is)
    (case cIsLetter => k_is)
    (case kIsLetter => k_is)
    (case aIsDigit => k_is)
    (case lIsDigit => k_is)
    (case cIsDigit => k_is)
    (case kIsDigit => k_is)
    (case aIsE => k_is)
    (case lIsE => k_is)
    (case cIsE => k_is)
    (case kIsE => k_is)
    (case aHexValue => k_is)
    (case lHexValue => k_is)
    (case cHexValue => k_is)
    (case kHexValue => k_is)
    (case aStart => k_is)
    (case lStart => k_is)
    (case cStart => k_is)
    (case kStart => k_is)
    (case aFas => k_is)
    (case lFas => k_is)
    (case cFas => k_is)
    (case kFas => k_is)
    (case aWord => k_is)
    (case lWord => k_is)
    (case cWord => k_is)
    (case kWord => k_is)
    (case aMinus => k_is)
    (case lMinus => k_is)
    (case cMinus => k_is)
    (case kMinus => k_is)
    (case aZero => k_is)
    (case lZero => k_is)
    (case cZero => k_is)
    (case kZero => k_is)
    (case aWhole => k_is)
    (case lWhole => k_is)
    (case cWhole => k_is)
    (case kWhole => k_is)
    (case aPoint => k_is)
    (case lPoint => k_is)
    (case cPoint => k_is)
    (case kPoint => k_is)
    (case aFraction => k_is)
    (case lFraction => k_is)
    (case cFraction => k_is)
    (case kFraction => k_is)
    (case aE => k_is)
    (case lE => k_is)
    (case cE => k_is)
    (case kE => k_is)
    (case aSign => k_is)
    (case lSign => k_is)
    (case cSign => k_is)
    (case kSign => k_is)
    (case aExponent => k_is)
    (case lExponent => k_is)
    (case cExponent => k_is)
    (case kExponent => k_is)
    (case aText => k_is)
    (case lText => k_is)
    (case cText => k_is)
    (case kText => k_is)
    (case aEscape => k_is)
    (case lEscape => k_is)
    (case cEscape => k_is)
    (case kEscape => k_is)
    (case aHex => k_is)
    (case lHex => k_is)
    (case cHex => k_is)
    (case kHex => k_is)
    (case aLow => k_is)
    (case lLow => k_is)
    (case cLow => k_is)
    (case kLow => k_is)
    (case aComment => k_is)
    (case lComment => k_is)
    (case cComment => k_is)
    (case kComment => k_is)
    (case aStepsOf => k_is)
    (case lStepsOf => k_is)
    (case cStepsOf => k_is)
    (case kStepsOf => k_is)
    (case aCount => k_is)
    (case lCount => k_is)
    (case cCount => k_is)
    (case kCount => k_is)
    (case aCallLen => k_is)
    (case lCallLen => k_is)
    (case cCallLen => k_is)
    (case kCallLen => k_is)
    (case aAnsCall => k_is)
    (case lAnsCall => k_is)
    (case cAnsCall => k_is)
    (case kAnsCall => k_is)
    (case aAnswers => k_is)
    (case lAnswers => k_is)
    (case cAnswers => k_is)
    (case kAnswers => k_is)
    (case mS => k_is)
    (case lS => k_is)
    (case aC => k_is)
    (case iC => k_is)
    (case jC => k_is)
    (case lRInit => k_is)
    (case cRInit => k_is)
    (case kRInit => k_is)
    (case pgC => k_is)
    (case hdC => k_is)
    (case poC => k_is)
    (case saC => k_is)
    (case mkC => k_is)
    (case kcC => k_is)
    (case nC_state => k_is)
    (case nC_handed => k_is)
    (case nC_current => k_is)
    (case nC_high => k_is)
    (case nC_waiting => k_is)
    (case nC_fault_place => k_is)
    (case aGoWrong => k_is)
    (case iGoWrong => k_is)
    (case lGoWrong => k_is)
    (case cGoWrong => k_is)
    (case kGoWrong => k_is)
    (case aAddByte => k_is)
    (case iAddByte => k_is)
    (case lAddByte => k_is)
    (case cAddByte => k_is)
    (case kAddByte => k_is)
    (case aDoStep => k_is)
    (case iDoStep => k_is)
    (case lDoStep => k_is)
    (case cDoStep => k_is)
    (case kDoStep => k_is)
    (case aHand => k_is)
    (case iHand => k_is)
    (case lHand => k_is)
    (case cHand => k_is)
    (case kHand => k_is)
    (case aRun => k_is)
    (case iRun => k_is)
    (case lRun => k_is)
    (case cRun => k_is)
    (case kRun => k_is)
    (case aWhere => k_is)
    (case iWhere => k_is)
    (case lWhere => k_is)
    (case cWhere => k_is)
    (case kWhere => k_is)
    (case aKind => k_is)
    (case iKind => k_is)
    (case lKind => k_is)
    (case cKind => k_is)
    (case kKind => k_is)
    (case aTake => k_is)
    (case iTake => k_is)
    (case lTake => k_is)
    (case cTake => k_is)
    (case kTake => k_is)
    (case aFault => k_is)
    (case iFault => k_is)
    (case lFault => k_is)
    (case cFault => k_is)
    (case kFault => k_is)
  case S =>
    intro K H xs a hO hwi hask hx
    cases hx with
    | cons h1 h2 =>
      cases h2
      cases h1 with
      | lst hs ha =>
        have e := L2.ints_dw a.1 _ ha
        subst e
        have q : ((Codec.inLen 0 30000 a.1 && a.1.all (Codec.inInt (-2147483648) 2147483647)) && true) = true := hwi
        rw [Bool.and_eq_true, Bool.and_eq_true] at q
        exact ⟨_, a.1, rfl, hs, (Codec.inNat_iff.mp q.1.1).2, hask, fun H' p hp => .lst (L2.SqL.of hp) (L2.dw_ints _)⟩

import PyProof.Rows.All
import Wide.All
import OpenK.AllK
import Wide.FinOn
import PyProof.EqAt
import PyProof.EqKinds
import PyProof.TupleCall
import KE.BitLaws
import Open.SpecLaws
import KE.OsHead
import KE.OsGo
import PyFlatLaws
import PySem.Challenge.RW_markedgrains_s01_answers
set_option Elab.async false
set_option linter.all false
set_option maxRecDepth 100000
/-! THE HAND LAYER, for ints, bools, texts, own classes, lists, tuples, dicts, comprehensions, walks over dicts, enumerate, zip, reversed, texts, calls, loops. Paste it whole ahead of your own text; what your proof does not reach may be deleted. -/
namespace L2
open PySem PySem.Spec PyProof.Rows

/-- a key: an int or a str -/
abbrev Key := Sum Int Str
def keyIs : Key → Value → Bool
  | .inl k, v => Value.isInt k v
  | .inr x, v => Value.isStrOf x v
def keyH (w : World) : Key → Int
  | .inl k => hashInt k
  | .inr x => hashStr w x
theorem keyIs_shape : ∀ {k : Key} {v : Value}, keyIs k v = true → (∃ i t, k = Sum.inl i ∧ v = Value.int i t) ∨ (∃ x t, k = Sum.inr x ∧ v = Value.str x t)
  | .inl i, v, h => by
    obtain ⟨t, e⟩ := Value.isInt_shape (k := i) (v := v) h
    exact .inl ⟨i, t, rfl, e⟩
  | .inr x, v, h => by
    obtain ⟨t, e⟩ := Value.isStrOf_shape (x := x) (v := v) h
    exact .inr ⟨x, t, rfl, e⟩
theorem key_ll (a b : Int) : decide ((Sum.inl a : Key) = Sum.inl b) = (a == b) := by
  by_cases e : a = b
  · subst e; simp
  · have h : ¬ (Sum.inl a : Key) = Sum.inl b := fun q => e (Sum.inl.inj q)
    rw [decide_eq_false h]
    exact (beq_eq_false_iff_ne.mpr e).symm
theorem key_rr (a b : Str) : decide ((Sum.inr a : Key) = Sum.inr b) = decide (a = b) := by
  by_cases e : a = b
  · subst e; simp
  · have h : ¬ (Sum.inr a : Key) = Sum.inr b := fun q => e (Sum.inr.inj q)
    rw [decide_eq_false h, decide_eq_false e]
theorem key_lr (a : Int) (b : Str) : decide ((Sum.inl a : Key) = Sum.inr b) = false := decide_eq_false (fun q => nomatch q)
theorem key_rl (a : Str) (b : Int) : decide ((Sum.inr a : Key) = Sum.inl b) = false := decide_eq_false (fun q => nomatch q)

def mixKind (prog : Program) (w : World) : PySem.KeyKind prog w Key where
  is := keyIs
  hash := keyH w
  inj := fun v a b ha hb => by
    rcases keyIs_shape ha with ⟨i, t, rfl, rfl⟩ | ⟨x, t, rfl, rfl⟩
    · rcases keyIs_shape hb with ⟨j, u, rfl, e⟩ | ⟨y, u, rfl, e⟩
      · injection e with e1 _; rw [e1]
      · exact nomatch e
    · rcases keyIs_shape hb with ⟨j, u, rfl, e⟩ | ⟨y, u, rfl, e⟩
      · exact nomatch e
      · injection e with e1 _; rw [e1]
  byValue := fun k v h => by
    rcases keyIs_shape h with ⟨i, t, rfl, rfl⟩ | ⟨x, t, rfl, rfl⟩ <;> rfl
  pyHash := fun hv h => by
    rcases keyIs_shape hv with ⟨i, t, rfl, rfl⟩ | ⟨x, t, rfl, rfl⟩
    · exact wpAny_pyHash_int h
    · exact wpAny_pyHash_str h
  eqBool := fun hu hv h => by
    rcases keyIs_shape hu with ⟨i, t, rfl, rfl⟩ | ⟨x, t, rfl, rfl⟩
    · rcases keyIs_shape hv with ⟨j, u, rfl, rfl⟩ | ⟨y, u, rfl, rfl⟩
      · rw [key_ll] at h; exact wpAny_eqBool_int h
      · rw [key_lr] at h; exact SeqAt.EqAt.int_str i t y u _ _ _ _ h
    · rcases keyIs_shape hv with ⟨j, u, rfl, rfl⟩ | ⟨y, u, rfl, rfl⟩
      · rw [key_rl] at h; exact SeqAt.EqAt.str_int x t j u _ _ _ _ h
      · rw [key_rr] at h; exact wpAny_eqBool_str h
  «strs» := fun k x t v h => by
    rcases keyIs_shape h with ⟨i, u, rfl, e⟩ | ⟨y, u, rfl, e⟩
    · exact nomatch e
    · injection e with e1 _
      subst e1
      cases v <;> rfl

end L2

namespace L2
open PySem PySem.Spec PyProof.Rows

/-- a value, without the heap -/
inductive V where
  | non | bl (b : Bool) | int (i : Int) | str (x : Str) | byt (b : Array UInt8) | flt (b : UInt64) | ref (a : Addr) | ty (n : String)
  deriving DecidableEq

def RelV : V → Value → Prop
  | .non, u => u = Value.none
  | .bl b, u => u = Value.bool b
  | .int i, u => ∃ t, u = Value.int i t
  | .str x, u => ∃ t, u = Value.str x t
  | .byt b, u => ∃ t, u = Value.bytes b t
  | .flt b, u => ∃ t, u = Value.float b t
  | .ref a, u => u = Value.ref a
  | .ty n, u => u = Value.type n

abbrev Vals : List V → List Value → Prop := Paired RelV
theorem Vals.length {xs : List V} {us : List Value} (r : Vals xs us) : xs.length = us.length := Paired.length r
theorem Vals.get : ∀ {xs : List V} {us : List Value} {i : Nat} {x : V}, Vals xs us → xs[i]? = some x → ∃ u, us[i]? = some u ∧ RelV x u
  | _, _, _, _, .nil, e => by simp at e
  | _, _, 0, _, .cons r _, e => by simp at e; subst e; exact ⟨_, rfl, r⟩
  | _, _, i + 1, x, .cons _ t, e => by
    obtain ⟨u, h1, h2⟩ := Vals.get (i := i) (x := x) t (by simpa using e)
    exact ⟨u, by simpa using h1, h2⟩
theorem Vals.set {x : V} {u : Value} (r : RelV x u) : ∀ {xs : List V} {us : List Value} (i : Nat), Vals xs us → Vals (xs.set i x) (us.set i u)
  | _, _, _, .nil => .nil
  | _, _, 0, .cons _ t => .cons r t
  | _, _, i + 1, .cons q t => .cons q (Vals.set r i t)
theorem Vals.append : ∀ {xs ys : List V} {us ws : List Value}, Vals xs us → Vals ys ws → Vals (xs ++ ys) (us ++ ws)
  | _, _, _, _, .nil, s => s
  | _, _, _, _, .cons r t, s => .cons r (Vals.append t s)
theorem Vals.take : ∀ {xs : List V} {us : List Value} (n : Nat), Vals xs us → Vals (xs.take n) (us.take n)
  | _, _, 0, _ => .nil
  | _, _, _ + 1, .nil => .nil
  | _, _, n + 1, .cons r t => .cons r (Vals.take n t)
theorem Vals.drop : ∀ {xs : List V} {us : List Value} (n : Nat), Vals xs us → Vals (xs.drop n) (us.drop n)
  | _, _, 0, r => r
  | _, _, _ + 1, .nil => .nil
  | _, _, n + 1, .cons _ t => Vals.drop n t

def RelO : Option V → Option Value → Prop
  | some v, some u => RelV v u
  | none, none => True
  | _, _ => False
def KV {κ : Type} : List (κ × V) → List (κ × Value) → Prop := Paired fun (p : κ × V) (q : κ × Value) => p.1 = q.1 ∧ RelV p.2 q.2

/-- a key of a dict (00_mix): an int or a text -/
def kV : Key → V
  | .inl i => .int i
  | .inr x => .str x

/-- what stands at a tracked address -/
inductive HO where
  /-- a list -/
  | lst (xs : List V)
  /-- a tuple (never changes) -/
  | tup (xs : List V)
  /-- a dict whose keys are ints and texts; one whose keys are tuples of ints and texts (the empty one is both) -/
  | dK (kvs : List (Key × V)) | dT (kvs : List (List Key × V))
  /-- a set of ints: its members, its size -/
  | set (S : Int → Bool) (n : Nat)
  /-- an instance of the class at C, its dict at dx, its attributes -/
  | ins (C dx : Addr) (fs : List (Str × V))
  /-- the dict of the instance at x -/
  | own (x : Addr)
  /-- the dict of an exception -/
  | xd (fs : List (Str × V))
  /-- a bound method, f of x -/
  | met (f x : Addr)
  /-- a range object lo, lo + 1, .. below hi -/
  | rng (lo hi : Int)
  /-- a thing that is known to the object (the script; a dict while a loop walks it): read, never written while it is so -/
  | frz (o : Obj) (u : HO)
  /-- a code object's table -/
  | tbl (ps : Array Value)
  /-- any other thing, by what is true of its one object (a def of one's own: SetO a S n := HO.ext fun h => ..) -/
  | ext (φ : Heap → Prop)

abbrev Hp := Addr → Option HO
def upd (H : Hp) (a : Addr) (o : HO) : Hp := fun b => if b = a then some o else H b
theorem upd_same {H : Hp} {a : Addr} {o : HO} : upd H a o a = some o := by unfold upd; rw [if_pos rfl]
theorem upd_ne {H : Hp} {a b : Addr} {o : HO} (h : b ≠ a) : upd H a o b = H b := by unfold upd; rw [if_neg h]
theorem upd_upd {H : Hp} {a : Addr} {o u : HO} : upd (upd H a o) a u = upd H a u := by
  funext b; unfold upd; split <;> rfl
/-- two objects of different content stand apart -/
theorem ne_of {H : Hp} {a b : Addr} {o u : HO} (h : H a = some o) (h' : H b = some u) (d : o ≠ u) : a ≠ b := by
  intro e; subst e; rw [h] at h'; exact d (Option.some.inj h')
theorem ne_of_none {H : Hp} {a b : Addr} {o : HO} (h : H a = some o) (h' : H b = none) : a ≠ b := by
  intro e; subst e; rw [h] at h'; cases h'

section
variable (P : Program) (w : World)
def ObjOk (H : Hp) (h : Heap) (a : Addr) : HO → Prop
  | .lst xs => xs.length ≤ sizeLine ∧ ∃ (its : List Value) (n : Nat), Vals xs its ∧ h.get? a = some { cls := .type "list", data := .seq its.toArray n }
  | .tup xs => xs.length ≤ sizeLine ∧ ∃ its : List Value, Vals xs its ∧ IsTup h a its.toArray
  | .dK kvs => kvs.length ≤ sizeLine ∧ (a == sysModules) = false ∧ ∃ vs, KV kvs vs ∧ h.DictOf (mixKind P w) a vs
  | .dT kvs => kvs.length ≤ sizeLine ∧ (a == sysModules) = false ∧ ∃ xs : List (List Key × Addr × Value),
      Paired (fun (p : List Key × V) (q : List Key × Addr × Value) => p.1 = q.1 ∧ H q.2.1 = some (.tup (p.1.map kV)) ∧ RelV p.2 q.2.2) kvs xs ∧
      ∃ o es ep, h.get? a = some o ∧ o.ExactDict ∧ o.data = .dict es ep ∧ es.toList = xs.map (entryOfKey (tupleKind (mixKind P w))) ∧ (xs.map (·.1)).Nodup
  | .set S n => h.SetOf (intKind P w) a S n
  | .ins C dx fs => H dx = some (.own a) ∧ fs.length ≤ 1000 ∧ dx ≠ a ∧ h.get? a = some (PySem.W.instObj C dx) ∧
      ∃ mA, h.Ns1 dx mA ∧ (∀ f, RelO (fs.lookup f) (mA f)) ∧ PySem.Within mA (fs.map (·.1))
  | .own _ => ∃ o, h.get? a = some o
  | .xd fs => ∃ mA, h.Ns1 a mA ∧ ∀ f, RelO (fs.lookup f) (mA f)
  | .rng lo hi => ∃ t u v, h.get? a = some { cls := .type "range", data := .fields #[.int lo t, .int hi u, .int 1 v] }
  | .frz o u => h.get? a = some o ∧ ObjOk H h a u
  | .tbl ps => h.get? a = some { cls := .none, data := .fields ps }
  | .met f x => h.get? a = some (PySem.W.methodObj (.ref f) (.ref x))
  | .ext φ => φ h ∧ (∃ o, h.get? a = some o) ∧ ∀ h1 h2 : Heap, φ h1 → (∀ o, h1.get? a = some o → h2.get? a = some o) → φ h2
/-- the abstract heap is held -/
def HOk (H : Hp) (h : Heap) : Prop := ∀ a o, H a = some o → ObjOk P w H h a o
end

section
variable {P : Program} {w : World} {H H' : Hp} {h h' : Heap} {a : Addr} {o : HO}
theorem ObjOk.lt (x : ObjOk P w H h a o) : a < h.objs.size := by
  cases o with
  | lst xs => obtain ⟨_, _, _, _, e⟩ := x; exact Heap.lt_size e
  | tup xs => obtain ⟨_, _, _, p⟩ := x; exact p.lt
  | dK kvs => obtain ⟨_, _, _, _, o, _, _, e, _⟩ := x; exact Heap.lt_size e
  | dT kvs => obtain ⟨_, _, _, _, o, _, _, e, _⟩ := x; exact Heap.lt_size e
  | set S n => obtain ⟨o, _, _, _, e, _⟩ := x; exact Heap.lt_size e
  | ins C dx fs => obtain ⟨_, _, _, e, _⟩ := x; exact Heap.lt_size e
  | own y => obtain ⟨_, e⟩ := x; exact Heap.lt_size e
  | xd fs => obtain ⟨_, ⟨_, _, _, e, _⟩, _⟩ := x; exact Heap.lt_size e
  | rng lo hi => obtain ⟨_, _, _, e⟩ := x; exact Heap.lt_size e
  | frz ob u => obtain ⟨e, _⟩ := x; exact Heap.lt_size e
  | tbl ps => exact Heap.lt_size (show h.get? a = some _ from x)
  | met f y => exact Heap.lt_size (show h.get? a = some _ from x)
  | ext φ => obtain ⟨_, ⟨_, e⟩, _⟩ := x; exact Heap.lt_size e
theorem Paired.mapP {α β : Type} {F G : α → β → Prop} : ∀ {l₁ : List α} {l₂ : List β}, Paired F l₁ l₂ → (∀ a b, F a b → G a b) → Paired G l₁ l₂
  | _, _, .nil, _ => .nil
  | _, _, .cons r t, f => .cons (f _ _ r) (Paired.mapP t f)
/-- what an object's description leans on: its own object, its own dict, the tuples -/
theorem ObjOk.stay (x : ObjOk P w H h a o) (k : ∀ b u, (b = a ∨ H b = some (.own a)) → h.get? b = some u → h'.get? b = some u)
    (ho : ∀ b, H b = some (.own a) → H' b = some (.own a)) (ht : ∀ b xs, H b = some (.tup xs) → H' b = some (.tup xs)) : ObjOk P w H' h' a o := by
  induction o with
  | lst xs => obtain ⟨z, its, n, r, e⟩ := x; exact ⟨z, its, n, r, k _ _ (.inl rfl) e⟩
  | tup xs => obtain ⟨z, its, r, ob, e, c⟩ := x; exact ⟨z, its, r, ob, k _ _ (.inl rfl) e, c⟩
  | dK kvs => obtain ⟨z, y, vs, r, ob, es, ep, e, c⟩ := x; exact ⟨z, y, vs, r, ob, es, ep, k _ _ (.inl rfl) e, c⟩
  | dT kvs =>
    obtain ⟨z, y, xs, r, ob, es, ep, e, c⟩ := x
    exact ⟨z, y, xs, Paired.mapP r fun p q z => ⟨z.1, ht _ _ z.2.1, z.2.2⟩, ob, es, ep, k _ _ (.inl rfl) e, c⟩
  | set S n => obtain ⟨ob, es, ep, t, e, c⟩ := x; exact ⟨ob, es, ep, t, k _ _ (.inl rfl) e, c⟩
  | ins C dx fs =>
    obtain ⟨d, z, ne, e, mA, ⟨od, es, ep, e2, c⟩, r⟩ := x
    exact ⟨ho _ d, z, ne, k _ _ (.inl rfl) e, mA, ⟨od, es, ep, k _ _ (.inr d) e2, c⟩, r⟩
  | own y => obtain ⟨ob, e⟩ := x; exact ⟨ob, k _ _ (.inl rfl) e⟩
  | xd fs => obtain ⟨mA, ⟨od, es, ep, e, c⟩, r⟩ := x; exact ⟨mA, ⟨od, es, ep, k _ _ (.inl rfl) e, c⟩, r⟩
  | rng lo hi => obtain ⟨t, u, v, e⟩ := x; exact ⟨t, u, v, k _ _ (.inl rfl) e⟩
  | frz ob u ih => obtain ⟨e, q⟩ := x; exact ⟨k _ _ (.inl rfl) e, ih q⟩
  | tbl ps =>
    have e : h.get? a = some { cls := .none, data := .fields ps } := x
    show h'.get? a = some { cls := .none, data := .fields ps }
    exact k a _ (.inl rfl) e
  | met f y =>
    have e : h.get? a = some (PySem.W.methodObj (.ref f) (.ref y)) := x
    show h'.get? a = some (PySem.W.methodObj (.ref f) (.ref y))
    exact k a _ (.inl rfl) e
  | ext φ => obtain ⟨p, ⟨o, e⟩, st⟩ := x; exact ⟨st _ _ p fun o q => k _ _ (.inl rfl) q, ⟨o, k _ _ (.inl rfl) e⟩, st⟩
theorem HOk.lt (x : HOk P w H h) (e : H a = some o) : a < h.objs.size := (x a o e).lt
theorem HOk.fresh (x : HOk P w H h) (e : h.objs.size ≤ a) : H a = none := by
  cases q : H a with
  | none => rfl
  | some u => exact absurd (Nat.lt_of_lt_of_le (x.lt q) e) (Nat.lt_irrefl _)
/-- every object of the heap is kept -/
theorem HOk.kept (x : HOk P w H h) (k : ∀ b u, h.get? b = some u → h'.get? b = some u) : HOk P w H h' := fun a o e =>
  (x a o e).stay (fun b u _ q => k b u q) (fun _ q => q) fun _ _ q => q
/-- a new object is laid and tracked -/
theorem HOk.laid (x : HOk P w H h) (k : ∀ b u, h.get? b = some u → h'.get? b = some u) (hp : h.objs.size ≤ a) (new : ObjOk P w (upd H a o) h' a o) : HOk P w (upd H a o) h' := fun b u e => by
  have hn := x.fresh hp
  by_cases hb : b = a
  · subst hb; rw [upd_same] at e; cases e; exact new
  · rw [upd_ne hb] at e
    exact (x b u e).stay (fun c v _ q => k c v q) (fun c q => by rw [upd_ne (ne_of_none q hn)]; exact q) fun c xs q => by rw [upd_ne (ne_of_none q hn)]; exact q
end

/-- what may be read as u: it is u, or a known u -/
def Rd (H : Hp) (a : Addr) (u : HO) : Prop := H a = some u ∨ ∃ o, H a = some (.frz o u)
theorem Rd.ok {P : Program} {w : World} {H : Hp} {h : Heap} {a : Addr} {u : HO} (r : Rd H a u) (x : HOk P w H h) : ObjOk P w H h a u := by
  rcases r with r | ⟨o, r⟩
  · exact x a u r
  · obtain ⟨_, q⟩ := x a _ r
    exact q
/-- what may be written -/
def Mut : Option HO → Prop
  | some (.lst _) => True
  | some (.dK _) => True
  | some (.dT _) => True
  | some (.set _ _) => True
  | some (.ins _ _ _) => True
  | some (.ext _) => True
  | _ => False
section
variable {P : Program} {w : World} {H : Hp} {h h' : Heap} {x e : Addr} {o' : HO}
/-- the object at e is changed: x itself, or the dict of the instance x -/
theorem HOk.write (ok : HOk P w H h) (mu : Mut (H x)) (he : e = x ∨ H e = some (.own x)) (k : ∀ b u, b ≠ e → h.get? b = some u → h'.get? b = some u) (heo : ∃ u, h'.get? e = some u)
    (new : ObjOk P w (upd H x o') h' x o') : HOk P w (upd H x o') h' := fun b u q => by
  have nown : ∀ c y, H c = some (.own y) → c ≠ x := fun c y r z => by subst z; rw [r] at mu; exact mu
  have ntup : ∀ c xs, H c = some (.tup xs) → c ≠ x := fun c xs r z => by subst z; rw [r] at mu; exact mu
  by_cases hb : b = x
  · subst hb; rw [upd_same] at q; cases q; exact new
  · rw [upd_ne hb] at q
    by_cases hbe : b = e
    · have q' : H b = some (.own x) := by
        rcases he with z | z
        · exact absurd (hbe.trans z) hb
        · rw [hbe]; exact z
      rw [q] at q'; cases q'
      obtain ⟨v, hv⟩ := heo
      exact ⟨v, by rw [hbe]; exact hv⟩
    · refine (ok b u q).stay (fun c v hc r => k c v ?_ r) (fun c r => by rw [upd_ne (nown c b r)]; exact r) fun c xs r => by rw [upd_ne (ntup c xs r)]; exact r
      rcases hc with rfl | hc
      · exact hbe
      · rintro rfl
        rcases he with z | z
        · exact nown c b hc z
        · rw [hc] at z; cases z; exact hb rfl
end

/-! ### kept unless tracked; of the frames at fs (the callers') the slots may change (an exception that passes writes there); of the records at ex (iterators) nothing is said -/
structure Un (fs ex : List Addr) (H H' : Hp) (h h' : Heap) : Prop where
  keep : ∀ b o, h.get? b = some o → H b = none → b ∉ fs → b ∉ ex → h'.get? b = some o
  slot : ∀ b o, h.get? b = some o → H b = none → b ∈ fs → b ∉ ex → ∃ sl, h'.get? b = some { o with slots := sl }
  free : ∀ b o, h.get? b = some o → H b = none → b ∉ ex → H' b = none
  there : ∀ b o, h.get? b = some o → b ∉ ex → ∃ o', h'.get? b = some o'
  tups : ∀ b xs, H b = some (.tup xs) → H' b = some (.tup xs)
  frzs : ∀ b o u, H b = some (.frz o u) → H' b = some (.frz o u)
  tbls : ∀ b ps, H b = some (.tbl ps) → ∃ more, H' b = some (.tbl (ps ++ more))
section
variable {fs fs' ex ex' : List Addr} {H H1 H2 : Hp} {h h1 h2 h' : Heap} {a x e : Addr} {o : HO}
theorem Un.any (u : Un fs ex H H1 h h1) {b : Addr} {ob : Obj} (q : h.get? b = some ob) (n : H b = none) (hx : b ∉ ex) : ∃ sl, h1.get? b = some { ob with slots := sl } := by
  by_cases hb : b ∈ fs
  · exact u.slot b ob q n hb hx
  · exact ⟨ob.slots, u.keep b ob q n hb hx⟩
theorem Un.kept (k : ∀ b u, h.get? b = some u → h'.get? b = some u) : Un fs ex H H h h' :=
  ⟨fun b ob q _ _ _ => k b ob q, fun b ob q _ _ _ => ⟨ob.slots, k b ob q⟩, fun _ _ _ n _ => n, fun b ob q _ => ⟨ob, k b ob q⟩, fun _ _ q => q, fun _ _ _ q => q, fun _ ps q => ⟨#[], by rw [q]; simp⟩⟩
theorem Un.refl : Un fs ex H H h h := Un.kept fun _ _ q => q
theorem Un.laid (k : ∀ b u, h.get? b = some u → h'.get? b = some u) (hp : h.objs.size ≤ a) (hn : H a = none) : Un fs ex H (upd H a o) h h' where
  keep := fun b u q _ _ _ => k b u q
  slot := fun b u q _ _ _ => ⟨u.slots, k b u q⟩
  free := fun b u q n _ => by rw [upd_ne (Nat.ne_of_lt (Nat.lt_of_lt_of_le (Heap.lt_size q) hp))]; exact n
  there := fun b u q _ => ⟨u, k b u q⟩
  tups := fun b xs q => by rw [upd_ne (ne_of_none q hn)]; exact q
  frzs := fun b u xs q => by rw [upd_ne (ne_of_none q hn)]; exact q
  tbls := fun b ps q => ⟨#[], by rw [upd_ne (ne_of_none q hn), q]; simp⟩
theorem Un.write (mu : Mut (H x)) (he : e = x ∨ H e = some (.own x)) (k : ∀ b u, b ≠ e → h.get? b = some u → h'.get? b = some u) (heo : ∃ u, h'.get? e = some u) : Un fs ex H (upd H x o) h h' := by
  have hx : ∀ b, H b = none → b ≠ x := fun b n z => by subst z; rw [n] at mu; exact mu
  have hb : ∀ b, H b = none → b ≠ e := fun b n z => by
    subst z
    rcases he with r | r
    · exact hx b n r
    · rw [n] at r; cases r
  have hm : ∀ b u, H b = some u → ¬ Mut (some u) → b ≠ x := fun b u q nm z => by subst z; rw [q] at mu; exact nm mu
  refine ⟨fun b u q n _ _ => k b u (hb b n) q, fun b u q n _ _ => ⟨u.slots, k b u (hb b n) q⟩, fun b u q n _ => by rw [upd_ne (hx b n)]; exact n, fun b u q _ => ?_,
    fun b xs q => by rw [upd_ne (hm b _ q fun z => z)]; exact q, fun b u xs q => by rw [upd_ne (hm b _ q fun z => z)]; exact q, fun b ps q => ⟨#[], by rw [upd_ne (hm b _ q fun z => z), q]; simp⟩⟩
  by_cases hbe : b = e
  · subst hbe; exact heo
  · exact ⟨u, k b u hbe q⟩
end

/-! ### the heap without what is tracked -/
def trk (h : Heap) (H : Hp) : List Addr := (List.range h.objs.size).filter fun a => (H a).isSome
def hidT (h : Heap) (H : Hp) : Heap := PySem.W.hideAll h (trk h H)
theorem hidT_size (h : Heap) (H : Hp) : (hidT h H).objs.size = h.objs.size := PySem.W.hideAll_size _ _
theorem hidT_get {h : Heap} {H : Hp} {b : Addr} {o : Obj} (e : h.get? b = some o) (n : H b = none) : (hidT h H).get? b = some o :=
  PySem.W.hideAll_get _ e fun hm => by
    have q : (H b).isSome = true := (List.mem_filter.mp hm).2
    rw [n] at q; simp at q
theorem of_hidT {h : Heap} {H : Hp} {b : Addr} {o : Obj} (e : (hidT h H).get? b = some o) : h.get? b = some o ∧ H b = none := by
  have e' : h.get? b = some o := PySem.W.of_hideAll (trk h H) e
  refine ⟨e', ?_⟩
  cases q : H b with
  | none => rfl
  | some x =>
    have hm : b ∈ trk h H := List.mem_filter.mpr ⟨List.mem_range.mpr (Heap.lt_size e'), by simp [q]⟩
    have z : (hidT h H).get? b = none := PySem.W.hideAll_none (trk h H) hm
    rw [z] at e; cases e

/-! ### OpenK's ledger, filled with every new object but one -/
end L2

namespace L2
open PySem PySem.Spec PyProof.Rows

/-- the module's facts, over the base: the heap at the law's entry without what is tracked there -/
structure Mod (K : PySem.W.Frag) (mg : Str → Option Value) (base : Heap) : Prop where
  kin : K.In base
  glob : base.Ns mainGlobals mg
  blt : ∃ mb, base.Ns builtinsNs mb ∧ ∀ x : Str, x ≠ "__name__" → mb x = bootBuiltins x
  nolimit : base.NoLimit

/-- the context: a def's body (or a comprehension's block) running. base: fixed through the whole law; s₀, H₀: the entry; outer: the frames whose slots others may change (a def's callers); stack: all frames that run;
   ex: iterators that were made ahead of the entry and are walked here (a comprehension's); fn: the names whose cells were made at the entry (a def: all; a comprehension's block: its own); calm: not within an except suite; pn: pins that every state bears; xe: what is wanted of an exception that leaves the code -/
structure Cx where
  prog : Program
  w : World
  K : PySem.W.Frag
  mg : Str → Option Value
  base : Heap
  A : Around
  N : List Str
  s_0 : Shared
  H_0 : Hp
  env : Env
  outer : List Env
  stack : List Env
  ex : List Addr
  fn : Str → Bool
  calm : Bool
  pn : List (Addr × Obj)
  xe : Value → Shared → Prop
/-- the callers' frames -/
def frs (l : List Env) : List Addr := l.filterMap (·.frame)
abbrev Cx.fs (X : Cx) : List Addr := frs X.outer

def Vis (sc : Scope) (x : Str) : Prop := sc.names.lookup x = some .local ∨ sc.names.lookup x = some .cell ∨ sc.names.lookup x = some .free
def Loc (sc : Scope) (x : Str) : Prop := sc.names.lookup x = some .local ∨ sc.names.lookup x = some .cell
def Look (env : Env) (h : Heap) (m : Str → Option Value) (x : Str) (u : Value) : Prop :=
  (env.kindOf x = some .local ∧ m x = some u) ∨ ((env.kindOf x = some .cell ∨ env.kindOf x = some .free) ∧ ∃ c, env.cells.lookup x = some c ∧ h.IsCell c (some u))

structure Cx.Ok (X : Cx) : Prop where
  mod : Mod X.K X.mg X.base
  kind : X.env.scope.kind = .function
  glob : X.env.globals = mainGlobals
  blt : X.env.builtins = builtinsNs
  above : X.s_0.heap.objs.size ≤ X.env.locals
  inj : ∀ x y c, X.env.cells.lookup x = some c → X.env.cells.lookup y = some c → x = y
  has : ∀ x, (X.env.kindOf x = some .cell ∨ X.env.kindOf x = some .free) → ∃ c, X.env.cells.lookup x = some c
  cab : ∀ x c, X.fn x = true → X.env.cells.lookup x = some c → X.s_0.heap.objs.size ≤ c
  hd : X.calm = true → X.A.handled = none
  frames : X.A.frames = some X.stack
  stk : X.stack = X.outer ∨ (X.stack = X.env :: X.outer ∧ X.env.frame = some X.env.locals)
  exf : ∀ b ∈ X.ex, b ≠ X.env.locals ∧ ∀ x c, X.env.cells.lookup x = some c → c ≠ b
  bs : ∀ b o, X.base.get? b = some o → X.s_0.heap.get? b = some o ∧ X.H_0 b = none
  bsz : X.base.objs.size ≤ X.s_0.heap.objs.size
  noex : ∀ b o, X.base.get? b = some o → b ∉ X.ex
  exfs : ∀ b ∈ X.ex, b ∉ X.fs
  funs : X.s_0.heap.FunFrames X.base X.outer
  frf : ∀ b ∈ X.fs, X.H_0 b = none

structure Inv (X : Cx) (pins : List (Addr × Obj)) (σ : List (Option V)) (H : Hp) (s : Shared) : Prop where
  ok : X.Ok
  os : s.os = X.s_0.os
  bare : AllBare s.gens
  base : Un X.fs X.ex X.H_0 H X.s_0.heap s.heap
  loc : ∃ m, s.heap.Ns X.env.locals m ∧ ∀ (i : Nat) (x : Str) (v : V), X.N[i]? = some x → σ[i]? = some (some v) → Vis X.env.scope x → ∃ u, RelV v u ∧ Look X.env s.heap m x u
  cell : ∀ x c, X.env.cells.lookup x = some c → ∃ v, s.heap.IsCell c v
  free : H X.env.locals = none
  freeC : ∀ x c, X.env.cells.lookup x = some c → H c = none
  pin : ∀ p ∈ X.pn ++ pins, s.heap.get? p.1 = some p.2 ∧ H p.1 = none ∧ p.1 ≠ X.env.locals ∧ p.1 ∉ X.fs ∧ ∀ v, p.2.data ≠ .cell v
  hok : HOk X.prog X.w H s.heap
  len : σ.length = X.N.length

section
variable {X : Cx} {pins : List (Addr × Obj)} {σ : List (Option V)} {H H' : Hp} {s : Shared} {h' : Heap}

theorem Cx.Ok.nofr (ok : X.Ok) {b : Addr} {o : Obj} (e : X.base.get? b = some o) : b ∉ X.fs := fun hb => by
  have := (ok.funs.mem hb).1
  rw [e] at this; cases this
theorem Inv.bs (I : Inv X pins σ H s) : ∀ b o, X.base.get? b = some o → s.heap.get? b = some o ∧ H b = none := fun b o e =>
  ⟨I.base.keep b o (I.ok.bs b o e).1 (I.ok.bs b o e).2 (I.ok.nofr e) (I.ok.noex b o e), I.base.free b o (I.ok.bs b o e).1 (I.ok.bs b o e).2 (I.ok.noex b o e)⟩
theorem Inv.bk (I : Inv X pins σ H s) : ∀ b o, X.base.get? b = some o → s.heap.get? b = some o := fun b o e => (I.bs b o e).1
theorem Inv.mod (I : Inv X pins σ H s) : Mod X.K X.mg X.base := I.ok.mod
theorem Inv.kIn (I : Inv X pins σ H s) : X.K.In s.heap := I.ok.mod.kin.keeps I.bk
theorem Inv.lt (I : Inv X pins σ H s) : X.env.locals < s.heap.objs.size := let ⟨_, hn, _⟩ := I.loc; hn.lt
theorem Inv.sz (I : Inv X pins σ H s) : X.s_0.heap.objs.size ≤ s.heap.objs.size := Nat.le_trans I.ok.above (Nat.le_of_lt I.lt)
theorem Inv.nofs (I : Inv X pins σ H s) {a : Addr} (h : s.heap.objs.size ≤ a) : a ∉ X.fs := fun hb => by
  obtain ⟨_, o, ho, _⟩ := I.ok.funs.mem hb
  exact absurd (Nat.lt_of_lt_of_le (Heap.lt_size ho) (Nat.le_trans I.sz h)) (Nat.lt_irrefl _)
theorem Inv.cne (I : Inv X pins σ H s) : ∀ x c, X.env.cells.lookup x = some c → c ≠ X.env.locals := fun x c e z => by
  obtain ⟨v, o, ho, hd⟩ := I.cell x c e
  obtain ⟨m, ⟨o', es, ep, ho', hd', _⟩, _⟩ := I.loc
  rw [z, ho'] at ho; cases ho; rw [hd'] at hd; cases hd
theorem Inv.funs (I : Inv X pins σ H s) : s.heap.FunFrames X.base X.outer := by
  have all : ∀ (l : List Env), (∀ b ∈ frs l, b ∈ X.fs) → X.s_0.heap.FunFrames X.base l → s.heap.FunFrames X.base l := by
    intro l
    induction l with
    | nil => intro _ _; trivial
    | cons env r ih =>
      intro hs hl
      obtain ⟨hk, ⟨L, o, hf, hn, ho, hd⟩, hr⟩ := hl
      have hL : L ∈ X.fs := hs L (by unfold frs; rw [List.filterMap_cons, hf]; exact List.mem_cons_self)
      obtain ⟨sl, e⟩ := I.base.slot L o ho (I.ok.frf L hL) hL fun z => I.ok.exfs L z hL
      exact ⟨hk, ⟨L, _, hf, hn, e, hd⟩, ih (fun b hb => hs b (by unfold frs; rw [List.filterMap_cons, hf]; exact List.mem_cons_of_mem _ hb)) hr⟩
  exact all X.outer (fun _ hb => hb) I.ok.funs

/-- the frames that run, for a call -/
theorem Inv.stack (I : Inv X pins σ H s) : s.heap.FunFrames X.base X.stack := by
  rcases I.ok.stk with e | ⟨e, hf⟩
  · rw [e]; exact I.funs
  · rw [e]
    obtain ⟨m, hn, _⟩ := I.loc
    refine .cons (by rw [I.ok.kind]; decide) hf hn ?_ I.funs
    exact Heap.get?_none_of_le (Nat.le_trans I.ok.bsz I.ok.above)
theorem Inv.stkSub (I : Inv X pins σ H s) : ∀ b ∈ frs X.stack, b ∈ X.env.locals :: X.fs := fun b hb => by
  rcases I.ok.stk with e | ⟨e, hf⟩
  · rw [e] at hb; exact List.mem_cons_of_mem _ hb
  · rw [e] at hb
    unfold frs at hb
    rw [List.filterMap_cons, hf] at hb
    exact hb
theorem Inv.stkFree (I : Inv X pins σ H s) : ∀ b ∈ frs X.stack, H b = none := fun b hb => by
  rcases List.mem_cons.mp (I.stkSub b hb) with e | hb
  · rw [e]; exact I.free
  · obtain ⟨_, o, ho, _⟩ := I.ok.funs.mem hb
    exact I.base.free b o ho (I.ok.frf b hb) fun z => I.ok.exfs b z hb

/-- THE STEP: the untracked objects but the frame and the records at ch are kept (the callers' frames up to slots), the frame's map is kept, the new abstract heap is held -/
theorem Inv.step {g' : Array GenState} {t' : Nat} {d' : Drawn} {ch : List Addr} (I : Inv X pins σ H s)
    (hch : ∀ b ∈ ch, (b ∈ X.ex ∨ X.s_0.heap.objs.size ≤ b) ∧ b ≠ X.env.locals ∧ (∀ x c, X.env.cells.lookup x = some c → c ≠ b) ∧ ∀ p ∈ X.pn ++ pins, p.1 ≠ b)
    (keep : ∀ b o, b ≠ X.env.locals → b ∉ X.fs → b ∉ ch → s.heap.get? b = some o → H b = none → h'.get? b = some o)
    (slot : ∀ b o, b ≠ X.env.locals → b ∈ X.fs → b ∉ ch → s.heap.get? b = some o → H b = none → ∃ sl, h'.get? b = some { o with slots := sl }) (free : ∀ b o, b ∉ ch → s.heap.get? b = some o → H b = none → H' b = none)
    (there : ∀ b o, b ∉ ch → s.heap.get? b = some o → ∃ o', h'.get? b = some o')
    (tups : ∀ b xs, H b = some (.tup xs) → H' b = some (.tup xs)) (frzs : ∀ b o u, H b = some (.frz o u) → H' b = some (.frz o u)) (tbls : ∀ b ps, H b = some (.tbl ps) → ∃ more, H' b = some (.tbl (ps ++ more)))
    (ns : ∀ m, s.heap.Ns X.env.locals m → h'.Ns X.env.locals m) (hok : HOk X.prog X.w H' h') (hg : AllBare g') :
    Inv X pins σ H' { s with heap := h', gens := g', drawn := d', toks := t' } := by
  have neL : ∀ b o, X.s_0.heap.get? b = some o → b ≠ X.env.locals := fun b o e => Nat.ne_of_lt (Nat.lt_of_lt_of_le (Heap.lt_size e) I.ok.above)
  have neC : ∀ b o, X.s_0.heap.get? b = some o → b ∉ X.ex → b ∉ ch := fun b o e hx hb => by
    rcases (hch b hb).1 with z | z
    · exact hx z
    · exact absurd (Nat.lt_of_lt_of_le (Heap.lt_size e) z) (Nat.lt_irrefl _)
  have cellK : ∀ x c, X.env.cells.lookup x = some c → ∀ v, s.heap.IsCell c v → h'.IsCell c v := fun x c e v ⟨o, ho, hd⟩ => by
    have nch : c ∉ ch := fun z => (hch c z).2.2.1 x c e rfl
    by_cases hc : c ∈ X.fs
    · obtain ⟨sl, q⟩ := slot c o (I.cne x c e) hc nch ho (I.freeC x c e)
      exact ⟨_, q, hd⟩
    · exact ⟨o, keep c o (I.cne x c e) hc nch ho (I.freeC x c e), hd⟩
  refine ⟨I.ok, I.os, hg, ⟨fun b o e n hb hx => ?_, fun b o e n hb hx => ?_, fun b o e n hx => ?_, fun b o e hx => ?_, fun b xs e => tups b xs (I.base.tups b xs e), fun b o xs e => frzs b o xs (I.base.frzs b o xs e), fun b ps e => ?_⟩, ?_, fun x c e => ?_, ?_, fun x c e => ?_, fun p hp => ?_, hok, I.len⟩
  · exact keep b o (neL b o e) hb (neC b o e hx) (I.base.keep b o e n hb hx) (I.base.free b o e n hx)
  · obtain ⟨sl, e1⟩ := I.base.slot b o e n hb hx
    obtain ⟨sl', e2⟩ := slot b _ (neL b o e) hb (neC b o e hx) e1 (I.base.free b o e n hx)
    exact ⟨sl', e2⟩
  · obtain ⟨o', e1⟩ := I.base.there b o e hx
    exact free b o' (neC b o e hx) e1 (I.base.free b o e n hx)
  · obtain ⟨o', e1⟩ := I.base.there b o e hx
    exact there b o' (neC b o e hx) e1
  · obtain ⟨m1, e1⟩ := I.base.tbls b ps e
    obtain ⟨m2, e2⟩ := tbls b _ e1
    exact ⟨m1 ++ m2, by rw [e2, Array.append_assoc]⟩
  · obtain ⟨m, hn, hl⟩ := I.loc
    refine ⟨m, ns m hn, fun i x v e1 e2 e3 => ?_⟩
    obtain ⟨u, r, l⟩ := hl i x v e1 e2 e3
    refine ⟨u, r, ?_⟩
    rcases l with l | ⟨k, c, e, z⟩
    · exact .inl l
    · exact .inr ⟨k, c, e, cellK x c e _ z⟩
  · obtain ⟨v, z⟩ := I.cell x c e
    exact ⟨v, cellK x c e v z⟩
  · obtain ⟨m, ⟨o, _, _, ho, _⟩, _⟩ := I.loc
    exact free _ o (fun z => (hch _ z).2.1 rfl) ho I.free
  · obtain ⟨v, o, ho, hd⟩ := I.cell x c e
    exact free c o (fun z => (hch c z).2.2.1 x c e rfl) ho (I.freeC x c e)
  · obtain ⟨e, n, ne, nf, d⟩ := I.pin p hp
    have nch : p.1 ∉ ch := fun z => (hch p.1 z).2.2.2 p hp rfl
    exact ⟨keep p.1 p.2 ne nf nch e n, free p.1 p.2 nch e n, ne, nf, d⟩
/-- .. where the frame's own object is kept too -/
theorem Inv.un {t' : Nat} (I : Inv X pins σ H s) (u : Un X.fs [] H H' s.heap h') (hok : HOk X.prog X.w H' h') : Inv X pins σ H' { s with heap := h', toks := t' } := by
  obtain ⟨m, ⟨o, es, ep, ho, r⟩, _⟩ := id I.loc
  obtain ⟨sl, hL⟩ := u.any ho I.free (by simp)
  exact I.step (g' := s.gens) (d' := s.drawn) (ch := []) (fun _ z => nomatch z) (fun b o _ hb _ e n => u.keep b o e n hb (by simp)) (fun b o _ hb _ e n => u.slot b o e n hb (by simp)) (fun b o _ e n => u.free b o e n (by simp)) (fun b o _ e => u.there b o e (by simp)) u.tups u.frzs u.tbls (fun m' hm => by
    obtain ⟨o', es', ep', ho', r'⟩ := hm
    rw [ho] at ho'; cases ho'
    exact ⟨_, es', ep', hL, r'⟩) hok I.bare
/-- behind a call (or a comprehension's block): the slots of this frame may have changed too, the records at ch may have turned -/
theorem Inv.call {g' : Array GenState} {t' : Nat} {d' : Drawn} {ch : List Addr} (I : Inv X pins σ H s) (u : Un (frs X.stack) ch H H' s.heap h') (hok : HOk X.prog X.w H' h') (hg : AllBare g')
    (hch : ∀ b ∈ ch, (b ∈ X.ex ∨ X.s_0.heap.objs.size ≤ b) ∧ b ≠ X.env.locals ∧ (∀ x c, X.env.cells.lookup x = some c → c ≠ b) ∧ ∀ p ∈ X.pn ++ pins, p.1 ≠ b) :
    Inv X pins σ H' { s with heap := h', gens := g', drawn := d', toks := t' } := by
  obtain ⟨m, ⟨o, es, ep, ho, r⟩, _⟩ := id I.loc
  obtain ⟨sl, hL⟩ := u.any ho I.free fun z => (hch _ z).2.1 rfl
  exact I.step (ch := ch) hch (fun b o hL hb hc e n => u.keep b o e n (fun z => (List.mem_cons.mp (I.stkSub b z)).elim hL hb) hc) (fun b o _ _ hc e n => u.any e n hc) (fun b o hc e n => u.free b o e n hc) (fun b o hc e => u.there b o e hc) u.tups u.frzs u.tbls (fun m' hm => by
    obtain ⟨o', es', ep', ho', r'⟩ := hm
    rw [ho] at ho'; cases ho'
    exact ⟨_, es', ep', hL, r'⟩) hok hg
/-- an untracked record of ours (an iterator) has turned -/
theorem Inv.turned {t' : Nat} {it : Addr} (I : Inv X pins σ H s) (k : ∀ b o, b ≠ it → s.heap.get? b = some o → h'.get? b = some o) (hn : H it = none) (hL : it ≠ X.env.locals)
    (h1 : it ∈ X.ex ∨ X.s_0.heap.objs.size ≤ it) (h2 : ∀ x c, X.env.cells.lookup x = some c → c ≠ it) (h3 : ∀ p ∈ X.pn ++ pins, p.1 ≠ it) : Inv X pins σ H { s with heap := h', toks := t' } := by
  have nit : ∀ b u, H b = some u → b ≠ it := fun b u e z => by rw [z, hn] at e; cases e
  refine I.step (g' := s.gens) (d' := s.drawn) (ch := [it]) (fun b hb => ?_) (fun b o _ _ hc e _ => k b o (fun z => hc (by simp [z])) e) (fun b o _ _ hc e _ => ⟨o.slots, k b o (fun z => hc (by simp [z])) e⟩) (fun _ _ _ _ n => n)
    (fun b o hc e => ⟨o, k b o (fun z => hc (by simp [z])) e⟩) (fun _ _ e => e) (fun _ _ _ e => e) (fun b ps e => ⟨#[], by rw [e]; simp⟩) (fun m hm => ?_) (fun b u e => ?_) I.bare
  · have e : b = it := by simpa using hb
    subst e
    exact ⟨h1, hL, h2, h3⟩
  · obtain ⟨o, es, ep, ho, r⟩ := hm
    exact ⟨o, es, ep, k _ o (Ne.symm hL) ho, r⟩
  · refine (I.hok b u e).stay (fun c v hc q => k c v ?_ q) (fun _ q => q) fun _ _ q => q
    rcases hc with z | z
    · rw [z]; exact nit b u e
    · exact nit c _ z
theorem Inv.tok (I : Inv X pins σ H s) (t : Nat) : Inv X pins σ H { s with toks := t } := I.un (h' := s.heap) (t' := t) Un.refl I.hok
/-- all objects kept -/
theorem Inv.kept {t' : Nat} (I : Inv X pins σ H s) (k : ∀ b u, s.heap.get? b = some u → h'.get? b = some u) : Inv X pins σ H { s with heap := h', toks := t' } := I.un (Un.kept k) (I.hok.kept k)
/-- a new object laid and tracked -/
theorem Inv.laid {a : Addr} {o : HO} {t' : Nat} (I : Inv X pins σ H s) (k : ∀ b u, s.heap.get? b = some u → h'.get? b = some u) (hp : s.heap.objs.size ≤ a) (new : ObjOk X.prog X.w (upd H a o) h' a o) :
    Inv X pins σ (upd H a o) { s with heap := h', toks := t' } := I.un (Un.laid k hp (I.hok.fresh hp)) (I.hok.laid k hp new)
/-- an object written -/
theorem Inv.write {x e : Addr} {o : HO} {t' : Nat} (I : Inv X pins σ H s) (mu : Mut (H x)) (he : e = x ∨ H e = some (.own x)) (k : ∀ b u, b ≠ e → s.heap.get? b = some u → h'.get? b = some u) (heo : ∃ u, h'.get? e = some u)
    (new : ObjOk X.prog X.w (upd H x o) h' x o) : Inv X pins σ (upd H x o) { s with heap := h', toks := t' } := I.un (Un.write mu he k heo) (I.hok.write mu he k heo new)
/-- forgetting slots, pins -/
theorem Inv.weak {σ' : List (Option V)} (I : Inv X pins σ H s) (hl : σ'.length = σ.length) (w : ∀ (i : Nat) v, σ'[i]? = some (some v) → σ[i]? = some (some v)) : Inv X pins σ' H s :=
  ⟨I.ok, I.os, I.bare, I.base, let ⟨m, hn, hl'⟩ := I.loc; ⟨m, hn, fun i x v e1 e2 e3 => hl' i x v e1 (w i v e2) e3⟩, I.cell, I.free, I.freeC, I.pin, I.hok, hl.trans I.len⟩
theorem Inv.pins_of {pins' : List (Addr × Obj)} (I : Inv X pins σ H s) (h : ∀ p ∈ pins', s.heap.get? p.1 = some p.2 ∧ H p.1 = none ∧ p.1 ≠ X.env.locals ∧ p.1 ∉ X.fs ∧ ∀ v, p.2.data ≠ .cell v) : Inv X pins' σ H s :=
  ⟨I.ok, I.os, I.bare, I.base, I.loc, I.cell, I.free, I.freeC, fun p hp => (List.mem_append.mp hp).elim (fun z => I.pin p (List.mem_append_left _ z)) (h p), I.hok, I.len⟩

theorem nodup_ix {N : List Str} (hN : N.Nodup) {i j : Nat} {x : Str} (a : N[i]? = some x) (b : N[j]? = some x) : i = j := by
  obtain ⟨h1, e1⟩ := List.getElem?_eq_some_iff.mp a
  obtain ⟨h2, e2⟩ := List.getElem?_eq_some_iff.mp b
  exact (List.getElem_inj hN).mp (e1.trans e2.symm)

/-- a name is stored; what changed -/
theorem store_ok2 {M : Model} {A : Around} {E : Value → Shared → Prop} {i : Nat} {x : Str} {v : V} {u : Value} {Q : Unit → Shared → Prop} (I : Inv X pins σ H s) (hN : X.N.Nodup) (hi : X.N[i]? = some x) (hx : Loc X.env.scope x) (r : RelV v u)
    (h : ∀ s', Inv X pins (σ.set i (some v)) H s' → (∃ a, Heap.SameBut a s.heap s'.heap ∧ (a = X.env.locals ∨ X.env.cells.lookup x = some a)) → Q () s') (hf : X.fn x = true ∨ X.env.scope.names.lookup x = some .local := by first | exact .inl rfl | exact .inr rfl | assumption) : wpAny M A (storeName X.env x u) Q E s := by
  obtain ⟨m, hn, hl⟩ := id I.loc
  have hcls : (X.env.scope.kind == .class || (X.env.scope.kind == .module && X.env.locals != X.env.globals)) = false := by rw [I.ok.kind]; rfl
  have hiσ : i < σ.length := by rw [I.len]; exact (List.getElem?_eq_some_iff.mp hi).1
  have cne := I.cne
  have tracked : ∀ {a : Addr} {h' : Heap}, (∃ o, s.heap.get? a = some o ∧ H a = none) → Heap.SameBut a s.heap h' → HOk X.prog X.w H h' := fun {a h'} ha hs b ob e => by
    obtain ⟨_, _, hfree⟩ := ha
    refine (I.hok b ob e).stay (fun c w' hc q => (hs.2 c ?_).trans q) (fun _ q => q) fun _ _ q => q
    rintro rfl
    rcases hc with rfl | hc
    · rw [hfree] at e; cases e
    · rw [hfree] at hc; cases hc
  rcases hx with hk | hk
  · refine wpAny_storeName_local hk hn (fun h' hn' hs => ?_) hcls
    obtain ⟨oL, _, _, hoL, _⟩ := id hn
    refine h _ ⟨I.ok, I.os, I.bare, ⟨fun b o e n hb hx => ?_, fun b o e n hb hx => ?_, I.base.free, fun b o e hx => ?_, I.base.tups, I.base.frzs, I.base.tbls⟩, ⟨_, hn', fun j y v' e1 e2 e3 => ?_⟩, fun y c e => ?_, I.free, I.freeC, fun p hp => ?_, tracked ⟨oL, hoL, I.free⟩ hs, by simpa using I.len⟩ ⟨_, hs, .inl rfl⟩
    · exact (hs.2 b (Nat.ne_of_lt (Nat.lt_of_lt_of_le (Heap.lt_size e) I.ok.above))).trans (I.base.keep b o e n hb hx)
    · obtain ⟨sl, e1⟩ := I.base.slot b o e n hb hx
      exact ⟨sl, (hs.2 b (Nat.ne_of_lt (Nat.lt_of_lt_of_le (Heap.lt_size e) I.ok.above))).trans e1⟩
    · obtain ⟨o', e1⟩ := I.base.there b o e hx
      exact ⟨o', (hs.2 b (Nat.ne_of_lt (Nat.lt_of_lt_of_le (Heap.lt_size e) I.ok.above))).trans e1⟩
    · by_cases hj : j = i
      · subst hj
        rw [hi] at e1; cases e1
        rw [List.getElem?_set_self hiσ] at e2
        cases e2
        exact ⟨u, r, .inl ⟨hk, by simp⟩⟩
      · rw [List.getElem?_set_ne (Ne.symm hj)] at e2
        obtain ⟨u', r', q⟩ := hl j y v' e1 e2 e3
        refine ⟨u', r', ?_⟩
        rcases q with ⟨k, e⟩ | ⟨k, c, e, z⟩
        · refine .inl ⟨k, ?_⟩
          have : y ≠ x := fun e => hj (nodup_ix hN e1 (e ▸ hi))
          simp [this, e]
        · exact .inr ⟨k, c, e, z.sameBut hs (cne y c e)⟩
    · obtain ⟨w', z⟩ := I.cell y c e
      exact ⟨w', z.sameBut hs (cne y c e)⟩
    · obtain ⟨e, n, ne, nf, d⟩ := I.pin p hp
      exact ⟨(hs.2 p.1 ne).trans e, n, ne, nf, d⟩
  · have hfn : X.fn x = true := by
      rcases hf with z | z
      · exact z
      · rw [z] at hk; cases hk
    obtain ⟨c, hc⟩ := I.ok.has x (.inl hk)
    obtain ⟨w', z⟩ := I.cell x c hc
    refine wpAny_storeName_cell I.ok.kind hk hc z (fun h' hc' hs => ?_)
    obtain ⟨oc, hoc, hocd⟩ := id z
    refine h { s with heap := h' } ⟨I.ok, I.os, I.bare, ⟨fun b o e n hb hx => ?_, fun b o e n hb hx => ?_, I.base.free, fun b o e hx => ?_, I.base.tups, I.base.frzs, I.base.tbls⟩, ⟨m, hn.sameBut hs (Ne.symm (cne x c hc)), fun j y v' e1 e2 e3 => ?_⟩, fun y c' e => ?_, I.free, I.freeC, fun p hp => ?_, tracked ⟨oc, hoc, I.freeC x c hc⟩ hs, by simpa using I.len⟩ ⟨c, hs, .inr hc⟩
    · exact (hs.2 b (Nat.ne_of_lt (Nat.lt_of_lt_of_le (Heap.lt_size e) (I.ok.cab x c hfn hc)))).trans (I.base.keep b o e n hb hx)
    · obtain ⟨sl, e1⟩ := I.base.slot b o e n hb hx
      exact ⟨sl, (hs.2 b (Nat.ne_of_lt (Nat.lt_of_lt_of_le (Heap.lt_size e) (I.ok.cab x c hfn hc)))).trans e1⟩
    · obtain ⟨o', e1⟩ := I.base.there b o e hx
      exact ⟨o', (hs.2 b (Nat.ne_of_lt (Nat.lt_of_lt_of_le (Heap.lt_size e) (I.ok.cab x c hfn hc)))).trans e1⟩
    · by_cases hj : j = i
      · subst hj
        rw [hi] at e1; cases e1
        rw [List.getElem?_set_self hiσ] at e2
        cases e2
        exact ⟨u, r, .inr ⟨.inl hk, c, hc, hc'⟩⟩
      · rw [List.getElem?_set_ne (Ne.symm hj)] at e2
        obtain ⟨u', r', q⟩ := hl j y v' e1 e2 e3
        refine ⟨u', r', ?_⟩
        rcases q with q | ⟨k, c', e, z'⟩
        · exact .inl q
        · refine .inr ⟨k, c', e, z'.sameBut hs ?_⟩
          rintro rfl
          exact hj (nodup_ix hN e1 (I.ok.inj _ _ _ e hc ▸ hi))
    · by_cases hcc : c' = c
      · subst hcc; exact ⟨_, hc'⟩
      · obtain ⟨w2, z2⟩ := I.cell y c' e
        exact ⟨w2, z2.sameBut hs hcc⟩
    · obtain ⟨e, n, ne, nf, d⟩ := I.pin p hp
      refine ⟨(hs.2 p.1 ?_).trans e, n, ne, nf, d⟩
      intro q
      rw [q, hoc] at e
      have q' : oc = p.2 := Option.some.inj e
      exact d w' (by rw [← q']; exact hocd)
theorem store_ok {M : Model} {A : Around} {E : Value → Shared → Prop} {i : Nat} {x : Str} {v : V} {u : Value} {Q : Unit → Shared → Prop} (I : Inv X pins σ H s) (hN : X.N.Nodup) (hi : X.N[i]? = some x) (hx : Loc X.env.scope x) (r : RelV v u)
    (h : ∀ s', Inv X pins (σ.set i (some v)) H s' → Q () s') (hf : X.fn x = true ∨ X.env.scope.names.lookup x = some .local := by first | exact .inl rfl | exact .inr rfl | assumption) : wpAny M A (storeName X.env x u) Q E s :=
  store_ok2 I hN hi hx r (fun s' I' _ => h s' I') hf
/-- behind a call or a block, the state as it is -/
theorem Inv.call' {s' : Shared} {ch : List Addr} (I : Inv X pins σ H s) (ho : s'.os = s.os) (u : Un (frs X.stack) ch H H' s.heap s'.heap) (hok : HOk X.prog X.w H' s'.heap) (hg : AllBare s'.gens)
    (hch : ∀ b ∈ ch, (b ∈ X.ex ∨ X.s_0.heap.objs.size ≤ b) ∧ b ≠ X.env.locals ∧ (∀ x c, X.env.cells.lookup x = some c → c ≠ b) ∧ ∀ p ∈ X.pn ++ pins, p.1 ≠ b) : Inv X pins σ H' s' := by
  obtain ⟨h', g', d', t', o'⟩ := s'
  have e : o' = s.os := ho
  subst e
  exact I.call (g' := g') (t' := t') (d' := d') u hok hg hch
end

/-! ### the judgements -/
/-- an exception: its class, its own dict's address (where it has one), the abstract heap behind it -/
abbrev XK := Value → Option Addr → Hp → Prop
abbrev St := List (Option V)
abbrev VK := V → Hp → Prop
/-- an expression's reading; a test's; an argument list's -/
abbrev TE := St → Hp → VK → Prop
abbrev TT := St → Hp → (Bool → Hp → Prop) → Prop
abbrev TA := St → Hp → (List V → Hp → Prop) → Prop
/-- what is wanted behind a statement -/
structure Ends where
  nx : St → Hp → Prop
  rt : VK
  bk : St → Hp → Prop := fun _ _ => False
  ct : St → Hp → Prop := fun _ _ => False
abbrev TS := Ends → St → Hp → Prop

def EP (X : Cx) (pins : List (Addr × Obj)) (σ : St) (Q : VK) (u : Value) (s' : Shared) : Prop := ∃ v H', Inv X pins σ H' s' ∧ RelV v u ∧ Q v H'
def TP (X : Cx) (pins : List (Addr × Obj)) (σ : St) (Q : Bool → Hp → Prop) (b : Bool) (s' : Shared) : Prop := ∃ H', Inv X pins σ H' s' ∧ Q b H'
def AP (X : Cx) (pins : List (Addr × Obj)) (σ : St) (Q : List V → Hp → Prop) (us : List Value) (s' : Shared) : Prop := ∃ vs H', Inv X pins σ H' s' ∧ Vals vs us ∧ Q vs H'
def SP (X : Cx) (pins : List (Addr × Obj)) (D : Ends) (f : Flow) (s' : Shared) : Prop :=
  match f with
  | .next => ∃ σ' H', Inv X pins σ' H' s' ∧ D.nx σ' H'
  | .brk => ∃ σ' H', Inv X pins σ' H' s' ∧ D.bk σ' H'
  | .cont => ∃ σ' H', Inv X pins σ' H' s' ∧ D.ct σ' H'
  | .ret u => ∃ v σ' H', Inv X pins σ' H' s' ∧ RelV v u ∧ D.rt v H'

def PE (X : Cx) (e : Expr) (t : TE) : Prop :=
  ∀ (pins : List (Addr × Obj)) (s : Shared) (σ : St) (H : Hp) (Q : VK), Inv X pins σ H s → t σ H Q → wpAny (model X.prog X.w) X.A (eval e X.env) (EP X pins σ Q) X.xe s
def PT (X : Cx) (e : Expr) (t : TT) : Prop :=
  ∀ (pins : List (Addr × Obj)) (s : Shared) (σ : St) (H : Hp) (Q : Bool → Hp → Prop), Inv X pins σ H s → t σ H Q → wpAny (model X.prog X.w) X.A (isTrue e X.env (eval e X.env)) (TP X pins σ Q) X.xe s
/-- a test whatever its 'whole' is (and, or) -/
def PW (X : Cx) (e : Expr) (t : TT) : Prop :=
  ∀ (whole : Sem Value) (pins : List (Addr × Obj)) (s : Shared) (σ : St) (H : Hp) (Q : Bool → Hp → Prop), Inv X pins σ H s → t σ H Q → wpAny (model X.prog X.w) X.A (isTrue e X.env whole) (TP X pins σ Q) X.xe s
theorem PW.pt {X : Cx} {e : Expr} {t : TT} (h : PW X e t) : PT X e t := h _
/-- an argument list (no star), from the left -/
def PA (X : Cx) (es : List Expr) (t : TA) : Prop :=
  ∀ (pos : Pos) (pins : List (Addr × Obj)) (s : Shared) (σ : St) (H : Hp) (Q : List V → Hp → Prop), Inv X pins σ H s → t σ H Q → wpAny (model X.prog X.w) X.A (spliced (backTo pos (starEach es X.env))) (AP X pins σ Q) X.xe s
def PS (X : Cx) (st : Stmt) (t : TS) : Prop :=
  ∀ (pins : List (Addr × Obj)) (s : Shared) (σ : St) (H : Hp) (D : Ends), Inv X pins σ H s → t D σ H → wpAny (model X.prog X.w) X.A (exec st X.env) (SP X pins D) X.xe s
def PSs (X : Cx) (st : List Stmt) (t : TS) : Prop :=
  ∀ (pins : List (Addr × Obj)) (s : Shared) (σ : St) (H : Hp) (D : Ends), Inv X pins σ H s → t D σ H → wpAny (model X.prog X.w) X.A (execs st X.env) (SP X pins D) X.xe s
/-- weaken the end -/
theorem thn {α : Type} {t : Sem α} {Q Q' : α → Shared → Prop} {M : Model} {A : Around} {E : Value → Shared → Prop} {s : Shared} (h : wpAny M A t Q E s) (hQ : ∀ a s, Q a s → Q' a s) : wpAny M A t Q' E s := wpAny_mono h hQ fun _ _ x => x
end L2

namespace L2
open PySem PySem.Spec PyProof.Rows
section
variable {X : Cx}

/-! ### names and constants -/
def tVar (i : Nat) : TE := fun σ H Q => ∃ v, σ[i]? = some (some v) ∧ Q v H
def tC (v : V) : TE := fun _ H Q => Q v H
theorem pe_var {i : Nat} {x : Str} {pos : Pos} (hN : X.N[i]? = some x) (hv : Vis X.env.scope x) (hd : (x == ("__debug__" : Str)) = false := by decide) (hcd : (x == ("__classdict__" : Str)) = false := by decide) : PE X (.Name x pos) (tVar i) := by
  intro pins s σ H Q I h
  obtain ⟨v, e, h⟩ := h
  obtain ⟨m, hn, hl⟩ := I.loc
  obtain ⟨u, r, l⟩ := hl i x v hN e hv
  have fin : EP X pins σ Q u s := ⟨v, H, I, r, h⟩
  rcases l with ⟨hk, hm⟩ | ⟨hk, c, hc, hcell⟩
  · exact wpAny_Name (wpAny_loadName_local I.ok.kind hk hn hm fin) hd
  · rcases hk with hk | hk
    · exact wpAny_Name (wpAny_loadName_cell I.ok.kind hk hc hcell fin) hd
    · exact wpAny_Name (wpAny_loadName_free I.ok.kind hk hc hcell fin hcd) hd
theorem pe_int {i j pos} : PE X (.Constant (.int i) j pos) (tC (.int i)) := fun _ _ _ H _ I h => wpAny_Constant_int ⟨.int i, H, I.tok _, ⟨_, rfl⟩, h⟩

/-- a global name of the def -/
def Gl (X : Cx) (x : Str) : Prop := X.env.kindOf x = some .globalImplicit
theorem ld_glob {E : Value → Shared → Prop} {pins : List (Addr × Obj)} {s : Shared} {σ : St} {H : Hp} {x : Str} {u : Value} {pos : Pos} {Q : Value → Shared → Prop} (I : Inv X pins σ H s) (hg : Gl X x) (hm : X.mg x = some u) (h : Q u s)
    (hd : (x == ("__debug__" : Str)) = false := by decide) : wpAny (model X.prog X.w) X.A (eval (.Name x pos) X.env) Q E s :=
  Calls.Name_function_global I.ok.kind hg (Calls.loadGlobal_global (by rw [I.ok.glob]; exact I.mod.glob.keeps I.bk) hm h) hd
theorem ld_blt {E : Value → Shared → Prop} {pins : List (Addr × Obj)} {s : Shared} {σ : St} {H : Hp} {x : Str} {u : Value} {pos : Pos} {Q : Value → Shared → Prop} (I : Inv X pins σ H s) (hg : Gl X x) (hm : X.mg x = none) (hv : bootBuiltins x = some u) (h : Q u s)
    (hn : x ≠ "__name__" := by decide) (hd : (x == ("__debug__" : Str)) = false := by decide) : wpAny (model X.prog X.w) X.A (eval (.Name x pos) X.env) Q E s := by
  obtain ⟨mb, h1, h2⟩ := I.mod.blt
  exact Calls.Name_function_global I.ok.kind hg (Calls.loadGlobal_builtin (by rw [I.ok.glob]; exact I.mod.glob.keeps I.bk) hm (by rw [I.ok.blt]; exact h1.keeps I.bk) ((h2 x hn).trans hv) h) hd
/-- a module's constant, a class, a function, as a value -/
theorem pe_glob {x : Str} {v : V} {u : Value} {pos : Pos} (hg : Gl X x) (hm : X.mg x = some u) (r : RelV v u) (hd : (x == ("__debug__" : Str)) = false := by decide) : PE X (.Name x pos) (tC v) :=
  fun _ _ _ H _ I h => ld_glob I hg hm ⟨v, H, I, r, h⟩ hd

/-! ### arithmetic -/
variable {a b : Expr} {ta tb : TE} {pos : Pos}

/-! ### comparisons -/
/-- a comparison as a value, as a test -/
def tB (t : TE) : TT := fun σ H Q => t σ H fun x H1 => ∃ c, x = .bl c ∧ Q c H1
/-- an expression whose value is a bool, as a test -/
theorem pt_val {e : Expr} {t : TE} (h : PE X e t) (he : ∀ whole, isTrue e X.env whole = (do let v ← whole; standAt e.pos; holding [v] (truthy v)) := by intro _; rfl) : PT X e (tB t) := by
  intro pins s σ H Q I hw
  refine isTrue_plain (thn (h pins s σ H _ I hw) fun v s1 ⟨x, H1, I1, r1, q1⟩ => ?_) (he _)
  obtain ⟨d, rfl, q⟩ := q1
  cases r1
  exact wpAny_truthy_bool ⟨H1, I1, q⟩

/-! ### and, or, not -/
variable {tA tB' : TT} {rest : List Expr}
def tAnd (t u : TT) : TT := fun σ H Q => t σ H fun c H1 => if c = true then u σ H1 Q else Q false H1
def tOr (t u : TT) : TT := fun σ H Q => t σ H fun c H1 => if c = true then Q true H1 else u σ H1 Q
def tNot (t : TT) : TT := fun σ H Q => t σ H fun c H1 => Q (!c) H1
theorem pw_and1 (ha : PT X a tA) : PW X (.BoolOp .And [a] pos) tA := by
  intro wh pins s σ H Q I h
  refine isTrue_and (thn (ha pins s σ H Q I h) fun c s1 e => ?_)
  cases c with
  | true => exact isTrue_and_nil e
  | false => exact e
theorem pw_or1 (ha : PT X a tA) : PW X (.BoolOp .Or [a] pos) tA := by
  intro wh pins s σ H Q I h
  refine isTrue_or (thn (ha pins s σ H Q I h) fun c s1 e => ?_)
  cases c with
  | false => exact isTrue_or_nil e
  | true => exact e
theorem pw_and (ha : PT X a tA) (hb : PW X (.BoolOp .And (b :: rest) pos) tB') : PW X (.BoolOp .And (a :: b :: rest) pos) (tAnd tA tB') := by
  intro wh pins s σ H Q I h
  refine isTrue_and (thn (ha pins s σ H _ I h) fun c s1 ⟨H1, I1, q1⟩ => ?_)
  cases c with
  | true => exact hb wh pins s1 σ H1 Q I1 q1
  | false => exact ⟨H1, I1, q1⟩
theorem pw_or (ha : PT X a tA) (hb : PW X (.BoolOp .Or (b :: rest) pos) tB') : PW X (.BoolOp .Or (a :: b :: rest) pos) (tOr tA tB') := by
  intro wh pins s σ H Q I h
  refine isTrue_or (thn (ha pins s σ H _ I h) fun c s1 ⟨H1, I1, q1⟩ => ?_)
  cases c with
  | true => exact ⟨H1, I1, q1⟩
  | false => exact hb wh pins s1 σ H1 Q I1 q1
theorem pt_not (ha : PT X a tA) : PT X (.UnaryOp .Not a pos) (tNot tA) := by
  intro pins s σ H Q I h
  exact isTrue_not (ha pins s σ H (fun c H1 => Q (!c) H1) I h)
/-- a if t else b -/
def tIf (t : TT) (ta tb : TE) : TE := fun σ H Q => t σ H fun c H1 => if c = true then ta σ H1 Q else tb σ H1 Q
theorem pe_ifExp {c : Expr} (hc : PT X c tA) (ha : PE X a ta) (hb : PE X b tb) : PE X (.IfExp c a b pos) (tIf tA ta tb) := by
  intro pins s σ H Q I h
  refine wpAny_IfExp (thn (hc pins s σ H _ I h) fun d s1 ⟨H1, I1, q1⟩ => ?_)
  cases d with
  | true => exact ha pins s1 σ H1 Q I1 q1
  | false => exact hb pins s1 σ H1 Q I1 q1
end
end L2

namespace L2
open PySem PySem.Spec PyProof.Rows

/-! ### a list, a tuple that is read: tracked, frozen, or an object of the module -/
def SqL (K : PySem.W.Frag) (H : Hp) (a : Addr) (xs : List V) : Prop :=
  Rd H a (.lst xs) ∨
    ∃ (o : Obj) (its : Array Value) (n : Nat), K.lookup a = some o ∧ o.cls = .type "list" ∧ o.dict = none ∧ o.data = .seq its n ∧ its.size ≤ sizeLine ∧ Vals xs its.toList
def SqT (K : PySem.W.Frag) (H : Hp) (a : Addr) (xs : List V) : Prop :=
  Rd H a (.tup xs) ∨
    ∃ (o : Obj) (its : Array Value) (n : Nat), K.lookup a = some o ∧ o.cls = .type "tuple" ∧ o.data = .seq its n ∧ its.size ≤ sizeLine ∧ Vals xs its.toList
def absV : Value → Option V
  | .none => some .non
  | .bool b => some (.bl b)
  | .int i _ => some (.int i)
  | .str x _ => some (.str x)
  | .bytes b _ => some (.byt b)
  | .float b _ => some (.flt b)
  | .ref a => some (.ref a)
  | .type n => some (.ty n)
  | _ => none
theorem RelV.abs {x : V} {u : Value} (r : RelV x u) : absV u = some x := by
  cases x with
  | non => cases r; rfl
  | bl _ => cases r; rfl
  | int _ => obtain ⟨t, rfl⟩ := r; rfl
  | str _ => obtain ⟨t, rfl⟩ := r; rfl
  | byt _ => obtain ⟨t, rfl⟩ := r; rfl
  | flt _ => obtain ⟨t, rfl⟩ := r; rfl
  | ref _ => cases r; rfl
  | ty _ => cases r; rfl
theorem RelV.inj {x y : V} {u : Value} (r : RelV x u) (q : RelV y u) : x = y := Option.some.inj (r.abs.symm.trans q.abs)
theorem Vals.inj : ∀ {xs ys : List V} {us : List Value}, Vals xs us → Vals ys us → xs = ys
  | _, _, _, .nil, .nil => rfl
  | _, _, _, .cons r t, .cons r' t' => by rw [r.inj r', Vals.inj t t']
section
variable {X : Cx} {pins : List (Addr × Obj)} {σ : St} {H : Hp} {s : Shared} {a : Addr} {xs ys : List V}
theorem SqL.of {K : PySem.W.Frag} (h : H a = some (.lst xs)) : SqL K H a xs := .inl (.inl h)
theorem SqT.of {K : PySem.W.Frag} (h : H a = some (.tup xs)) : SqT K H a xs := .inl (.inl h)
theorem Inv.list (I : Inv X pins σ H s) (h : SqL X.K H a xs) : ∃ its : List Value, Vals xs its ∧ PlainL s.heap a its.toArray ∧ xs.length ≤ sizeLine := by
  rcases h with h | ⟨o, its, n, hk, hc, hd, hs, hz, r⟩
  · obtain ⟨z, its, n, r, e⟩ := h.ok I.hok
    exact ⟨its, r, ⟨_, n, e, rfl, rfl, rfl⟩, z⟩
  · refine ⟨its.toList, r, ⟨o, n, I.kIn a o hk, hc, hd, by simpa using hs⟩, ?_⟩
    have e := r.length
    simp only [Array.length_toList] at e
    omega
theorem Inv.tuple (I : Inv X pins σ H s) (h : SqT X.K H a xs) : ∃ its : List Value, Vals xs its ∧ IsTup s.heap a its.toArray ∧ xs.length ≤ sizeLine := by
  rcases h with h | ⟨o, its, n, hk, hc, hs, hz, r⟩
  · obtain ⟨z, its, r, p⟩ := h.ok I.hok
    exact ⟨its, r, p, z⟩
  · refine ⟨its.toList, r, ⟨o, I.kIn a o hk, hc, n, by simpa using hs⟩, ?_⟩
    have e := r.length
    simp only [Array.length_toList] at e
    omega
theorem Inv.list_inj (I : Inv X pins σ H s) (h : SqL X.K H a xs) (h' : SqL X.K H a ys) : xs = ys := by
  obtain ⟨its, r, ⟨o, n, e, _, _, d⟩, _⟩ := I.list h
  obtain ⟨its', r', ⟨o', n', e', _, _, d'⟩, _⟩ := I.list h'
  rw [e] at e'; cases e'
  rw [d] at d'
  injection d' with d1 _
  have : its = its' := by simpa using congrArg Array.toList d1
  subst this
  exact r.inj r'
end

/-! ### another wish about exceptions -/
abbrev Cx.wish (X : Cx) (E : Value → Shared → Prop) : Cx := { X with xe := E }
/-- no exception leaves -/
abbrev Cx.nox (X : Cx) : Cx := X.wish fun _ _ => False
theorem Cx.Ok.wish {X : Cx} (ok : X.Ok) (E : Value → Shared → Prop) : (X.wish E).Ok :=
  ⟨ok.mod, ok.kind, ok.glob, ok.blt, ok.above, ok.inj, ok.has, ok.cab, ok.hd, ok.frames, ok.stk, ok.exf, ok.bs, ok.bsz, ok.noex, ok.exfs, ok.funs, ok.frf⟩
theorem Cx.Ok.unwish {X : Cx} {E : Value → Shared → Prop} (ok : (X.wish E).Ok) : X.Ok :=
  ⟨ok.mod, ok.kind, ok.glob, ok.blt, ok.above, ok.inj, ok.has, ok.cab, ok.hd, ok.frames, ok.stk, ok.exf, ok.bs, ok.bsz, ok.noex, ok.exfs, ok.funs, ok.frf⟩
section
variable {X : Cx} {pins : List (Addr × Obj)} {σ : St} {H : Hp} {s : Shared} {E : Value → Shared → Prop}
theorem Inv.wish (I : Inv X pins σ H s) (E : Value → Shared → Prop) : Inv (X.wish E) pins σ H s := ⟨I.ok.wish E, I.os, I.bare, I.base, I.loc, I.cell, I.free, I.freeC, I.pin, I.hok, I.len⟩
theorem Inv.unwish (I : Inv (X.wish E) pins σ H s) : Inv X pins σ H s := ⟨I.ok.unwish, I.os, I.bare, I.base, I.loc, I.cell, I.free, I.freeC, I.pin, I.hok, I.len⟩
theorem SP.unwish {D : Ends} {f : Flow} {s' : Shared} (h : SP (X.wish E) pins D f s') : SP X pins D f s' := by
  cases f with
  | next => obtain ⟨σ', H', I, q⟩ := h; exact ⟨σ', H', I.unwish, q⟩
  | brk => obtain ⟨σ', H', I, q⟩ := h; exact ⟨σ', H', I.unwish, q⟩
  | cont => obtain ⟨σ', H', I, q⟩ := h; exact ⟨σ', H', I.unwish, q⟩
  | ret u => obtain ⟨v, σ', H', I, r, q⟩ := h; exact ⟨v, σ', H', I.unwish, r, q⟩
theorem PSs.nox {st : List Stmt} {t : TS} (h : PSs X.nox st t) : PSs X st t := fun pins s σ H D I hw =>
  wpAny_mono (h pins s σ H D (I.wish _) hw) (fun _ _ q => q.unwish) fun _ _ z => False.elim z
end

/-! ### blocks and small statements -/
section
variable {X : Cx} {st : Stmt} {rest : List Stmt} {t u : TS} {e : Expr} {te : TE} {pos : Pos}
def tNext : TS := fun D σ H => D.nx σ H
def tSeq (t u : TS) : TS := fun D σ H => t { D with nx := u D } σ H
theorem pss_nil : PSs X [] tNext := fun _ _ σ H _ I h => wpAny_execs_nil ⟨σ, H, I, h⟩
theorem pss_cons (h1 : PS X st t) (h2 : PSs X rest u) : PSs X (st :: rest) (tSeq t u) := by
  intro pins s σ H D I h
  refine wpAny_execs_cons (thn (h1 pins s σ H { D with nx := u D } I h) fun f s1 q => ?_)
  cases f with
  | next =>
    obtain ⟨σ', H', I', q⟩ := q
    exact h2 pins s1 σ' H' D I' q
  | ret v => exact q
  | brk => exact q
  | cont => exact q
theorem pss_one (h1 : PS X st t) : PSs X [st] t := by
  intro pins s σ H D I h
  refine wpAny_execs_cons (thn (h1 pins s σ H D I h) fun f s1 q => ?_)
  cases f with
  | next => exact wpAny_execs_nil q
  | ret v => exact q
  | brk => exact q
  | cont => exact q
/-- in a def's body nothing is shown -/
theorem Inv.quiet {pins : List (Addr × Obj)} {σ : St} {H : Hp} {s : Shared} (I : Inv X pins σ H s) : interactive X.env = false := by simp [interactive, I.ok.kind]
/-- an expression whose value is dropped -/
def tDrop (te : TE) : TS := fun D σ H => te σ H fun _ H1 => D.nx σ H1
theorem ps_expr (he : PE X e te) (hs : swapsWith e none pos.line X.env = pure false := by rfl) : PS X (.Expr e pos) (tDrop te) := by
  intro pins s σ H D I h
  exact wpAny_Expr_any (thn (he pins s σ H _ I h) fun v s1 ⟨x, H1, I1, r1, q1⟩ => ⟨σ, H1, I1, q1⟩) I.quiet hs
def tRet (te : TE) : TS := fun D σ H => te σ H D.rt
theorem ps_ret (he : PE X e te) : PS X (.Return (some e) pos) (tRet te) := by
  intro pins s σ H D I h
  exact wpAny_Return_some (thn (he pins s σ H _ I h) fun v s1 ⟨x, H1, I1, r1, q1⟩ => ⟨x, σ, H1, I1, r1, q1⟩)
def tIfS (c : TT) (t u : TS) : TS := fun D σ H => c σ H fun b H1 => if b = true then t D σ H1 else u D σ H1
theorem ps_if {c : Expr} {a b : List Stmt} {tc : TT} (hc : PT X c tc) (ha : PSs X a t) (hb : PSs X b u) : PS X (.If c a b pos) (tIfS tc t u) := by
  intro pins s σ H D I h
  refine wpAny_If (thn (hc pins s σ H _ I h) fun d s1 ⟨H1, I1, q1⟩ => ?_)
  cases d with
  | true => exact ha pins s1 σ H1 D I1 q1
  | false => exact hb pins s1 σ H1 D I1 q1
end

/-! ### targets -/
abbrev TG := V → St → Hp → (St → Hp → Prop) → Prop
abbrev TGs := List V → St → Hp → (St → Hp → Prop) → Prop
def PG (X : Cx) (target : Expr) (t : TG) : Prop :=
  ∀ (pins : List (Addr × Obj)) (s : Shared) (σ : St) (H : Hp) (v : V) (u : Value) (Q : St → Hp → Prop), Inv X pins σ H s → RelV v u → t v σ H Q →
    wpAny (model X.prog X.w) X.A (assign target X.env u) (fun _ s' => ∃ σ' H', Inv X pins σ' H' s' ∧ Q σ' H') X.xe s
/-- several targets, one after another -/
def PGs (X : Cx) (ts : List Expr) (t : TGs) : Prop :=
  ∀ (pins : List (Addr × Obj)) (s : Shared) (σ : St) (H : Hp) (vs : List V) (us : List Value) (Q : St → Hp → Prop), Inv X pins σ H s → Vals vs us → t vs σ H Q →
    wpAny (model X.prog X.w) X.A (assignInOrder ((assignEach ts X.env).map (·.2)) us) (fun _ s' => ∃ σ' H', Inv X pins σ' H' s' ∧ Q σ' H') X.xe s
/-- o[i] = v, by values -/
abbrev TSet := V → V → V → Hp → (Hp → Prop) → Prop
def PSet (X : Cx) (t : TSet) : Prop :=
  ∀ (pins : List (Addr × Obj)) (s : Shared) (σ : St) (H : Hp) (o i v : V) (ov iv u : Value) (Q : Hp → Prop), Inv X pins σ H s → RelV o ov → RelV i iv → RelV v u → t o i v H Q →
    wpAny (model X.prog X.w) X.A (setItem ov iv u) (fun _ s' => ∃ H', Inv X pins σ H' s' ∧ Q H') X.xe s
/-- a op= b, by values -/
abbrev TIp := V → V → Hp → VK → Prop
def PIp (X : Cx) (op : Operator) (t : TIp) : Prop :=
  ∀ (pins : List (Addr × Obj)) (s : Shared) (σ : St) (H : Hp) (x y : V) (v u : Value) (Q : VK), Inv X pins σ H s → RelV x v → RelV y u → t x y H Q →
    wpAny (model X.prog X.w) X.A (inplaceOp op v u) (EP X pins σ Q) X.xe s
section
variable {X : Cx} {pos : Pos}
def gName (i : Nat) : TG := fun v σ H Q => Q (σ.set i (some v)) H
theorem pg_name {i : Nat} {x : Str} (hN : X.N.Nodup) (hi : X.N[i]? = some x) (hx : Loc X.env.scope x) (hf : X.fn x = true ∨ X.env.scope.names.lookup x = some .local := by first | exact .inl rfl | exact .inr rfl | assumption) : PG X (.Name x pos) (gName i) := by
  intro pins s σ H v u Q I r h
  exact wpAny_assign_Name (store_ok I hN hi hx r (fun s' I' => ⟨_, H, I', h⟩) hf)
def gNil : TGs := fun vs σ H Q => vs = [] ∧ Q σ H
def gCons (t : TG) (u : TGs) : TGs := fun vs σ H Q => ∃ v r, vs = v :: r ∧ t v σ H fun σ' H' => u r σ' H' Q
theorem pgs_nil : PGs X [] gNil := by
  intro pins s σ H vs us Q I r h
  obtain ⟨e, h⟩ := h
  subst e
  cases r
  exact assignInOrder_nil ⟨σ, H, I, h⟩
theorem pgs_cons {e : Expr} {es : List Expr} {t : TG} {u : TGs} (h1 : PG X e t) (h2 : PGs X es u)
    (hs : (assignEach (e :: es) X.env).map (·.2) = assign e X.env :: (assignEach es X.env).map (·.2) := by rfl) : PGs X (e :: es) (gCons t u) := by
  intro pins s σ H vs us Q I r h
  obtain ⟨v, vr, e1, h⟩ := h
  subst e1
  cases r with
  | cons r rr =>
    rw [hs]
    refine assignInOrder_cons (thn (h1 pins s σ H _ _ _ I r h) fun _ s1 ⟨σ1, H1, I1, q1⟩ => ?_)
    exact h2 pins s1 σ1 H1 _ _ Q I1 rr q1
/-- (a, b, ..) = a tuple of that length -/
def gTup (K : PySem.W.Frag) (n : Nat) (t : TGs) : TG := fun v σ H Q => ∃ a xs, v = .ref a ∧ SqT K H a xs ∧ xs.length = n ∧ t xs σ H Q
theorem pg_tup {es : List Expr} {k : Nat} {t : TGs} {n : Nat} (hc : X.calm = true) (h : PGs X es t)
    (hn : (assignEach es X.env).length = n := by rfl) (hst : (assignEach es X.env).findIdx? (·.1) = none := by rfl) : PG X (.Tuple es k pos) (gTup X.K n t) := by
  intro pins s σ H v u Q I r hw
  obtain ⟨a, xs, e1, hq, hl, hw⟩ := hw
  subst e1
  cases r
  obtain ⟨its, rv, ht, hz⟩ := I.tuple hq
  refine assign_Tuple_tuple (I.ok.hd hc) ht (by simp [hn, ← hl, rv.length]) hst fun h' hx => ?_
  have I1 : Inv X pins σ H { s with heap := h' } := I.kept (t' := s.toks) fun b o e => hx b o (Nat.ne_of_lt (Heap.lt_size e)) e
  exact h pins _ σ H xs _ Q I1 (by simpa using rv) hw
/-- o[i] = .. -/
def gSub (to ti : TE) (t : TSet) : TG := fun v σ H Q => to σ H fun o H1 => ti σ H1 fun i H2 => t o i v H2 fun H3 => Q σ H3
theorem pg_sub {o i : Expr} {to ti : TE} {t : TSet} (ho : PE X o to) (hi : PE X i ti) (hs : PSet X t)
    (ha : ∀ v, assign (.Subscript o i pos) X.env v = (do
      let ov ← holding [v] (eval o X.env)
      let iv ← holding [v, ov] (eval i X.env)
      standAt pos
      holding [v, ov, iv] (setItem ov iv v)
      release [v, ov, iv] []) := by intro _; rfl) : PG X (.Subscript o i pos) (gSub to ti t) := by
  intro pins s σ H v u Q I r h
  rw [ha]
  refine wpAny_bind (wpAny_holding (thn (ho pins s σ H _ I h) fun ov s1 ⟨x, H1, I1, r1, q1⟩ => ?_))
  refine wpAny_bind (wpAny_holding (thn (hi pins s1 σ H1 _ I1 q1) fun iv s2 ⟨y, H2, I2, r2, q2⟩ => ?_))
  refine wpAny_bind (wpAny_standAt (wpAny_bind (wpAny_holding (thn (hs pins s2 σ H2 x y v ov iv u _ I2 r1 r2 r q2) fun _ s3 ⟨H3, I3, q3⟩ => ?_))))
  exact wpAny_release ⟨σ, H3, I3, q3⟩
/-- target = value -/
def tAsg (te : TE) (g : TG) : TS := fun D σ H => te σ H fun x H1 => g x σ H1 D.nx
theorem ps_asg {tg e : Expr} {te : TE} {g : TG} (he : PE X e te) (hg : PG X tg g) (hs : swapsWithSole [tg] e pos.line X.env = pure false := by rfl) (hw : swappedStores [tg] e X.env = pure none := by rfl)
    (h1 : (assignEach [tg] X.env).map (·.2) = [assign tg X.env] := by rfl) : PS X (.Assign [tg] e pos) (tAsg te g) := by
  intro pins s σ H D I h
  refine wpAny_Assign_stores (thn (he pins s σ H _ I h) fun v s1 ⟨x, H1, I1, r1, q1⟩ => ?_) hs hw
  rw [h1]
  exact thn (hg pins s1 σ H1 x v _ I1 r1 q1) fun _ s2 q => q
/-- name = value -/
theorem ps_set {i : Nat} {x : Str} {e : Expr} {te : TE} {pos' : Pos} (hN : X.N.Nodup) (hi : X.N[i]? = some x) (hx : Loc X.env.scope x) (he : PE X e te) (hs : swapsWith e (some (.Name x pos')) pos.line X.env = pure false := by rfl) (hf : X.fn x = true ∨ X.env.scope.names.lookup x = some .local := by first | exact .inl rfl | exact .inr rfl | assumption) :
    PS X (.Assign [.Name x pos'] e pos) (tAsg te (gName i)) := by
  intro pins s σ H D I h
  refine wpAny_Assign_Name (thn (he pins s σ H _ I h) fun v s1 ⟨y, H1, I1, r1, q1⟩ => ?_) hs
  exact store_ok I1 hN hi hx r1 (fun s2 I2 => ⟨_, H1, I2, q1⟩) hf
/-- name op= e -/
def tAug (i : Nat) (te : TE) (ti : TIp) : TS := fun D σ H => ∃ x, σ[i]? = some (some x) ∧ te σ H fun y H1 => ti x y H1 fun z H2 => D.nx (σ.set i (some z)) H2
theorem ps_aug {i : Nat} {x : Str} {e : Expr} {te : TE} {op : Operator} {ti : TIp} {pos' : Pos} (hN : X.N.Nodup) (hi : X.N[i]? = some x) (hx : Loc X.env.scope x) (he : PE X e te) (ho : PIp X op ti) (hf : X.fn x = true ∨ X.env.scope.names.lookup x = some .local := by first | exact .inl rfl | exact .inr rfl | assumption) :
    PS X (.AugAssign (.Name x pos') op e pos) (tAug i te ti) := by
  intro pins s σ H D I h
  obtain ⟨v, e1, h⟩ := h
  obtain ⟨m, hn, hl⟩ := I.loc
  have vis : Vis X.env.scope x := by rcases hx with k | k; exact .inl k; exact .inr (.inl k)
  obtain ⟨u, r, l⟩ := hl i x v hi e1 vis
  refine wpAny_AugAssign_Name ?_
  have go : wpAny (model X.prog X.w) X.A (eval e X.env) (fun w s₂ => wpAny (model X.prog X.w) X.A (inplaceOp op u w) (fun r s₃ => wpAny (model X.prog X.w) X.A (storeName X.env x r) (fun _ => SP X pins D .next) X.xe s₃) X.xe s₂) X.xe s := by
    refine thn (he pins s σ H _ I h) fun w s1 ⟨y, H1, I1, r1, q1⟩ => ?_
    refine thn (ho pins s1 σ H1 v y u w _ I1 r r1 q1) fun z s2 ⟨zv, H2, I2, r2, q2⟩ => ?_
    exact store_ok I2 hN hi hx r2 (fun s3 I3 => ⟨_, H2, I3, q2⟩) hf
  rcases l with ⟨hk, hm⟩ | ⟨hk, c, hc, hcell⟩
  · exact wpAny_loadName_local I.ok.kind hk hn hm go
  · rcases hk with hk | hk
    · exact wpAny_loadName_cell I.ok.kind hk hc hcell go
    · rcases hx with k | k
      · have : X.env.scope.names.lookup x = some .free := hk
        rw [k] at this; cases this
      · have : X.env.scope.names.lookup x = some .free := hk
        rw [k] at this; cases this
/-- o[i] op= e -/
def tAugS (to ti te : TE) (tget : V → V → Hp → VK → Prop) (tip : TIp) (tset : TSet) : TS := fun D σ H => to σ H fun o H1 => ti σ H1 fun i H2 => tget o i H2 fun x H3 => te σ H3 fun y H4 => tip x y H4 fun z H5 => tset o i z H5 fun H6 => D.nx σ H6
/-- o[i], by values -/
def PGet (X : Cx) (t : V → V → Hp → VK → Prop) : Prop :=
  ∀ (pins : List (Addr × Obj)) (s : Shared) (σ : St) (H : Hp) (o i : V) (ov iv : Value) (Q : VK), Inv X pins σ H s → RelV o ov → RelV i iv → t o i H Q →
    wpAny (model X.prog X.w) X.A (getItem ov iv) (EP X pins σ Q) X.xe s
theorem ps_augS {o i e : Expr} {to ti te : TE} {tget : V → V → Hp → VK → Prop} {tip : TIp} {tset : TSet} {op : Operator} {tpos : Pos} (ho : PE X o to) (hi : PE X i ti) (hg : PGet X tget) (he : PE X e te) (hp : PIp X op tip) (hs : PSet X tset)
    (ha : ∀ ov iv new, augStore i ov iv new = (do holding [new, ov, iv] (setItem ov iv new); release [new, ov, iv] []; pure .next) := by intros; rfl) : PS X (.AugAssign (.Subscript o i tpos) op e pos) (tAugS to ti te tget tip tset) := by
  intro pins s σ H D I h
  refine wpAny_AugAssign_SubscriptAny (thn (ho pins s σ H _ I h) fun ov s1 ⟨x1, H1, I1, r1, q1⟩ => ?_) ha
  refine thn (hi pins s1 σ H1 _ I1 q1) fun iv s2 ⟨x2, H2, I2, r2, q2⟩ => ?_
  refine thn (hg pins s2 σ H2 x1 x2 ov iv _ I2 r1 r2 q2) fun old s3 ⟨x3, H3, I3, r3, q3⟩ => ?_
  refine thn (he pins s3 σ H3 _ I3 q3) fun v s4 ⟨x4, H4, I4, r4, q4⟩ => ?_
  refine thn (hp pins s4 σ H4 x3 x4 old v _ I4 r3 r4 q4) fun new s5 ⟨x5, H5, I5, r5, q5⟩ => ?_
  exact thn (hs pins s5 σ H5 x1 x2 x5 ov iv new _ I5 r1 r2 r5 q5) fun _ s6 ⟨H6, I6, q6⟩ => ⟨σ, H6, I6, q6⟩
/-- ints -/
def ipI (f : Int → Int → Int) : TIp := fun x y H Q => ∃ i j, x = .int i ∧ y = .int j ∧ Q (.int (f i j)) H
theorem ip_add : PIp X .Add (ipI fun i j => i + j) := by
  intro pins s σ H x y v u Q I r1 r2 h
  obtain ⟨i, j, e1, e2, q⟩ := h
  subst e1; subst e2
  obtain ⟨t, rfl⟩ := r1
  obtain ⟨t', rfl⟩ := r2
  exact iadd_int ⟨.int _, H, I.tok _, ⟨_, rfl⟩, q⟩
theorem ip_sub : PIp X .Sub (ipI fun i j => i - j) := by
  intro pins s σ H x y v u Q I r1 r2 h
  obtain ⟨i, j, e1, e2, q⟩ := h
  subst e1; subst e2
  obtain ⟨t, rfl⟩ := r1
  obtain ⟨t', rfl⟩ := r2
  exact isub_int ⟨.int _, H, I.tok _, ⟨_, rfl⟩, q⟩
end

/-! ### while -/
section
variable {X : Cx} {pos : Pos}
/-- the invariant W with its measure -/
def tWhile (c : TT) (tb : TS) : TS := fun D σ H => ∃ W : Nat → St → Hp → Prop, (∃ m, W m σ H) ∧ ∀ m σ H, W m σ H →
  c σ H fun b H1 => if b = true then ∃ N : St → Hp → Prop, (∀ σ' H', N σ' H' → ∃ m', m' < m ∧ W m' σ' H') ∧ tb { D with nx := N, ct := N, bk := D.nx } σ H1 else D.nx σ H1
theorem ps_while {c : Expr} {body : List Stmt} {tc : TT} {tb : TS} (hp : PassesOwn (model X.prog X.w) X.A X.env X.xe) (hc : PT X c tc) (hb : PSs X body tb) : PS X (.While c body [] pos) (tWhile tc tb) := by
  intro pins s σ H D I h
  obtain ⟨W, ⟨m0, w0⟩, turn⟩ := h
  refine wpAny_While (codeAny_whileLoop (fun n s' => ∃ σ' H', Inv X pins σ' H' s' ∧ W n σ' H') ?_ m0 ⟨σ, H, I, w0⟩)
  rintro n s1 ⟨σ1, H1, I1, w1⟩
  refine wpAny_passesOwn hp (thn (hc pins s1 σ1 H1 _ I1 (turn n σ1 H1 w1)) fun b s2 ⟨H2, I2, q2⟩ => ?_)
  cases b with
  | true =>
    obtain ⟨N, hN, q2⟩ := q2
    rw [if_pos rfl]
    refine wpAny_passesOwn hp (thn (hb pins s2 σ1 H2 _ I2 q2) fun f s3 q3 => ?_)
    cases f with
    | next =>
      obtain ⟨σ3, H3, I3, n3⟩ := q3
      obtain ⟨m', hm, w3⟩ := hN σ3 H3 n3
      exact ⟨m', hm, σ3, H3, I3, w3⟩
    | cont =>
      obtain ⟨σ3, H3, I3, n3⟩ := q3
      obtain ⟨m', hm, w3⟩ := hN σ3 H3 n3
      exact ⟨m', hm, σ3, H3, I3, w3⟩
    | brk => exact q3
    | ret v => exact q3
  | false =>
    rw [if_neg Bool.false_ne_true]
    exact wpAny_execs_nil ⟨σ1, H2, I2, q2⟩
end

/-! ### what a loop or a comprehension walks -/
/-- at turn i: it yields x (the heap may grow), or it stops -/
structure It where
  go : Nat → Hp → Prop
  yld : Nat → Hp → V → Hp → Prop
  stop : Nat → Hp → Prop
/-- the iterator's own objects may turn: they are not the frame's, not pinned, younger than the entry (or a comprehension's own) -/
def FpOk (X : Cx) (pins : List (Addr × Obj)) (H : Hp) (b : Addr) : Prop :=
  H b = none ∧ b ≠ X.env.locals ∧ b ∉ X.fs ∧ (b ∈ X.ex ∨ X.s_0.heap.objs.size ≤ b) ∧ (∀ x c, X.env.cells.lookup x = some c → c ≠ b) ∧ ∀ p ∈ X.pn ++ pins, p.1 ≠ b
theorem Inv.fpOk {X : Cx} {pins : List (Addr × Obj)} {σ : St} {H H' : Hp} {s : Shared} {b : Addr} (I : Inv X pins σ H s) (hb : s.heap.objs.size ≤ b) (hn : H' b = none) : FpOk X pins H' b := by
  refine ⟨hn, Nat.ne_of_gt (Nat.lt_of_lt_of_le I.lt hb), I.nofs hb, .inr (Nat.le_trans I.sz hb), fun x c e z => ?_, fun p hp z => ?_⟩
  · obtain ⟨v, q⟩ := I.cell x c e
    exact absurd (Nat.lt_of_lt_of_le q.lt (by rw [z]; exact hb)) (Nat.lt_irrefl _)
  · exact absurd (Nat.lt_of_lt_of_le (Heap.lt_size (I.pin p hp).1) (by rw [z]; exact hb)) (Nat.lt_irrefl _)
structure Turn (P : Program) (w : World) (K : PySem.W.Frag) (tg : Expr) (J : It) (fp : List Addr) (it : Addr) (tn : Nat → Heap → Prop) : Prop where
  mem : it ∈ fp
  obj : ∀ i h, tn i h → ∀ b ∈ fp, ∃ o, h.get? b = some o ∧ ∀ v, o.data ≠ .cell v
  keep : ∀ i h h', tn i h → (∀ b ∈ fp, ∀ o, h.get? b = some o → h'.get? b = some o) → tn i h'
  item : ∀ (X : Cx), X.prog = P → X.w = w → X.K = K → X.calm = true → ∀ (i : Nat) (pins : List (Addr × Obj)) (s : Shared) (σ : St) (H : Hp) (E : Value → Shared → Prop), Inv X pins σ H s → (∀ b ∈ fp, FpOk X pins H b) → tn i s.heap → J.go i H →
    wpAny (model P w) X.A (pyNext (.ref it)) (fun r s1 => ∃ u, r = some u ∧
      wpAny (model P w) X.A (letOwnedTupleGo tg (.ref it) u) (fun _ s2 => ∃ x H', Inv X pins σ H' s2 ∧ RelV x u ∧ J.yld i H x H' ∧ tn (i + 1) s2.heap ∧ ∀ b ∈ fp, H' b = none) E s1) E s
  done : ∀ (X : Cx), X.prog = P → X.w = w → X.K = K → X.calm = true → ∀ (i : Nat) (pins : List (Addr × Obj)) (s : Shared) (σ : St) (H : Hp) (E : Value → Shared → Prop), Inv X pins σ H s → (∀ b ∈ fp, FpOk X pins H b) → tn i s.heap → J.stop i H →
    wpAny (model P w) X.A (pyNext (.ref it)) (fun r s1 => r = none ∧ Inv X pins σ H s1) E s
  self : ∀ (A : Around) (i : Nat) (s : Shared) (Q : Value → Shared → Prop) (E : Value → Shared → Prop), tn i s.heap → Q (.ref it) s → wpAny (model P w) A (pyIter (.ref it)) Q E s
abbrev TI := St → Hp → (It → Hp → Prop) → Prop
/-- an iterator has come -/
def PIE (X : Cx) (pins : List (Addr × Obj)) (σ : St) (tg : Expr) (R : It → Hp → Prop) (itv : Value) (s2 : Shared) : Prop :=
  ∃ (it : Addr) (fp : List Addr) (tn : Nat → Heap → Prop) (J : It) (H' : Hp), itv = .ref it ∧ Inv X pins σ H' s2 ∧ Turn X.prog X.w X.K tg J fp it tn ∧ tn 0 s2.heap ∧ (∀ b ∈ fp, FpOk X pins H' b) ∧ R J H'
def PI (X : Cx) (tg iter : Expr) (wi : TI) : Prop :=
  ∀ (pins : List (Addr × Obj)) (s : Shared) (σ : St) (H : Hp) (R : It → Hp → Prop), Inv X pins σ H s → wi σ H R →
    wpAny (model X.prog X.w) X.A (eval iter X.env) (fun v s1 => wpAny (model X.prog X.w) X.A (pyIter v) (PIE X pins σ tg R) X.xe s1) X.xe s

/-- the step ahead of the store is nothing for an iterator that keeps no tuple -/
theorem go_of {M : Model} {A : Around} {E : Value → Shared → Prop} {s : Shared} {tg : Expr} {it : Addr} {u : Value} {o : Obj} {n : String} {vs : Array Value} {Q : Unit → Shared → Prop} (ho : s.heap.get? it = some o) (hc : o.cls = .type n) (hd : o.data = .fields vs)
    (hn : ["enumerate", "zip", "dict_itemiterator", "dict_reverseitemiterator", "odict_iterator", "itertools.zip_longest", "itertools.pairwise"].contains n = false) (hQ : Q () s) : wpAny M A (letOwnedTupleGo tg (.ref it) u) Q E s := by
  unfold letOwnedTupleGo
  cases tg <;> first
    | exact wpAny_pure hQ
    | (cases u <;> first
        | exact wpAny_pure hQ
        | (refine wpAny_bind (wpAny_load ho ?_)
           rw [hc, hd]
           show wpAny M A (if (["enumerate", "zip", "dict_itemiterator", "dict_reverseitemiterator", "odict_iterator", "itertools.zip_longest", "itertools.pairwise"].contains n && vs[0]? == some (rawInt _)) = true then _ else _) Q E s
           rw [if_neg (by intro h; rw [hn, Bool.false_and] at h; cases h)]
           exact wpAny_pure hQ))

/-- the list at a, as it stands at each turn (a loop may append to it) -/
def Itl (K : PySem.W.Frag) (a : Addr) : It :=
  ⟨fun i H => ∃ xs x, SqL K H a xs ∧ xs[i]? = some x, fun i H x H' => H' = H ∧ ∀ xs, SqL K H a xs → xs[i]? = some x, fun i H => ∃ xs, SqL K H a xs ∧ xs.length ≤ i⟩
/-- lo, lo + 1, .. (n of them) -/
def Itr (lo : Int) (n : Nat) : It := ⟨fun i _ => i < n, fun i H x H' => H' = H ∧ x = .int (lo + i), fun i _ => n ≤ i⟩
theorem turn_list {P : Program} {w : World} {K : PySem.W.Frag} {tg : Expr} (a it : Addr) : Turn P w K tg (Itl K a) [it] it (fun i h => h.IsListIter it a i) where
  mem := by simp
  obj := fun i h st b hb => by
    have e : b = it := by simpa using hb
    subst e
    obtain ⟨o, e, c, d⟩ := st
    exact ⟨o, e, fun v z => by rw [d] at z; cases z⟩
  keep := fun i h h' st k => st.at fun o e => k it (by simp) o e
  item := by
    intro X hP hw hK hc i pins s σ H E I hf st hg
    subst hP hw hK
    obtain ⟨xs, x, hq, hx⟩ := hg
    obtain ⟨its, rv, p, hz⟩ := I.list hq
    obtain ⟨u, hu, ru⟩ := rv.get hx
    obtain ⟨f0, f1, f2, f3, f4, f5⟩ := hf it (by simp)
    refine wpAny_pyNext_list_item st p.isList (x := u) (by simpa using hu) fun h' st' sb => ?_
    have I1 : Inv X pins σ H { s with heap := h' } := I.turned (t' := s.toks) (fun b o hb e => (sb.2 b hb).trans e) f0 f1 f3 f4 f5
    obtain ⟨o, e, c, d⟩ := id st'
    exact ⟨u, rfl, go_of (s := { s with heap := h' }) e c d (by decide) ⟨x, H, I1, ru, ⟨rfl, fun ys hy => by rw [I.list_inj hy hq]; exact hx⟩, st', fun b hb => (hf b hb).1⟩⟩
  done := by
    intro X hP hw hK hc i pins s σ H E I hf st hg
    subst hP hw hK
    obtain ⟨xs, hq, hx⟩ := hg
    obtain ⟨its, rv, p, hz⟩ := I.list hq
    obtain ⟨f0, f1, f2, f3, f4, f5⟩ := hf it (by simp)
    have hl := rv.length
    exact wpAny_pyNext_list_end (I.ok.hd hc) st p.isList (by simp; omega) fun h' eb => ⟨rfl, I.turned (t' := s.toks) (fun b o hb e => eb b o hb e) f0 f1 f3 f4 f5⟩
  self := fun _ _ _ _ _ st h => wpAny_pyIter_listiter st h
theorem turn_range {P : Program} {w : World} {K : PySem.W.Frag} {tg : Expr} (it : Addr) (lo : Int) (n : Nat) : Turn P w K tg (Itr lo n) [it] it (fun i h => IsRangeIter h it (lo + (i : Nat) * 1) ((n : Int) - (i : Nat)) 1) where
  mem := by simp
  obj := fun i h st b hb => by
    have e : b = it := by simpa using hb
    subst e
    exact ⟨_, st, fun v z => by
      have z' : Data.fields _ = Data.cell v := z
      cases z'⟩
  keep := fun i h h' st k => k it (by simp) _ st
  item := by
    intro X hP hw hK hc i pins s σ H E I hf st hg
    subst hP hw hK
    obtain ⟨f0, f1, f2, f3, f4, f5⟩ := hf it (by simp)
    have W := Walks.range (prog := X.prog) (w := X.w) (I.ok.hd hc) it lo 1 n
    refine W.item i s _ _ hg st fun v h' tk hv st' kk => ?_
    obtain ⟨t, rfl⟩ := hv
    have I1 : Inv X pins σ H { s with heap := h', toks := tk } := I.turned (fun b o hb e => kk b o (by simpa using hb) e) f0 f1 f3 f4 f5
    refine ⟨_, rfl, go_of (s := { s with heap := h', toks := tk }) (n := "range_iterator") st' rfl rfl (by decide) ⟨.int (lo + i), H, I1, ⟨t, ?_⟩, ⟨rfl, rfl⟩, st', fun b hb => (hf b hb).1⟩⟩
    rw [Int.mul_one]
  done := by
    intro X hP hw hK hc i pins s σ H E I hf st hg
    subst hP hw hK
    obtain ⟨f0, f1, f2, f3, f4, f5⟩ := hf it (by simp)
    exact wpAny_pyNext_range_end (I.ok.hd hc) st (by have : n ≤ i := hg; omega) fun h' eb => ⟨rfl, I.turned (t' := s.toks) (fun b o hb e => eb b o hb e) f0 f1 f3 f4 f5⟩
  self := fun _ _ _ _ _ st h => wpAny_pyIter_rangeiter st h
end L2

namespace L2
open PySem PySem.Spec PyProof.Rows
section
variable {X : Cx} {tg : Expr}
def iList (K : PySem.W.Frag) (tl : TE) : TI := fun σ H R => tl σ H fun x H1 => ∃ a, x = .ref a ∧ (∃ xs, SqL K H1 a xs) ∧ R (Itl K a) H1
theorem pi_list {l : Expr} {tl : TE} (hl : PE X l tl) : PI X tg l (iList X.K tl) := by
  intro pins s σ H R I h
  refine thn (hl pins s σ H _ I h) fun v s1 ⟨x, H1, I1, r1, q1⟩ => ?_
  obtain ⟨a, e, ⟨xs, hq⟩, q⟩ := q1
  subst e
  cases r1
  obtain ⟨its, rv, p, hz⟩ := I1.list hq
  refine wpAny_pyIter_list p.isList ?_
  refine ⟨s1.heap.objs.size, [s1.heap.objs.size], _, _, H1, rfl, I1.kept (t' := s1.toks) fun b o e => Heap.get?_push_of_some _ e, turn_list a _, ⟨_, Heap.get?_push_size _ rfl, rfl, rfl⟩, fun b hb => ?_, q⟩
  have e : b = s1.heap.objs.size := by simpa using hb
  subst e
  exact I1.fpOk (Nat.le_refl _) (I1.hok.fresh (Nat.le_refl _))
/-- a range object just made, walked -/
theorem range_it {pins : List (Addr × Obj)} {σ : St} {H : Hp} {s : Shared} {R : It → Hp → Prop} {E : Value → Shared → Prop} {lo hi : Int} {t u v : Tok} {tk : Nat} (I : Inv X pins σ H s) (h1 : -(2 ^ 62) ≤ lo) (h2 : lo < 2 ^ 62) (h3 : -(2 ^ 62) ≤ hi) (h4 : hi < 2 ^ 62)
    (q : R (Itr lo (hi - lo).toNat) H) : wpAny (model X.prog X.w) X.A (pyIter (.ref s.heap.objs.size)) (PIE X pins σ tg R) E { s with heap := s.heap.push { cls := .type "range", data := .fields #[.int lo t, .int hi u, .int 1 v] }, toks := tk } := by
  refine wpAny_pyIter_range (IsRange.new ..) (small_one h1 h2 h3 h4) ?_
  have I1 : Inv X pins σ H { s with heap := s.heap.push { cls := .type "range", data := .fields #[.int lo t, .int hi u, .int 1 v] }, toks := tk } := I.kept fun b o e => Heap.get?_push_of_some _ e
  refine ⟨(s.heap.push { cls := .type "range", data := .fields #[.int lo t, .int hi u, .int 1 v] }).objs.size, [(s.heap.push { cls := .type "range", data := .fields #[.int lo t, .int hi u, .int 1 v] }).objs.size], _, _, H, rfl,
    I1.kept (t' := tk) fun b o e => Heap.get?_push_of_some _ e, turn_range _ lo (hi - lo).toNat, ?_, fun b hb => ?_, q⟩
  · have e1 : lo + ((0 : Nat) : Int) * 1 = lo := by simp
    have e2 : (((hi - lo).toNat : Nat) : Int) - ((0 : Nat) : Int) = Builtin.Range.rangeSize lo hi 1 := by rw [rangeSize_one]; split <;> omega
    show IsRangeIter _ _ (lo + ((0 : Nat) : Int) * 1) ((((hi - lo).toNat : Nat) : Int) - ((0 : Nat) : Int)) 1
    rw [e1, e2]
    exact Heap.get?_push_size _ rfl
  · have e : b = (s.heap.push { cls := .type "range", data := .fields #[.int lo t, .int hi u, .int 1 v] }).objs.size := by simpa using hb
    subst e
    exact I1.fpOk (Nat.le_refl _) (I1.hok.fresh (Nat.le_refl _))
def iRng1 (ta : TA) : TI := fun σ H R => ta σ H fun vs H1 => ∃ j : Int, vs = [.int j] ∧ -(2 ^ 62) ≤ j ∧ j < 2 ^ 62 ∧ R (Itr 0 j.toNat) H1
theorem pi_range1 {a : Expr} {ta : TA} {p pos : Pos} (hg : Gl X "range") (hm : X.mg "range" = none) (ha : PA X [a] ta) (hs : starEach [a] X.env = [(false, eval a X.env)] := by rfl) : PI X tg (.Call (.Name "range" p) [a] [] pos) (iRng1 ta) := by
  intro pins s σ H R I h
  refine Call_ (ld_blt I hg hm boot_range (PyProof.Rows.callWith_type1 (thn (ha pos pins s σ H _ I h) fun us s1 ⟨vs, H1, I1, r1, q1⟩ => ?_) hs rfl))
  obtain ⟨j, e, q1, q2, q⟩ := q1
  subst e
  cases r1 with
  | cons r rr =>
    cases rr
    obtain ⟨t, rfl⟩ := r
    exact call_range_1 (range_it I1 (by omega) (by omega) q1 q2 (by simpa using q))

/-! ### for -/
/-- W: the invariant by the turn and a measure; N: what the body is to reach -/
def tFor (wi : TI) (g : TG) (tb : TS) : TS := fun D σ H => wi σ H fun J H1 => ∃ W : Nat → Nat → St → Hp → Prop, (∃ m, W 0 m σ H1) ∧ ∀ i m σ H, W i m σ H →
  (J.stop i H ∧ D.nx σ H) ∨ (J.go i H ∧ ∃ N : St → Hp → Prop, (∀ σ' H', N σ' H' → ∃ m', m' < m ∧ W (i + 1) m' σ' H') ∧ ∀ x H', J.yld i H x H' → g x σ H' fun σ2 H2 => tb { D with nx := N, ct := N, bk := D.nx } σ2 H2)
/-- the records at fp as they stand -/
def pinsAt (fp : List Addr) (h : Heap) : List (Addr × Obj) := fp.filterMap fun b => (h.get? b).map fun o => (b, o)
theorem mem_pinsAt {fp : List Addr} {h : Heap} {b : Addr} {o : Obj} (hb : b ∈ fp) (e : h.get? b = some o) : (b, o) ∈ pinsAt fp h := List.mem_filterMap.mpr ⟨b, hb, by rw [e]; rfl⟩
theorem of_pinsAt {fp : List Addr} {h : Heap} {p : Addr × Obj} (hp : p ∈ pinsAt fp h) : p.1 ∈ fp ∧ h.get? p.1 = some p.2 := by
  obtain ⟨b, hb, e⟩ := List.mem_filterMap.mp hp
  cases q : h.get? b with
  | none => rw [q] at e; cases e
  | some o =>
    rw [q] at e
    have e' : (b, o) = p := Option.some.inj e
    subst e'
    exact ⟨hb, q⟩
theorem Inv.pinned {pins : List (Addr × Obj)} {σ : St} {H : Hp} {s : Shared} {fp : List Addr} (I : Inv X pins σ H s) (hf : ∀ b ∈ fp, FpOk X pins H b) (ho : ∀ b ∈ fp, ∃ o, s.heap.get? b = some o ∧ ∀ v, o.data ≠ .cell v) : Inv X (pins ++ pinsAt fp s.heap) σ H s :=
  I.pins_of fun p hp => (List.mem_append.mp hp).elim (fun z => I.pin p (List.mem_append_right _ z)) fun z => by
    obtain ⟨hb, e⟩ := of_pinsAt z
    obtain ⟨f0, f1, f2, _⟩ := hf p.1 hb
    obtain ⟨o, e', d⟩ := ho p.1 hb
    rw [e] at e'; cases e'
    exact ⟨e, f0, f1, f2, d⟩
theorem Inv.unpinned {pins pl : List (Addr × Obj)} {σ : St} {H : Hp} {s : Shared} (I : Inv X (pins ++ pl) σ H s) : Inv X pins σ H s := I.pins_of fun p hp => I.pin p (List.mem_append_right _ (List.mem_append_left _ hp))
theorem ps_for {iter : Expr} {body : List Stmt} {wi : TI} {g : TG} {tb : TS} {pos : Pos} (hp : PassesOwn (model X.prog X.w) X.A X.env X.xe) (hc : X.calm = true) (hi : PI X tg iter wi) (hg : PG X tg g) (hb : PSs X body tb)
    (hs : ∀ x, foldedSetIterable iter X.env x = pure x := by intro _; rfl) : PS X (.For tg iter body [] pos) (tFor wi g tb) := by
  intro pins s σ H D I h
  refine wpAny_For (thn (hi pins s σ H _ I h) fun v s1 h1 => thn h1 fun itv s2 h2 => ?_) hs
  obtain ⟨it, fp, tn, J, H2, e, I2, T, st2, f2, W, ⟨m0, w0⟩, turn⟩ := h2
  subst e
  -- what stays true of the iterator's objects through the loop
  have stat : ∀ {H' : Hp}, (∀ b ∈ fp, H' b = none) → ∀ b ∈ fp, FpOk X pins H' b := fun hn b hb => ⟨hn b hb, (f2 b hb).2⟩
  refine codeAny_forLoop_any (fun n s' => ∃ i σ' H', Inv X pins σ' H' s' ∧ tn i s'.heap ∧ (∀ b ∈ fp, H' b = none) ∧ W i n σ' H') ?_ m0 ⟨0, σ, H2, I2, st2, fun b hb => (f2 b hb).1, w0⟩
  rintro n s3 ⟨i, σ3, H3, I3, st3, fr3, w3⟩
  rcases turn i n σ3 H3 w3 with ⟨stop, qn⟩ | ⟨go, N, hN, step⟩
  · refine wpAny_passesOwn hp (thn (T.done X rfl rfl rfl hc i pins s3 σ3 H3 X.xe I3 (stat fr3) st3 stop) fun r s4 ⟨hr, I4⟩ => ?_)
    subst hr
    exact wpAny_execs_nil ⟨σ3, H3, I4, qn⟩
  · refine wpAny_passesOwn hp (thn (T.item X rfl rfl rfl hc i pins s3 σ3 H3 X.xe I3 (stat fr3) st3 go) fun r s4 ⟨u, hr, h4⟩ => ?_)
    subst hr
    refine wpAny_passesOwn hp (thn h4 fun _ s5 ⟨x, H5, I5, r5, y5, st5, fr5⟩ => ?_)
    have I5' := I5.pinned (stat fr5) (T.obj _ _ st5)
    refine wpAny_passesOwn hp (thn (hg _ s5 σ3 H5 x u _ I5' r5 (step x H5 y5)) fun _ s6 ⟨σ6, H6, I6, q6⟩ => ?_)
    refine wpAny_passesOwn hp (thn (hb _ s6 σ6 H6 _ I6 q6) fun f s7 q7 => ?_)
    have again : ∀ {σ7 : St} {H7 : Hp}, Inv X (pins ++ pinsAt fp s5.heap) σ7 H7 s7 → N σ7 H7 → ∃ m, m < n ∧ ∃ i σ' H', Inv X pins σ' H' s7 ∧ tn i s7.heap ∧ (∀ b ∈ fp, H' b = none) ∧ W i m σ' H' := fun {σ7 H7} I7 n7 => by
      obtain ⟨m', hm, w7⟩ := hN σ7 H7 n7
      refine ⟨m', hm, i + 1, σ7, H7, I7.unpinned, T.keep _ _ _ st5 fun b hb o e => (I7.pin (b, o) (List.mem_append_right _ (List.mem_append_right _ (mem_pinsAt hb e)))).1, fun b hb => ?_, w7⟩
      obtain ⟨o, e, d⟩ := T.obj _ _ st5 b hb
      exact (I7.pin (b, o) (List.mem_append_right _ (List.mem_append_right _ (mem_pinsAt hb e)))).2.1
    cases f with
    | next => obtain ⟨σ7, H7, I7, n7⟩ := q7; exact again I7 n7
    | cont => obtain ⟨σ7, H7, I7, n7⟩ := q7; exact again I7 n7
    | brk => obtain ⟨σ7, H7, I7, q7⟩ := q7; exact ⟨σ7, H7, I7.unpinned, q7⟩
    | ret v => obtain ⟨x7, σ7, H7, I7, r7, q7⟩ := q7; exact ⟨x7, σ7, H7, I7.unpinned, r7, q7⟩
end

/-! ### the forms one uses -/
/-- over a list that the body leaves as it is -/
theorem for_list {K : PySem.W.Frag} {a : Addr} {xs : List V} {g : TG} {tb : TS} {D : Ends} {σ : St} {H : Hp} (Pv : Nat → St → Hp → Prop) (h0 : Pv 0 σ H) (hl : ∀ i σ H, i ≤ xs.length → Pv i σ H → SqL K H a xs)
    (hs : ∀ i x σ H, xs[i]? = some x → Pv i σ H → g x σ H fun σ2 H2 => tb { D with nx := Pv (i + 1), ct := Pv (i + 1), bk := D.nx } σ2 H2) (hd : ∀ σ H, Pv xs.length σ H → D.nx σ H) :
    ∃ W : Nat → Nat → St → Hp → Prop, (∃ m, W 0 m σ H) ∧ ∀ i m σ H, W i m σ H →
      ((Itl K a).stop i H ∧ D.nx σ H) ∨ ((Itl K a).go i H ∧ ∃ N : St → Hp → Prop, (∀ σ' H', N σ' H' → ∃ m', m' < m ∧ W (i + 1) m' σ' H') ∧ ∀ x H', (Itl K a).yld i H x H' → g x σ H' fun σ2 H2 => tb { D with nx := N, ct := N, bk := D.nx } σ2 H2) := by
  refine ⟨fun i m σ H => m = xs.length - i ∧ i ≤ xs.length ∧ Pv i σ H, ⟨xs.length, by simp, Nat.zero_le _, h0⟩, ?_⟩
  rintro i m σ H ⟨rfl, hi, p⟩
  have q := hl i σ H hi p
  by_cases hlt : i < xs.length
  · refine .inr ⟨⟨xs, xs[i], q, by simp [hlt]⟩, Pv (i + 1), fun σ' H' p' => ⟨xs.length - (i + 1), by omega, rfl, hlt, p'⟩, fun x H' y => ?_⟩
    obtain ⟨e, y⟩ := y
    subst e
    exact hs i x σ _ (y xs q) p
  · have e : i = xs.length := by omega
    subst e
    exact .inl ⟨⟨xs, q, Nat.le_refl _⟩, hd σ H p⟩
end L2

namespace L2
open PySem PySem.Spec PyProof.Rows

abbrev R2 := V → V → Hp → VK → Prop
/-- a two-place operation on values: f is binaryOp op, inplaceOp op or compareOp op -/
def OpR (X : Cx) (f : Value → Value → Sem Value) (r : R2) : Prop :=
  ∀ (pins : List (Addr × Obj)) (s : Shared) (σ : St) (H : Hp) (x y : V) (v u : Value) (Q : VK), Inv X pins σ H s → RelV x v → RelV y u → r x y H Q →
    wpAny (model X.prog X.w) X.A (f v u) (EP X pins σ Q) X.xe s
/-- a one-place operation -/
def UnR (X : Cx) (f : Value → Sem Value) (r : V → Hp → VK → Prop) : Prop :=
  ∀ (pins : List (Addr × Obj)) (s : Shared) (σ : St) (H : Hp) (x : V) (v : Value) (Q : VK), Inv X pins σ H s → RelV x v → r x H Q →
    wpAny (model X.prog X.w) X.A (f v) (EP X pins σ Q) X.xe s
/-- a call of a value that is known (a builtin, a type) with values -/
def CallR (X : Cx) (f : Value) (r : List V → Hp → VK → Prop) : Prop :=
  ∀ (pins : List (Addr × Obj)) (s : Shared) (σ : St) (H : Hp) (xs : List V) (us : List Value) (Q : VK), Inv X pins σ H s → Vals xs us → r xs H Q →
    wpAny (model X.prog X.w) X.A (call f us) (EP X pins σ Q) X.xe s
/-- a value's truth -/
def TruR (X : Cx) (r : V → Hp → (Bool → Hp → Prop) → Prop) : Prop :=
  ∀ (pins : List (Addr × Obj)) (s : Shared) (σ : St) (H : Hp) (x : V) (v : Value) (Q : Bool → Hp → Prop), Inv X pins σ H s → RelV x v → r x H Q →
    wpAny (model X.prog X.w) X.A (truthy v) (TP X pins σ Q) X.xe s

def tOp (r : R2) (ta tb : TE) : TE := fun σ H Q => ta σ H fun x H1 => tb σ H1 fun y H2 => r x y H2 Q
def tUn (r : V → Hp → VK → Prop) (ta : TE) : TE := fun σ H Q => ta σ H fun x H1 => r x H1 Q
/-- ints in, under C, and a value out -/
def rI (C : Int → Int → Prop) (g : Int → Int → V) : R2 := fun x y H Q => ∃ i j, x = .int i ∧ y = .int j ∧ C i j ∧ Q (g i j) H
def rI0 (g : Int → Int → V) : R2 := fun x y H Q => ∃ i j, x = .int i ∧ y = .int j ∧ Q (g i j) H
def rU (g : Int → V) : V → Hp → VK → Prop := fun x H Q => ∃ i, x = .int i ∧ Q (g i) H

section
variable {X : Cx} {a b c : Expr} {ta tb tc : TE} {pos : Pos}

theorem binT (ha : PE X a ta) (hb : PE X b tb) {pins : List (Addr × Obj)} {s : Shared} {σ : St} {H : Hp} {R : V → V → Hp → Prop} (I : Inv X pins σ H s)
    (h : ta σ H fun x H1 => tb σ H1 fun y H2 => R x y H2) {Q : Value → Shared → Prop} {f : Value → Value → Sem Value}
    (hf : ∀ v u s2 x y H2, Inv X pins σ H2 s2 → RelV x v → RelV y u → R x y H2 → wpAny (model X.prog X.w) X.A (f v u) Q X.xe s2) :
    wpAny (model X.prog X.w) X.A (eval a X.env) (fun v s₁ => wpAny (model X.prog X.w) X.A (eval b X.env) (fun u s₂ => wpAny (model X.prog X.w) X.A (f v u) Q X.xe s₂) X.xe s₁) X.xe s := by
  refine thn (ha pins s σ H _ I h) fun v s1 ⟨x, H1, I1, r1, q1⟩ => ?_
  refine thn (hb pins s1 σ H1 _ I1 q1) fun u s2 ⟨y, H2, I2, r2, q2⟩ => ?_
  exact hf v u s2 x y H2 I2 r1 r2 q2

theorem pe_op {op : Operator} {r : R2} (ho : OpR X (binaryOp op) r) (ha : PE X a ta) (hb : PE X b tb) : PE X (.BinOp a op b pos) (tOp r ta tb) := by
  intro pins s σ H Q I h
  exact wpAny_BinOp (binT ha hb I h fun v u s2 x y H2 I2 rx ry q => ho pins s2 σ H2 x y v u Q I2 rx ry q)
theorem pe_un {op : UnaryOp} {r : V → Hp → VK → Prop} (ho : UnR X (unaryOp op) r) (ha : PE X a ta) : PE X (.UnaryOp op a pos) (tUn r ta) := by
  intro pins s σ H Q I h
  exact UnaryOp_ (thn (ha pins s σ H _ I h) fun v s1 ⟨x, H1, I1, r1, q1⟩ => ho pins s1 σ H1 x v Q I1 r1 q1)

/-! ### ints -/
theorem opI {f : Value → Value → Sem Value} {C : Int → Int → Prop} {g : Int → Int → Int}
    (rule : ∀ (i j : Int) (t u : Tok) (s : Shared) (Q : Value → Shared → Prop) (E : Value → Shared → Prop), C i j → Q (.int (g i j) s.toks) { s with toks := s.toks + 1 } → wpAny (model X.prog X.w) X.A (f (.int i t) (.int j u)) Q E s) :
    OpR X f (rI C fun i j => .int (g i j)) := by
  intro pins s σ H x y v u Q I rx ry h
  obtain ⟨i, j, rfl, rfl, hc, q⟩ := h
  obtain ⟨t, rfl⟩ := rx
  obtain ⟨t', rfl⟩ := ry
  exact rule i j t t' s _ _ hc ⟨.int (g i j), H, I.tok _, ⟨_, rfl⟩, q⟩
theorem opI0 {f : Value → Value → Sem Value} {g : Int → Int → Int}
    (rule : ∀ (i j : Int) (t u : Tok) (s : Shared) (Q : Value → Shared → Prop) (E : Value → Shared → Prop), Q (.int (g i j) s.toks) { s with toks := s.toks + 1 } → wpAny (model X.prog X.w) X.A (f (.int i t) (.int j u)) Q E s) :
    OpR X f (rI0 fun i j => .int (g i j)) := by
  intro pins s σ H x y v u Q I rx ry h
  obtain ⟨i, j, rfl, rfl, q⟩ := h
  obtain ⟨t, rfl⟩ := rx
  obtain ⟨t', rfl⟩ := ry
  exact rule i j t t' s _ _ ⟨.int (g i j), H, I.tok _, ⟨_, rfl⟩, q⟩
theorem opB0 {f : Value → Value → Sem Value} {g : Int → Int → Bool}
    (rule : ∀ (i j : Int) (t u : Tok) (s : Shared) (Q : Value → Shared → Prop) (E : Value → Shared → Prop), Q (.bool (g i j)) s → wpAny (model X.prog X.w) X.A (f (.int i t) (.int j u)) Q E s) :
    OpR X f (rI0 fun i j => .bl (g i j)) := by
  intro pins s σ H x y v u Q I rx ry h
  obtain ⟨i, j, rfl, rfl, q⟩ := h
  obtain ⟨t, rfl⟩ := rx
  obtain ⟨t', rfl⟩ := ry
  exact rule i j t t' s _ _ ⟨.bl (g i j), H, I, rfl, q⟩

theorem two_pow_nn (k : Nat) : (0 : Int) ≤ 2 ^ k := by
  rw [two_pow_cast]
  exact Int.natCast_nonneg _

theorem op_add : OpR X (binaryOp .Add) (rI0 fun i j => .int (i + j)) := opI0 fun _ _ _ _ _ _ _ q => add_int q
theorem op_sub : OpR X (binaryOp .Sub) (rI0 fun i j => .int (i - j)) := opI0 fun _ _ _ _ _ _ _ q => sub_int q
theorem op_shr : OpR X (binaryOp .RShift) (rI (fun _ j => 0 ≤ j) fun i j => .int (i / 2 ^ j.toNat)) := opI fun i j _ _ _ _ _ hc q =>
  rshift_int hc (by rw [Int.fdiv_eq_ediv_of_nonneg i (two_pow_nn _)]; exact q)
theorem op_and : OpR X (binaryOp .BitAnd) (rI0 fun i j => .int (Builtin.bitAnd i j)) := opI0 fun _ _ _ _ _ _ _ q => and_int q
theorem op_xor : OpR X (binaryOp .BitXor) (rI0 fun i j => .int (Builtin.bitXor i j)) := opI0 fun _ _ _ _ _ _ _ q => xor_int q

theorem unI {f : Value → Sem Value} {g : Int → Int}
    (rule : ∀ (i : Int) (t : Tok) (s : Shared) (Q : Value → Shared → Prop) (E : Value → Shared → Prop), Q (.int (g i) s.toks) { s with toks := s.toks + 1 } → wpAny (model X.prog X.w) X.A (f (.int i t)) Q E s) :
    UnR X f (rU fun i => .int (g i)) := by
  intro pins s σ H x v Q I rx h
  obtain ⟨i, rfl, q⟩ := h
  obtain ⟨t, rfl⟩ := rx
  exact rule i t s _ _ ⟨.int (g i), H, I.tok _, ⟨_, rfl⟩, q⟩
theorem un_neg : UnR X (unaryOp .USub) (rU fun i => .int (-i)) := unI fun _ _ _ _ _ q => neg_int q

/-! ### bools among ints: n += (a < b) -/
end

/-! ### comparisons -/
/-- the scalars that == tells apart as data does -/
def scal : V → V → Bool
  | .non, .non => true | .non, .int _ => true | .int _, .non => true | .non, .bl _ => true | .bl _, .non => true | .non, .str _ => true | .str _, .non => true
  | .int _, .int _ => true | .bl _, .bl _ => true | .str _, .str _ => true | .byt _, .byt _ => true
  | .int _, .str _ => true | .str _, .int _ => true | .bl _, .str _ => true | .str _, .bl _ => true
  | _, _ => false
def rEq : R2 := fun x y H Q => scal x y = true ∧ Q (.bl (decide (x = y))) H

theorem dec_int {i j : Int} : decide (V.int i = V.int j) = (i == j) := by
  rw [Bool.eq_iff_iff]
  simp
theorem dec_bl {i j : Bool} : decide (V.bl i = V.bl j) = (i == j) := by
  rw [Bool.eq_iff_iff]
  simp
theorem dec_str {i j : Str} : decide (V.str i = V.str j) = (i == j) := by
  rw [Bool.eq_iff_iff]
  simp
theorem dec_byt {i j : Array UInt8} : decide (V.byt i = V.byt j) = (i.toList == j.toList) := by
  rw [Bool.eq_iff_iff]
  cases i
  cases j
  simp

section
variable {X : Cx} {a b c : Expr} {ta tb tc : TE} {pos : Pos}
theorem fin_bl {pins : List (Addr × Obj)} {σ : St} {H : Hp} {s : Shared} {Q : VK} {k k' : Bool} (I : Inv X pins σ H s) (q : Q (.bl k) H) (e : k = k') : EP X pins σ Q (.bool k') s := by
  subst e
  exact ⟨.bl k, H, I, rfl, q⟩
theorem op_eq : OpR X (compareOp .Eq) rEq := by
  intro pins s σ H x y v u Q I rx ry h
  obtain ⟨hs, q⟩ := h
  cases x with
  | non =>
    cases rx
    cases y with
    | non => cases ry; exact PySem.EqNone.eq_none_none (fin_bl I q (by simp))
    | bl j => cases ry; exact PySem.EqNone.eq_none_bool (fin_bl I q (by simp))
    | int j => obtain ⟨t', rfl⟩ := ry; exact PySem.EqNone.eq_none_int (fin_bl I q (by simp))
    | str j => obtain ⟨t', rfl⟩ := ry; exact PySem.EqNone.eq_none_str (fin_bl I q (by simp))
    | _ => exact absurd (show false = true from hs) Bool.false_ne_true
  | bl i =>
    cases rx
    cases y with
    | non => cases ry; exact PySem.EqNone.eq_bool_none (fin_bl I q (by simp))
    | bl j => cases ry; exact eq_bool (fin_bl I q dec_bl)
    | str j => obtain ⟨t', rfl⟩ := ry; exact PySem.EqMixed.eq_bool_str (fin_bl I q (by simp))
    | _ => exact absurd (show false = true from hs) Bool.false_ne_true
  | int i =>
    obtain ⟨t, rfl⟩ := rx
    cases y with
    | non => cases ry; exact PySem.EqNone.eq_int_none (fin_bl I q (by simp))
    | int j => obtain ⟨t', rfl⟩ := ry; exact eq_int (fin_bl I q dec_int)
    | str j => obtain ⟨t', rfl⟩ := ry; exact PySem.EqMixed.eq_int_str (fin_bl I q (by simp))
    | _ => exact absurd (show false = true from hs) Bool.false_ne_true
  | str i =>
    obtain ⟨t, rfl⟩ := rx
    cases y with
    | non => cases ry; exact PySem.EqNone.eq_str_none (fin_bl I q (by simp))
    | bl j => cases ry; exact PySem.EqMixed.eq_str_bool (fin_bl I q (by simp))
    | int j => obtain ⟨t', rfl⟩ := ry; exact PySem.EqMixed.eq_str_int (fin_bl I q (by simp))
    | str j => obtain ⟨t', rfl⟩ := ry; exact eq_str (fin_bl I q dec_str)
    | _ => exact absurd (show false = true from hs) Bool.false_ne_true
  | byt i =>
    obtain ⟨t, rfl⟩ := rx
    cases y with
    | byt j => obtain ⟨t', rfl⟩ := ry; exact PySem.W.eq_bytes (fin_bl I q dec_byt)
    | _ => exact absurd (show false = true from hs) Bool.false_ne_true
  | _ => cases y <;> exact absurd (show false = true from hs) Bool.false_ne_true

theorem op_lt : OpR X (compareOp .Lt) (rI0 fun i j => .bl (decide (i < j))) := opB0 fun _ _ _ _ _ _ _ q => lt_int q
theorem op_gt : OpR X (compareOp .Gt) (rI0 fun i j => .bl (decide (j < i))) := opB0 fun _ _ _ _ _ _ _ q => gt_int q
theorem op_ge : OpR X (compareOp .GtE) (rI0 fun i j => .bl (decide (j ≤ i))) := opB0 fun _ _ _ _ _ _ _ q => ge_int q

theorem nomark (b : Expr) {op : CmpOp} (h : op ≠ .In := by decide) (h2 : op ≠ .NotIn := by decide) : behindInMarks op b = false := by
  have e1 : (op == CmpOp.In) = false := by cases op <;> first | rfl | exact absurd rfl h
  have e2 : (op == CmpOp.NotIn) = false := by cases op <;> first | rfl | exact absurd rfl h2
  cases b <;> simp [behindInMarks, e1, e2]
/-- a comparison as a value; hm: nomark b, or (for in, not in) by with_unfolding_all rfl -/
theorem pe_cmpR {op : CmpOp} {r : R2} (ho : OpR X (compareOp op) r) (ha : PE X a ta) (hb : PE X b tb) (hm : behindInMarks op b = false) : PE X (.Compare a [op] [b] pos) (tOp r ta tb) := by
  intro pins s σ H Q I h
  exact wpAny_Compare1 (binT ha hb I h fun v u s2 x y H2 I2 rx ry q => ho pins s2 σ H2 x y v u Q I2 rx ry q) hm
/-- a reading of a value as a test -/
def tTest (t : TE) : TT := fun σ H Q => t σ H fun x H' => ∃ k, x = .bl k ∧ Q k H'
theorem pt_cmpR {op : CmpOp} {r : R2} (ho : OpR X (compareOp op) r) (ha : PE X a ta) (hb : PE X b tb) (hm : behindInMarks op b = false) : PT X (.Compare a [op] [b] pos) (tTest (tOp r ta tb)) := by
  intro pins s σ H Q I h
  refine wpAny_isTrue_Compare1 (thn (ha pins s σ H _ I h) fun v s1 ⟨x, H1, I1, r1, q1⟩ => thn (hb pins s1 σ H1 _ I1 q1) fun u s2 ⟨y, H2, I2, r2, q2⟩ =>
    thn (ho pins s2 σ H2 x y v u _ I2 r1 r2 q2) fun c s3 ⟨z, H3, I3, r3, k, e, q3⟩ => ?_) hm
  subst e
  cases r3
  exact wpAny_truthy_bool ⟨H3, I3, q3⟩

/-! ### truth -/
/-- a value's truth by the abstract heap -/
def TruV (K : PySem.W.Frag) (x : V) (H : Hp) (k : Bool) : Prop :=
  match x with
  | .non => k = false
  | .bl b => k = b
  | .int i => k = (i != 0)
  | .str y => y.length ≤ sizeLine ∧ k = ((y.length : Int) != 0)
  | .byt y => y.size ≤ sizeLine ∧ k = ((y.size : Int) != 0)
  | .ref p => (∃ xs, SqL K H p xs ∧ k = !xs.isEmpty) ∨ (∃ xs, SqT K H p xs ∧ k = !xs.isEmpty) ∨ ∃ kvs, H p = some (.dK kvs) ∧ k = !kvs.isEmpty
  | _ => False
theorem isEmpty_kv {κ : Type} {kvs : List (κ × V)} {vs : List (κ × Value)} (r : KV kvs vs) : (!vs.isEmpty) = !kvs.isEmpty := by
  cases r <;> rfl
theorem isEmpty_of {xs : List V} {its : List Value} (r : Vals xs its) : (!its.toArray.isEmpty) = !xs.isEmpty := by
  cases r <;> simp
theorem line63 : (sizeLine : Nat) < 2 ^ 63 := by rw [sizeLine_eq]; decide
theorem tru_ok : TruR X (fun x H Q => ∃ k, TruV X.K x H k ∧ Q k H) := by
  intro pins s σ H x v Q I rx h
  obtain ⟨k, e, q⟩ := h
  have hl := line63
  have hs : sizeLine = 16777216 := sizeLine_eq
  cases x with
  | non =>
    cases rx
    have e' : k = false := e
    subst e'
    exact truthy_none ⟨H, I, q⟩
  | bl b =>
    cases rx
    have e' : k = b := e
    subst e'
    exact wpAny_truthy_bool ⟨H, I, q⟩
  | int i =>
    obtain ⟨t, rfl⟩ := rx
    have e' : k = (i != 0) := e
    subst e'
    exact PySem.P.truthy_int ⟨H, I, q⟩
  | str y =>
    obtain ⟨t, rfl⟩ := rx
    obtain ⟨hy, e'⟩ : y.length ≤ sizeLine ∧ k = ((y.length : Int) != 0) := e
    subst e'
    exact PySem.P.truthy_str (by omega) ⟨H, I.tok _, q⟩
  | byt y =>
    obtain ⟨t, rfl⟩ := rx
    obtain ⟨hy, e'⟩ : y.size ≤ sizeLine ∧ k = ((y.size : Int) != 0) := e
    subst e'
    exact PySem.W.truthy_bytes (by omega) ⟨H, I.tok _, q⟩
  | ref p =>
    cases rx
    have e' : (∃ xs, SqL X.K H p xs ∧ k = !xs.isEmpty) ∨ (∃ xs, SqT X.K H p xs ∧ k = !xs.isEmpty) ∨ ∃ kvs, H p = some (.dK kvs) ∧ k = !kvs.isEmpty := e
    rcases e' with ⟨xs, hx, e'⟩ | ⟨xs, hx, e'⟩ | ⟨kvs, hx, e'⟩
    · subst e'
      obtain ⟨its, r, pl, hz⟩ := I.list hx
      have hlen := r.length
      exact wpAny_truthy_list pl.isList (by simp only [List.size_toArray]; omega) ⟨H, I.tok _, by rw [isEmpty_of r]; exact q⟩
    · subst e'
      obtain ⟨its, r, pl, hz⟩ := I.tuple hx
      have hlen := r.length
      exact truthy_tuple pl (by simp only [List.size_toArray]; omega) ⟨H, I.tok _, by rw [isEmpty_of r]; exact q⟩
    · subst e'
      obtain ⟨hz, hS, vs, r, m⟩ : kvs.length ≤ sizeLine ∧ (p == sysModules) = false ∧ ∃ vs, KV kvs vs ∧ s.heap.DictOf (mixKind X.prog X.w) p vs := I.hok p _ hx
      have hlen : kvs.length = vs.length := Paired.length r
      exact wpAny_truthy_dict hS m (by omega) ⟨H, I.tok _, by rw [isEmpty_kv r]; exact q⟩
  | _ => exact (show False from e).elim
/-- any expression whose test is its value's truth (a name, a call, a subscript, a field ..: he by fun _ => rfl) -/
theorem pt_truth (ha : PE X a ta) (he : ∀ whole, isTrue a X.env whole = (do let v ← whole; standAt a.pos; holding [v] (truthy v))) :
    PT X a (fun σ H Q => ta σ H fun x H' => ∃ k, TruV X.K x H' k ∧ Q k H') := by
  intro pins s σ H Q I h
  exact isTrue_plain (thn (ha pins s σ H _ I h) fun v s1 ⟨x, H1, I1, r1, q1⟩ => tru_ok pins s1 σ H1 x v Q I1 r1 q1) (he _)

/-! ### strs and bytes -/

/-! ### scalar builtins, by CallR -/
theorem vals1 {x : V} {us : List Value} (r : Vals [x] us) : ∃ u, us = [u] ∧ RelV x u := by
  cases r with
  | cons r1 r2 => cases r2; exact ⟨_, rfl, r1⟩
end
end L2

namespace L2
open PySem PySem.Spec PyProof.Rows

/-! ### an instance, its attributes a map -/
structure ObjM (h : Heap) (x dx C : Addr) (mA : Str → Option Value) : Prop where
  obj : h.get? x = some (PySem.W.instObj C dx)
  ns : h.Ns1 dx mA
  ne : dx ≠ x

theorem lookIn_ns {h : Heap} {dx : Addr} {mA : Str → Option Value} (n : h.Ns1 dx mA) : ∃ od, h.get? dx = some od ∧ ∀ name, PySem.W.lookIn name od = some (mA name) := by
  obtain ⟨o, es, ep, ho, hd, hk, _, hm⟩ := n
  refine ⟨o, ho, fun name => ?_⟩
  have e := hm name
  unfold nsFind findBy at e
  rw [← Array.find?_toList] at e
  unfold PySem.W.lookIn
  rw [hd]
  dsimp only
  split
  · rename_i y q
    rw [q] at e
    exact congrArg some e
  · rename_i q
    rw [q] at e
    have a : es.toList.any (·.refKey) = false := by
      rw [List.any_eq_false]
      intro y hy
      obtain ⟨z, t, hkey⟩ := hk y (Array.mem_toList_iff.mp hy)
      simp [DictEntry.refKey, hkey]
    have a' : ¬ es.toList.any (·.refKey) = true := by rw [a]; exact Bool.false_ne_true
    rw [if_neg a']
    exact congrArg some e

theorem ObjM.look {h : Heap} {x dx C : Addr} {mA : Str → Option Value} (I : ObjM h x dx C mA) : ∃ od, PySem.W.InstAt h x (PySem.W.instObj C dx) C (some od) ∧ ∀ name, PySem.W.lookIn name od = some (mA name) :=
  let ⟨od, ho, hl⟩ := lookIn_ns I.ns
  ⟨od, ⟨I.obj, rfl, rfl, ho⟩, hl⟩

section
variable {prog : Program} {w : World} {A : Around} {E : Value → Shared → Prop} {s : Shared} {K : PySem.W.Frag} {x dx C f : Addr} {mA : Str → Option Value} {name : Str} {v : Value}

theorem get_map {expr : Bool} {Q : Value → Shared → Prop} (X : K.In s.heap) (I : ObjM s.heap x dx C mA) (hg : PySem.W.plainGet K C name = true) (hh : PySem.W.hasDictIn K C = true)
    (ha : PySem.W.findIn K (.ref C) name = some none) (hv : mA name = some v) (hv' : PySem.W.handedIn v = true) (h : Q v { s with toks := s.toks + 1 }) :
    wpAny (model prog w) A (getAttr (.ref x) name expr) Q E s := by
  obtain ⟨od, J, hl⟩ := I.look
  exact PySem.W.get_value X J (PySem.W.plainGet_of hg).1 (PySem.W.findObj_own hh ha rfl (by rw [hl, hv])) hv' h

theorem get_meth {pl : Sem Bool} {Q : Value × List Value → Shared → Prop} (X : K.In s.heap) (I : ObjM s.heap x dx C mA) (hg : PySem.W.plainGet K C name = true)
    (hf : PySem.W.findIn K (.ref C) name = some (some (.ref f))) (ht : PySem.W.isFn K (.ref f) = true) (hv : mA name = none) (h : Q (.ref f, [.ref x]) s) :
    wpAny (model prog w) A (getMethod (.ref x) name pl) Q E s := by
  obtain ⟨od, J, hl⟩ := I.look
  exact PySem.W.method_fn X J (PySem.W.plainGet_of hg).1 (PySem.W.plainGet_of hg).2 hf (beq_iff_eq.mp ht) (by show (PySem.W.lookIn name od).map (·.isSome) = some false; rw [hl, hv]; rfl) h

theorem set_map {ns : List Str} {Q : Unit → Shared → Prop} (X : K.In s.heap) (I : ObjM s.heap x dx C mA)
    (hs : PySem.W.findIn K (.ref C) "__setattr__" = some (some (.builtin "object.__setattr__"))) (hp : PySem.W.plainOver K C = true) (ht : PySem.W.takerIn K C name = some none) (hh : PySem.W.hasDictIn K C = true)
    (hw : PySem.Within mA ns) (hsz : ns.length ≤ sizeLine)
    (h : ∀ h', ObjM h' x dx C (fun y => if y = name then some v else mA y) → Heap.SameBut dx s.heap h' → Q () { s with heap := h', toks := s.toks + 2 }) :
    wpAny (model prog w) A (setAttr (.ref x) name v) Q E s := by
  obtain ⟨od, J, hl⟩ := I.look
  refine PySem.W.set_plain X J hs (PySem.W.osa_open (s := { s with toks := s.toks + 1 }) (r := none) X J hp ht fun b => ?_)
  obtain ⟨cd, hc, hd'⟩ := PySem.W.any_some hh
  have hx : s.heap.get? x = some ⟨.ref C, some dx, .plain, #[]⟩ := I.obj
  refine wpAny_bind (wpAny_pure (wpAny_bind (wpAny_bind (wpAny_loadPart hx (wpAny_bind (PySem.W.Looks.here (s := { s with toks := s.toks + 1 }) (PySem.W.looks_clsIn X hc) ?_))))))
  rw [hd']
  refine wpAny_pure (a := some dx) (wpAny_bind (wpAny_pure (wpAny_bind ?_)))
  refine wpAny_nsSet1 (s := { s with toks := s.toks + 1 }) I.ns fun h' hn2 hs2 => ?_
  obtain ⟨oD, esD, epD, hoD, hdD, hcD⟩ := hn2.count (PySem.Within.cons name v hw)
  refine wpAny_bind (wpAny_lookBehind hoD (by rw [hdD]; exact pastItsLine_dict (Nat.le_trans hcD (by rw [List.length_cons]; omega))) ?_)
  exact wpAny_pure (h _ ⟨(hs2.2 _ (Ne.symm I.ne)).trans I.obj, hn2, I.ne⟩ hs2)

/-- C(..): the dict at the heap's end, the instance behind it; then its __init__ -/
theorem make_map {R : Result → Shared → Prop} {vs : List Value} {kw : List (Str × Value)} (X : K.In s.heap) (hm : PySem.W.makesIn K C = true)
    (hi : PySem.W.findIn K (.ref C) "__init__" = some (some (.ref f))) (hf : PySem.W.typeIn K (.ref f) = some (.type "function"))
    (h : codeAny (model prog w) (A.under (.builtin "type.__call__" ⟨.ref C :: vs, kw⟩)) (.call (.ref f) ⟨.ref (s.heap.objs.size + 1) :: vs, kw⟩) (PySem.W.InitBack (s.heap.objs.size + 1) R)
      { s with heap := (s.heap.push PySem.W.emptyDict).push (PySem.W.instObj C s.heap.objs.size) }) :
    codeAny (model prog w) A (.call (.ref C) ⟨vs, kw⟩) R s := by
  obtain ⟨hh, g, d, t, os⟩ := s
  exact PySem.W.make_core (PySem.W.makes_of X hm) (PySem.W.looks_findIn X hi) (fun self => PySem.W.bind_fn X self hf) (.inl rfl) h
end

/-! ### the attributes as a list of pairs -/
def putF (f : Str) (v : V) : List (Str × V) → List (Str × V)
  | [] => [(f, v)]
  | (g, x) :: r => if g = f then (g, v) :: r else (g, x) :: putF f v r
theorem lookup_putF (f g : Str) (v : V) : ∀ fs : List (Str × V), (putF f v fs).lookup g = if g = f then some v else fs.lookup g
  | [] => by
    show List.lookup g [(f, v)] = _
    by_cases h : g = f
    · have hb : (g == f) = true := beq_iff_eq.mpr h
      simp only [List.lookup, hb, if_pos h]
    · have hb : (g == f) = false := beq_eq_false_iff_ne.mpr h
      simp only [List.lookup, hb, if_neg h]
  | (k, x) :: r => by
    have ih := lookup_putF f g v r
    rw [show putF f v ((k, x) :: r) = (if k = f then (k, v) :: r else (k, x) :: putF f v r) from rfl]
    by_cases hk : k = f
    · rw [if_pos hk]
      by_cases h : g = k
      · have hb : (g == k) = true := beq_iff_eq.mpr h
        simp only [List.lookup, hb, if_pos (h.trans hk)]
      · have hb : (g == k) = false := beq_eq_false_iff_ne.mpr h
        simp only [List.lookup, hb, if_neg (fun e : g = f => h (e.trans hk.symm))]
    · rw [if_neg hk]
      by_cases h : g = k
      · have hb : (g == k) = true := beq_iff_eq.mpr h
        simp only [List.lookup, hb, if_neg (fun e : g = f => hk (h.symm.trans e))]
      · have hb : (g == k) = false := beq_eq_false_iff_ne.mpr h
        simp only [List.lookup, hb]
        exact ih
theorem keys_putF (f : Str) (v : V) : ∀ fs : List (Str × V), f ∈ (putF f v fs).map (·.1) ∧ ∀ g, g ∈ fs.map (·.1) → g ∈ (putF f v fs).map (·.1)
  | [] => ⟨by simp [putF], fun g h => by simp at h⟩
  | (k, x) :: r => by
    obtain ⟨i1, i2⟩ := keys_putF f v r
    rw [show putF f v ((k, x) :: r) = (if k = f then (k, v) :: r else (k, x) :: putF f v r) from rfl]
    by_cases hk : k = f
    · rw [if_pos hk]
      subst hk
      exact ⟨by simp, fun g h => by simpa using h⟩
    · rw [if_neg hk]
      refine ⟨?_, fun g h => ?_⟩
      · rw [List.map_cons]
        exact List.mem_cons_of_mem _ i1
      · rw [List.map_cons] at h ⊢
        rcases List.mem_cons.mp h with e | e
        · exact List.mem_cons.mpr (.inl e)
        · exact List.mem_cons_of_mem _ (i2 g e)
theorem length_putF (f : Str) (v : V) : ∀ fs : List (Str × V), (putF f v fs).length ≤ fs.length + 1
  | [] => by simp [putF]
  | (k, x) :: r => by
    have ih := length_putF f v r
    rw [show putF f v ((k, x) :: r) = (if k = f then (k, v) :: r else (k, x) :: putF f v r) from rfl]
    by_cases hk : k = f
    · rw [if_pos hk, List.length_cons, List.length_cons]; omega
    · rw [if_neg hk, List.length_cons, List.length_cons]; omega

theorem RelO.some_of {v : V} {o : Option Value} (r : RelO (some v) o) : ∃ u, o = some u ∧ RelV v u := by
  cases o with
  | none => exact (show False from r).elim
  | some u => exact ⟨u, rfl, r⟩
theorem RelO.none_of {o : Option Value} (r : RelO none o) : o = none := by
  cases o with
  | none => rfl
  | some u => exact (show False from r).elim
theorem handed_of {v : V} {u : Value} (r : RelV v u) : PySem.W.handedIn u = true := by
  cases v with
  | non => cases (show u = Value.none from r); rfl
  | bl b => cases (show u = Value.bool b from r); rfl
  | int i => obtain ⟨t, e⟩ := (show ∃ t, u = Value.int i t from r); cases e; rfl
  | str x => obtain ⟨t, e⟩ := (show ∃ t, u = Value.str x t from r); cases e; rfl
  | byt b => obtain ⟨t, e⟩ := (show ∃ t, u = Value.bytes b t from r); cases e; rfl
  | flt b => obtain ⟨t, e⟩ := (show ∃ t, u = Value.float b t from r); cases e; rfl
  | ref a => cases (show u = Value.ref a from r); rfl
  | ty n => cases (show u = Value.type n from r); rfl

section
variable {P : Program} {w : World} {H H' : Hp} {h h' : Heap} {a C dx : Addr} {fs fs' : List (Str × V)}
theorem ins_get (hok : HOk P w H h) (e : H a = some (.ins C dx fs)) : ∃ mA, ObjM h a dx C mA ∧ (∀ f, RelO (fs.lookup f) (mA f)) ∧ PySem.Within mA (fs.map (·.1)) ∧ fs.length ≤ 1000 ∧ H dx = some (.own a) := by
  obtain ⟨d, z, ne, ob, mA, n, r, q⟩ := (show ObjOk P w H h a (.ins C dx fs) from hok a _ e)
  exact ⟨mA, ⟨ob, n, ne⟩, r, q, z, d⟩
end

/-! ### what of the text a class must have -/
structure Cls (K : PySem.W.Frag) (C : Addr) : Prop where
  pg : PySem.W.plainGet K C Str.empty = true
  hd : PySem.W.hasDictIn K C = true
  po : PySem.W.plainOver K C = true
  sa : PySem.W.findIn K (.ref C) "__setattr__" = some (some (.builtin "object.__setattr__"))
theorem Cls.get {K : PySem.W.Frag} {C : Addr} (c : Cls K C) (f : Str) : PySem.W.plainGet K C f = true := c.pg
/-- no class of it has the name -/
def NoAttr (K : PySem.W.Frag) (C : Addr) (f : Str) : Prop := PySem.W.findIn K (.ref C) f = some none
theorem NoAttr.taker {K : PySem.W.Frag} {C : Addr} {f : Str} (n : NoAttr K C f) : PySem.W.takerIn K C f = some none := by
  unfold PySem.W.takerIn
  rw [show PySem.W.findIn K (.ref C) f = some none from n]
  rfl
/-- a method: a plain def of the class or of one above it -/
structure Meth (K : PySem.W.Frag) (C : Addr) (m : Str) (f : Addr) : Prop where
  at_ : PySem.W.findIn K (.ref C) m = some (some (.ref f))
  fn : PySem.W.isFn K (.ref f) = true
  kp : PySem.W.keepIn K (.ref f) = true

section
variable {X : Cx} {pins : List (Addr × Obj)} {σ : St} {H : Hp} {s : Shared} {a C dx : Addr} {fs : List (Str × V)} {f : Str} {v : V} {A : Around} {E : Value → Shared → Prop}

theorem getattr_ok {b : Bool} {Q : Value → Shared → Prop} (I : Inv X pins σ H s) (e : H a = some (.ins C dx fs)) (c : Cls X.K C) (n : NoAttr X.K C f) (l : fs.lookup f = some v)
    (h : ∀ u s', Inv X pins σ H s' → RelV v u → Q u s') : wpAny (model X.prog X.w) A (getAttr (.ref a) f b) Q E s := by
  obtain ⟨mA, O, r, _, _, _⟩ := ins_get I.hok e
  obtain ⟨u, hu, ru⟩ := RelO.some_of (v := v) (o := mA f) (by rw [← l]; exact r f)
  exact get_map I.kIn O (c.get f) c.hd n hu (handed_of ru) (h u _ (I.tok _) ru)

theorem getmeth_ok {m : Str} {g : Addr} {pl : Sem Bool} {Q : Value × List Value → Shared → Prop} (I : Inv X pins σ H s) (e : H a = some (.ins C dx fs)) (c : Cls X.K C) (k : Meth X.K C m g) (l : fs.lookup m = none)
    (h : Q (.ref g, [.ref a]) s) : wpAny (model X.prog X.w) A (getMethod (.ref a) m pl) Q E s := by
  obtain ⟨mA, O, r, _, _, _⟩ := ins_get I.hok e
  have hn : mA m = none := RelO.none_of (by rw [← l]; exact r m)
  exact get_meth I.kIn O (c.get m) k.at_ k.fn hn h

theorem setattr_ok {y : V} {u : Value} {Q : Unit → Shared → Prop} (I : Inv X pins σ H s) (e : H a = some (.ins C dx fs)) (c : Cls X.K C) (n : NoAttr X.K C f) (hl : fs.length < 1000) (ry : RelV y u)
    (h : ∀ s', Inv X pins σ (upd H a (.ins C dx (putF f y fs))) s' → Q () s') : wpAny (model X.prog X.w) A (setAttr (.ref a) f u) Q E s := by
  obtain ⟨mA, O, r, wi, _, ho⟩ := ins_get I.hok e
  have hz : (fs.map (·.1)).length ≤ sizeLine := by rw [List.length_map, sizeLine_eq]; omega
  refine set_map I.kIn O c.sa c.po n.taker c.hd wi hz fun h' O' sb => h _ ?_
  have hd : ∃ o, h'.get? dx = some o := let ⟨o, _, _, e', _⟩ := O'.ns; ⟨o, e'⟩
  refine I.write (x := a) (e := dx) (by rw [e]; exact True.intro) (.inr ho) (fun b q hb z => (sb.2 b hb).trans z) hd ?_
  refine ⟨by rw [upd_ne O.ne]; exact ho, ?_, O.ne, O'.obj, _, O'.ns, fun g => ?_, fun g hg => ?_⟩
  · have := length_putF f y fs; omega
  · show RelO ((putF f y fs).lookup g) (if g = f then some u else mA g)
    rw [lookup_putF]
    by_cases q : g = f
    · rw [if_pos q, if_pos q]; exact ry
    · rw [if_neg q, if_neg q]; exact r g
  · by_cases q : g = f
    · rw [q]; exact (keys_putF f y fs).1
    · refine (keys_putF f y fs).2 g (wi g fun z => hg ?_)
      show (if g = f then some u else mA g) = none
      rw [if_neg q]; exact z

/-- a new instance, tracked, without attributes -/
theorem Inv.made (I : Inv X pins σ H s) : Inv X pins σ (upd (upd H s.heap.objs.size (.own (s.heap.objs.size + 1))) (s.heap.objs.size + 1) (.ins C s.heap.objs.size []))
    { s with heap := (s.heap.push PySem.W.emptyDict).push (PySem.W.instObj C s.heap.objs.size) } := by
  have e1 : (s.heap.push PySem.W.emptyDict).get? s.heap.objs.size = some PySem.W.emptyDict := Heap.get?_push_size s.heap rfl
  have e2 : ((s.heap.push PySem.W.emptyDict).push (PySem.W.instObj C s.heap.objs.size)).get? (s.heap.objs.size + 1) = some (PySem.W.instObj C s.heap.objs.size) := by
    have := Heap.get?_push_size (s.heap.push PySem.W.emptyDict) (o := PySem.W.instObj C s.heap.objs.size) rfl
    rwa [Heap.size_push] at this
  have e3 : (s.heap.push PySem.W.emptyDict).Ns s.heap.objs.size (fun _ => none) := ⟨PySem.W.emptyDict, #[], _, e1, rfl, (fun e he => absurd he (by simp)), fun _ => rfl⟩
  have I1 := I.laid (a := s.heap.objs.size) (o := .own (s.heap.objs.size + 1)) (h' := s.heap.push PySem.W.emptyDict) (t' := s.toks) (fun b u q => Heap.get?_push_of_some _ q) (Nat.le_refl _) ⟨_, e1⟩
  refine I1.laid (a := s.heap.objs.size + 1) (o := .ins C s.heap.objs.size []) (t' := s.toks) (fun b u q => Heap.get?_push_of_some _ q) (Nat.le_of_eq (Heap.size_push _ _)) ?_
  have ne : s.heap.objs.size ≠ s.heap.objs.size + 1 := Nat.ne_of_lt (Nat.lt_succ_self _)
  refine ⟨by rw [upd_ne ne, upd_same], Nat.zero_le _, ne, e2, fun _ => none, (Heap.Ns1.of_empty e3).at fun o q => Heap.get?_push_of_some _ q, fun _ => True.intro, fun y hy => absurd rfl hy⟩

/-- e.f where nothing but the object is asked: through attributeBase (super) and the last hold -/
theorem attr_of {prog : Program} {w : World} {env : Env} {e : Expr} {f : Str} {pos : Pos} {s : Shared} {Q : Value → Shared → Prop} (hb : attributeBase e f env (eval e env) = eval e env)
    (h : wpAny (model prog w) A (eval e env) (fun o s₁ => wpAny (model prog w) A (getAttr o f true) Q E s₁) E s) : wpAny (model prog w) A (eval (.Attribute e f pos) env) Q E s :=
  Attribute_any_ h (by rw [arm_eval_Attribute, hb])
end

/-! ### readings and rules -/
/-- e.f, an attribute of the instance -/
def tFld (K : PySem.W.Frag) (ta : TE) (f : Str) : TE := fun σ H Q => ta σ H fun x H1 => ∃ a C dx fs v, x = .ref a ∧ H1 a = some (.ins C dx fs) ∧ Cls K C ∧ NoAttr K C f ∧ fs.lookup f = some v ∧ Q v H1
/-- e.f = value -/
def sFld (K : PySem.W.Frag) (ta tv : TE) (f : Str) : TS := fun D σ H => tv σ H fun y H1 => ta σ H1 fun x H2 => ∃ a C dx fs, x = .ref a ∧ H2 a = some (.ins C dx fs) ∧ Cls K C ∧ NoAttr K C f ∧ fs.length < 1000 ∧
  D.nx σ (upd H2 a (.ins C dx (putF f y fs)))
/-- an augmented operator on two values -/
def InOp (X : Cx) (op : Operator) (rd : V → V → Hp → VK → Prop) : Prop :=
  ∀ (pins : List (Addr × Obj)) (s : Shared) (σ : St) (H : Hp) (x y : V) (u v : Value) (Q : VK), Inv X pins σ H s → RelV x u → RelV y v → rd x y H Q → wpAny (model X.prog X.w) X.A (inplaceOp op u v) (EP X pins σ Q) X.xe s
/-- e.f op= value -/
def sFldAug (K : PySem.W.Frag) (ta tv : TE) (rd : V → V → Hp → VK → Prop) (f : Str) : TS := fun D σ H => ta σ H fun x H1 => ∃ a C dx fs v, x = .ref a ∧ H1 a = some (.ins C dx fs) ∧ Cls K C ∧ NoAttr K C f ∧ fs.lookup f = some v ∧
  tv σ H1 fun y H2 => rd v y H2 fun z H3 => ∃ dx' fs', H3 a = some (.ins C dx' fs') ∧ fs'.length < 1000 ∧ D.nx σ (upd H3 a (.ins C dx' (putF f z fs')))

section
variable {X : Cx} {o e value : Expr} {f : Str} {pos pos' tpos : Pos} {ta tv : TE}
theorem pe_fld (he : PE X e ta) (hb : attributeBase e f X.env (eval e X.env) = eval e X.env) : PE X (.Attribute e f pos) (tFld X.K ta f) := by
  intro pins s σ H Q I h
  refine attr_of hb (thn (he pins s σ H _ I h) fun u s1 ⟨x, H1, I1, rx, a, C, dx, fs, v, ex, ea, c, n, l, q⟩ => ?_)
  subst ex
  obtain rfl : u = Value.ref a := rx
  exact getattr_ok I1 ea c n l fun u' s2 I2 ru => ⟨v, H1, I2, ru, q⟩
theorem ps_fld (ha : PE X o ta) (hv : PE X value tv) (hs : swapsWith value (some (.Attribute o f pos')) pos.line X.env = pure false) : PS X (.Assign [.Attribute o f pos'] value pos) (sFld X.K ta tv f) := by
  intro pins s σ H D I h
  refine plainObj_wpAny_Assign_Attribute (thn (hv pins s σ H _ I h) fun u s1 ⟨y, H1, I1, ry, q⟩ => thn (ha pins s1 σ H1 _ I1 q) fun ov s2 ⟨x, H2, I2, rx, a, C, dx, fs, ex, ea, c, n, l, q2⟩ => ?_) hs
  subst ex
  obtain rfl : ov = Value.ref a := rx
  exact setattr_ok I2 ea c n l ry fun s3 I3 => ⟨σ, _, I3, q2⟩
theorem ps_fldaug {op : Operator} {rd : V → V → Hp → VK → Prop} (ha : PE X o ta) (hv : PE X value tv) (hop : InOp X op rd) : PS X (.AugAssign (.Attribute o f tpos) op value pos) (sFldAug X.K ta tv rd f) := by
  intro pins s σ H D I h
  refine wpAny_AugAssign_AttributeAny (thn (ha pins s σ H _ I h) fun ov s1 ⟨x, H1, I1, rx, a, C, dx, fs, v, ex, ea, c, n, l, q⟩ => ?_)
  subst ex
  obtain rfl : ov = Value.ref a := rx
  refine getattr_ok I1 ea c n l fun u s2 I2 ru => thn (hv pins s2 σ H1 _ I2 q) fun w3 s3 ⟨y, H2, I3, ry, q3⟩ => thn (hop pins s3 σ H2 v y u w3 _ I3 ru ry q3) fun w4 s4 ⟨z, H3, I4, rz, dx', fs', ea', l', q4⟩ => ?_
  exact setattr_ok I4 ea' c n l' rz fun s5 I5 => ⟨σ, _, I5, q4⟩
def rAdd : V → V → Hp → VK → Prop := fun x y H Q => ∃ i j, x = .int i ∧ y = .int j ∧ Q (.int (i + j)) H
theorem in_add : InOp X .Add rAdd := by
  rintro pins s σ H x y u v Q I rx ry ⟨i, j, rfl, rfl, q⟩
  obtain ⟨t, rfl⟩ := (show ∃ t, u = Value.int i t from rx)
  obtain ⟨t', rfl⟩ := (show ∃ t', v = Value.int j t' from ry)
  exact PyProof.Rows.iadd_int ⟨.int (i + j), H, I.tok _, ⟨_, rfl⟩, q⟩

end

/-! ### isinstance -/
end L2

namespace L2
open PySem PySem.Spec PyProof.Rows

/-! ### room -/
structure Room (k : Nat) (A : Around) : Prop where
  hd : A.handled = none
  dp : A.depth + 3 * k + 5 < recursionLimit
  un : A.units + 16 * k + 200 < cLine
theorem Room.mono {j k : Nat} {A : Around} (r : Room k A) (h : j ≤ k) : Room j A := ⟨r.hd, by have := r.dp; omega, by have := r.un; omega⟩
theorem Room.deeper {k : Nat} {A : Around} (r : Room (k + 1) A) (env : Env) : Room k (A.deeper env) :=
  ⟨r.hd, by have := r.dp; show A.depth + 1 + 3 * k + 5 < _; omega, by have := r.un; show A.units + 3 + 16 * k + 200 < _; omega⟩
theorem make_depth {A : Around} {C : Addr} {us : List Value} {kw : List (Str × Value)} : (A.under (.builtin "type.__call__" ⟨.ref C :: us, kw⟩)).depth = A.depth + 1 := by
  first | rfl | simp [Around.under, Code.weight, Code.isCreation, Code.isGuard, Code.isCaller, Code.frames, Code.isFrame, guardIds]
theorem make_units {A : Around} {C : Addr} {us : List Value} {kw : List (Str × Value)} : (A.under (.builtin "type.__call__" ⟨.ref C :: us, kw⟩)).units = A.units + 1 := by
  first | rfl | simp [Around.under, Code.cUnits, Code.frames, Code.isFrame]
theorem Room.make {k : Nat} {A : Around} (r : Room (k + 1) A) (C : Addr) (us : List Value) (kw : List (Str × Value)) : Room k (A.under (.builtin "type.__call__" ⟨.ref C :: us, kw⟩)) :=
  ⟨r.hd, by have := r.dp; rw [make_depth]; omega, by have := r.un; rw [make_units]; omega⟩
theorem Room.depth {k : Nat} {A : Around} (r : Room k A) : A.depth < recursionLimit := by have := r.dp; omega

/-! ### argument lists and displays -/
def tNil : TA := fun _ H Q => Q [] H
def tCons (ta : TE) (tr : TA) : TA := fun σ H Q => ta σ H fun x H1 => tr σ H1 fun xs H2 => Q (x :: xs) H2
section
variable {X : Cx} {e : Expr} {es : List Expr} {te : TE} {t : TA} {pos : Pos}
theorem pa_nil : PA X [] tNil := fun _ _ _ _ H Q I h => Calls.spliced_nil ⟨[], H, I, .nil, h⟩
theorem pa_cons (ha : PE X e te) (hr : PA X es t) (hs : starEach (e :: es) X.env = (false, eval e X.env) :: starEach es X.env := by rfl) : PA X (e :: es) (tCons te t) := by
  intro pos pins s σ H Q I h
  rw [hs]
  show wpAny _ _ (spliced ((false, eval e X.env) :: backTo pos (starEach es X.env))) _ _ s
  refine Calls.spliced_cons (thn (ha pins s σ H _ I h) fun u s1 ⟨x, H1, I1, r1, q1⟩ => ?_)
  exact thn (hr pos pins s1 σ H1 _ I1 q1) fun us s2 ⟨xs, H2, I2, r2, q2⟩ => ⟨x :: xs, H2, I2, .cons r1 r2, q2⟩

/-- a tuple, a list of written items -/
def tTup (t : TA) : TE := fun σ H Q => t σ H fun xs H1 => xs.length ≤ sizeLine ∧ ∀ p, H1 p = none → Q (.ref p) (upd H1 p (.tup xs))
def tLst (t : TA) : TE := fun σ H Q => t σ H fun xs H1 => xs.length ≤ sizeLine ∧ ∀ p, H1 p = none → Q (.ref p) (upd H1 p (.lst xs))
theorem pe_tup {x1} (h : PA X es t) : PE X (.Tuple es x1 pos) (tTup t) := by
  intro pins s σ H Q I hq
  refine wpAny_Tuple_spliced (thn (h pos pins s σ H _ I hq) fun us s1 ⟨xs, H1, I1, r, z, q⟩ => ⟨by rw [← r.length]; exact z, ?_⟩)
  have hf : H1 s1.heap.objs.size = none := I1.hok.fresh (Nat.le_refl _)
  refine ⟨.ref s1.heap.objs.size, upd H1 s1.heap.objs.size (.tup xs), I1.laid (t' := s1.toks) (fun b u e => Heap.get?_push_of_some _ e) (Nat.le_refl _) ?_, rfl, q _ hf⟩
  exact ⟨z, us, r, ⟨_, Heap.get?_push_size _ rfl, rfl, _, rfl⟩⟩
theorem pe_lst (h : PA X es t) : PE X (.List es pos) (tLst t) := by
  intro pins s σ H Q I hq
  refine wpAny_List_spliced (thn (h pos pins s σ H _ I hq) fun us s1 ⟨xs, H1, I1, r, z, q⟩ => ⟨by rw [← r.length]; exact z, ?_⟩)
  have hf : H1 s1.heap.objs.size = none := I1.hok.fresh (Nat.le_refl _)
  refine ⟨.ref s1.heap.objs.size, upd H1 s1.heap.objs.size (.lst xs), I1.laid (t' := s1.toks) (fun b u e => Heap.get?_push_of_some _ e) (Nat.le_refl _) ?_, rfl, q _ hf⟩
  exact ⟨z, us, 0, r, Heap.get?_push_size _ rfl⟩
end

/-! ### what a def promises -/
/-- a def's promise: the bound arguments in the parameters' order, the heap, the wanted end, the wanted exception -/
abbrev Sp := List V → Hp → VK → XK → Prop
/-- how an exception lies behind a call (file 08 gives it): the callers' frames, abstract heap and state ahead of the call, the wish, the exception, the state -/
abbrev CXT := List Env → Hp → Shared → XK → Value → Shared → Prop

/-- the state at a call -/
structure Env0 (P : Program) (w : World) (K : PySem.W.Frag) (mg : Str → Option Value) (base : Heap) (A : Around) (outer : List Env) (s : Shared) (H : Hp) : Prop where
  frames : A.frames = some outer
  mod : Mod K mg base
  bs : ∀ b o, base.get? b = some o → s.heap.get? b = some o ∧ H b = none
  bsz : base.objs.size ≤ s.heap.objs.size
  funs : s.heap.FunFrames base outer
  frf : ∀ b ∈ frs outer, H b = none
  hok : HOk P w H s.heap
  bare : AllBare s.gens
/-- a call's end -/
def CE (outer : List Env) (P : Program) (w : World) (H : Hp) (s : Shared) (Q : VK) (u : Value) (s' : Shared) : Prop :=
  ∃ v H', s'.os = s.os ∧ AllBare s'.gens ∧ Un (frs outer) [] H H' s.heap s'.heap ∧ HOk P w H' s'.heap ∧ RelV v u ∧ Q v H'
def CR (CX : CXT) (outer : List Env) (P : Program) (w : World) (H : Hp) (s : Shared) (Q : VK) (E : XK) (r : Result) (s' : Shared) : Prop :=
  match r with
  | .ok (.ret u) => CE outer P w H s Q u s'
  | .ok _ => False
  | .error e => CX outer H s E e s'
structure FnOk (P : Program) (w : World) (K : PySem.W.Frag) (mg : Str → Option Value) (base : Heap) (CX : CXT) (k : Nat) (f : Addr) (fd : FuncData) (ps : List Str) (sp : Sp) : Prop where
  len : ∀ vs H Q E, sp vs H Q E → vs.length = ps.length
  run : ∀ (A : Around) (outer : List Env) (s : Shared) (H : Hp) (args : Args) (us : List Value) (vs : List V) (Q : VK) (E : XK), Room k A → Env0 P w K mg base A outer s H → BindsTo s fd args (ps.zip us) → Vals vs us → sp vs H Q E →
    codeAny (model P w) A (.call (.ref f) args) (CR CX outer P w H s Q E) s

theorem Env0.make {P : Program} {w : World} {K : PySem.W.Frag} {mg : Str → Option Value} {base : Heap} {A : Around} {outer : List Env} {s : Shared} {H : Hp} (e : Env0 P w K mg base A outer s H) (C : Addr) (us : List Value) (kw : List (Str × Value)) :
    Env0 P w K mg base (A.under (.builtin "type.__call__" ⟨.ref C :: us, kw⟩)) outer s H := ⟨by first | exact e.frames | (simpa [Around.under, Code.envs, Code.isFrame, pushEnvs] using e.frames), e.mod, e.bs, e.bsz, e.funs, e.frf, e.hok, e.bare⟩

section
variable {X : Cx} {pins : List (Addr × Obj)} {σ : St} {H : Hp} {s s' : Shared}
/-- from a body: what a callee wants -/
theorem Inv.env0 (I : Inv X pins σ H s) : Env0 X.prog X.w X.K X.mg X.base X.A X.stack s H :=
  ⟨I.ok.frames, I.ok.mod, I.bs, Nat.le_trans I.ok.bsz I.sz, I.stack, I.stkFree, I.hok, I.bare⟩
/-- behind a call -/
theorem Inv.after {Q : VK} {u : Value} (I : Inv X pins σ H s) (h : CE X.stack X.prog X.w H s Q u s') : EP X pins σ Q u s' := by
  obtain ⟨v, H', os, bare, un, hok, r, q⟩ := h
  obtain ⟨hh, g, d, t, os'⟩ := s'
  obtain rfl : os' = s.os := os
  exact ⟨v, H', I.call (h' := hh) (g' := g) (d' := d) (t' := t) (ch := []) un hok bare (fun b z => absurd z (by simp)), r, q⟩
end

/-! ### calls -/
/-- f(..): the written arguments, then the defaults dvs; E: what is wanted of an exception -/
def tCall (sp : Sp) (dvs : List V) (E : XK) (t : TA) : TE := fun σ H Q => t σ H fun vs H1 => sp (vs ++ dvs) H1 Q E
/-- o.m(..) of an instance of the class at C -/
def tMeth (C : Addr) (m : Str) (sp : Sp) (dvs : List V) (E : XK) (ta : TE) (t : TA) : TE := fun σ H Q => ta σ H fun x H1 => ∃ a dx fs, x = .ref a ∧ H1 a = some (.ins C dx fs) ∧ fs.lookup m = none ∧
  t σ H1 fun vs H2 => sp (x :: (vs ++ dvs)) H2 Q E
/-- C(..): a new instance and its dict, then __init__ -/
def tMake (C : Addr) (sp : Sp) (dvs : List V) (E : XK) (t : TA) : TE := fun σ H Q => t σ H fun vs H1 => ∀ x dx, H1 x = none → H1 dx = none → dx ≠ x →
  sp (.ref x :: (vs ++ dvs)) (upd (upd H1 dx (.own x)) x (.ins C dx [])) (fun v H2 => v = .non ∧ Q (.ref x) H2) E

/-- how the parameters are bound: us the positional arguments, kw the keywords' values by name, ds the defaults that fill up -/
def Binds (K : PySem.W.Frag) (fd : FuncData) (ps : List Str) (ds : List Value) : Prop :=
  ∀ (s : Shared) (us : List Value), K.In s.heap → (us ++ ds).length = ps.length → BindsTo s fd ⟨us, []⟩ (ps.zip (us ++ ds))
/-- every parameter is given -/
theorem Binds.all {K : PySem.W.Frag} {fd : FuncData} {ps : List Str} (h : ∀ us : List Value, us.length = ps.length → bindArgs fd ⟨us, []⟩ = pure (ps.zip us)) : Binds K fd ps [] := fun s us _ hl => by
  rw [List.append_nil] at hl ⊢
  exact .of_eq (h us hl)

/-- an exception of a callee reaches what this body wants of exceptions -/
def Passes (CX : CXT) (X : Cx) (E : XK) : Prop := ∀ (pins : List (Addr × Obj)) (σ : St) (H : Hp) (s : Shared) (e : Value) (s' : Shared), Inv X pins σ H s → CX X.stack H s E e s' → X.xe e s'

section
variable {X : Cx} {CX : CXT} {k : Nat} {f C : Addr} {fd : FuncData} {ps : List Str} {sp : Sp} {dvs : List V} {ds : List Value} {E : XK} {x m : Str} {p pos apos : Pos} {e o : Expr} {es : List Expr} {ta : TE} {t : TA}

/-- the callee runs -/
theorem run_fn {pins : List (Addr × Obj)} {σ : St} {H : Hp} {s : Shared} {Q : VK} {us : List Value} {vs : List V} (F : FnOk X.prog X.w X.K X.mg X.base CX k f fd ps sp) (hr : Room k X.A) (hb : Binds X.K fd ps ds) (hd : Vals dvs ds) (hx : Passes CX X E)
    (I : Inv X pins σ H s) (r : Vals vs us) (h : sp (vs ++ dvs) H Q E) : wpAny (model X.prog X.w) X.A (call (.ref f) us) (EP X pins σ Q) X.xe s := by
  have r2 : Vals (vs ++ dvs) (us ++ ds) := r.append hd
  have hl : (us ++ ds).length = ps.length := by rw [← r2.length]; exact F.len _ _ _ _ h
  refine wpAny_call (codeAny_mono (F.run X.A X.stack s H ⟨us, []⟩ (us ++ ds) (vs ++ dvs) Q E hr I.env0 (hb s us I.kIn hl) r2 h) fun r s' hq => ?_)
  cases r with
  | error e => exact hx pins σ H s e s' I hq
  | ok fl =>
    cases fl with
    | ret u => exact I.after hq
    | next => exact False.elim hq
    | brk => exact False.elim hq
    | cont => exact False.elim hq

theorem pe_call (F : FnOk X.prog X.w X.K X.mg X.base CX k f fd ps sp) (hr : Room k X.A) (hg : Gl X x) (hm : X.mg x = some (.ref f)) (hk : PySem.W.keepIn X.K (.ref f) = true) (hb : Binds X.K fd ps ds) (hd : Vals dvs ds) (hx : Passes CX X E)
    (ha : PA X (e :: es) t) (hdb : (x == ("__debug__" : Str)) = false := by decide) (he : starEach (e :: es) X.env = (false, eval e X.env) :: starEach es X.env := by rfl) (hpl : (backTo pos (starEach es X.env)).any (·.1) = false := by rfl) :
    PE X (.Call (.Name x p) (e :: es) [] pos) (tCall sp dvs E t) := by
  intro pins s σ H Q I h
  refine wpAny_Call_Name_kw (ld_glob I hg hm ?_ hdb)
  refine PySem.W.callWith_K (h₀ := X.base) I.ok.mod.kin hk (thn (ha pos pins s σ H _ I h) fun us s1 ⟨vs, H1, I1, r, q⟩ => ⟨I1.kIn, ?_⟩) he hpl
  exact run_fn F hr hb hd hx I1 r q

/-- o.m(e, ..) -/
theorem pe_meth {pl : Sem Bool} (he : PE X o ta) (c : Cls X.K C) (hm : Meth X.K C m f) (F : FnOk X.prog X.w X.K X.mg X.base CX k f fd ps sp) (hr : Room k X.A) (hb : Binds X.K fd ps ds) (hd : Vals dvs ds) (hx : Passes CX X E) (ha : PA X (e :: es) t)
    (hst : starEach (e :: es) X.env = (false, eval e X.env) :: starEach es X.env := by rfl) (hpl : (backTo pos (starEach es X.env)).any (·.1) = false := by rfl)
    (ht : eval (.Call (.Attribute o m apos) (e :: es) [] pos) X.env = (do
      let ov ← eval o X.env
      standAt apos.atName
      let (f, first) ← holding [ov] (getMethod ov m pl)
      callWith pos f first (backTo pos (starEach (e :: es) X.env)) (backToKw pos (keywordEach [] X.env))) := by rfl) :
    PE X (.Call (.Attribute o m apos) (e :: es) [] pos) (tMeth C m sp dvs E ta t) := by
  intro pins s σ H Q I h
  refine PySem.W.methodCall_KW (pl := pl) (thn (he pins s σ H _ I h) fun u s1 ⟨x, H1, I1, rx, a, dx, fs, ex, ea, l, q⟩ => ?_) ht
  subst ex
  obtain rfl : u = Value.ref a := rx
  refine getmeth_ok I1 ea c hm l ?_
  refine PySem.W.callWith_K (first := [.ref a]) (h₀ := X.base) I.ok.mod.kin hm.kp (thn (ha pos pins s1 σ H1 _ I1 q) fun us s2 ⟨vs, H2, I2, r, q2⟩ => ⟨I2.kIn, ?_⟩) hst hpl
  exact run_fn (us := .ref a :: us) (vs := .ref a :: vs) F hr hb hd hx I2 (.cons rfl r) q2
/-- o.m() -/
theorem pe_meth0 {pl : Sem Bool} (he : PE X o ta) (c : Cls X.K C) (hm : Meth X.K C m f) (F : FnOk X.prog X.w X.K X.mg X.base CX k f fd ps sp) (hr : Room k X.A) (hb : Binds X.K fd ps ds) (hd : Vals dvs ds) (hx : Passes CX X E)
    (ht : eval (.Call (.Attribute o m apos) [] [] pos) X.env = (do
      let ov ← eval o X.env
      standAt apos.atName
      let (f, first) ← holding [ov] (getMethod ov m pl)
      callWith pos f first (backTo pos (starEach [] X.env)) (backToKw pos (keywordEach [] X.env))) := by rfl) :
    PE X (.Call (.Attribute o m apos) [] [] pos) (tMeth C m sp dvs E ta tNil) := by
  intro pins s σ H Q I h
  refine PySem.W.methodCall_KW (pl := pl) (thn (he pins s σ H _ I h) fun u s1 ⟨x, H1, I1, rx, a, dx, fs, ex, ea, l, q⟩ => ?_) ht
  subst ex
  obtain rfl : u = Value.ref a := rx
  refine getmeth_ok I1 ea c hm l ?_
  exact PySem.W.callWith_K0 (first := [.ref a]) I1.kIn hm.kp (run_fn (us := [.ref a]) (vs := [.ref a]) F hr hb hd hx I1 (.cons rfl .nil) q)

/-- what a class must have to be made -/
structure Mk (K : PySem.W.Frag) (C f : Addr) : Prop where
  makes : PySem.W.makesIn K C = true
  init : PySem.W.findIn K (.ref C) "__init__" = some (some (.ref f))
  fn : PySem.W.isFn K (.ref f) = true
  kp : PySem.W.keepIn K (.ref C) = true

theorem run_make {pins : List (Addr × Obj)} {σ : St} {H : Hp} {s : Shared} {Q : VK} {us : List Value} {vs : List V} (M : Mk X.K C f) (F : FnOk X.prog X.w X.K X.mg X.base CX k f fd ps sp) (hr : Room (k + 1) X.A) (hb : Binds X.K fd ps ds) (hd : Vals dvs ds)
    (hx : Passes CX X E) (I : Inv X pins σ H s) (r : Vals vs us)
    (h : ∀ x dx, H x = none → H dx = none → dx ≠ x → sp (.ref x :: (vs ++ dvs)) (upd (upd H dx (.own x)) x (.ins C dx [])) (fun v H2 => v = .non ∧ Q (.ref x) H2) E) :
    wpAny (model X.prog X.w) X.A (call (.ref C) us) (EP X pins σ Q) X.xe s := by
  have hq := h (s.heap.objs.size + 1) s.heap.objs.size (I.hok.fresh (Nat.le_succ _)) (I.hok.fresh (Nat.le_refl _)) (Nat.ne_of_lt (Nat.lt_succ_self _))
  have I2 := Inv.made (C := C) I
  have r2 : Vals (V.ref (s.heap.objs.size + 1) :: (vs ++ dvs)) (Value.ref (s.heap.objs.size + 1) :: (us ++ ds)) := .cons rfl (r.append hd)
  have hl : (Value.ref (s.heap.objs.size + 1) :: us ++ ds).length = ps.length := by
    have e := r2.length
    rw [F.len _ _ _ _ hq] at e
    exact e.symm
  refine wpAny_call (make_map (f := f) I.kIn M.makes M.init (beq_iff_eq.mp M.fn) (codeAny_mono (F.run _ X.stack _ _ ⟨Value.ref (s.heap.objs.size + 1) :: us, []⟩ (Value.ref (s.heap.objs.size + 1) :: (us ++ ds)) _ _ E (hr.make C us [])
    (I2.env0.make C us []) (hb _ (Value.ref (s.heap.objs.size + 1) :: us) I2.kIn hl) r2 hq) fun r s' hq' => ?_))
  cases r with
  | error e => exact hx pins σ _ _ e s' I2 hq'
  | ok fl =>
    cases fl with
    | ret u =>
      obtain ⟨v, H', I3, rv, ev, q3⟩ := I2.after hq'
      subst ev
      exact ⟨rv, ⟨V.ref (s.heap.objs.size + 1), H', I3, rfl, q3⟩⟩
    | next => exact False.elim hq'
    | brk => exact False.elim hq'
    | cont => exact False.elim hq'
theorem pe_make (M : Mk X.K C f) (F : FnOk X.prog X.w X.K X.mg X.base CX k f fd ps sp) (hr : Room (k + 1) X.A) (hg : Gl X x) (hm : X.mg x = some (.ref C)) (hb : Binds X.K fd ps ds) (hd : Vals dvs ds) (hx : Passes CX X E)
    (ha : PA X (e :: es) t) (hdb : (x == ("__debug__" : Str)) = false := by decide) (he : starEach (e :: es) X.env = (false, eval e X.env) :: starEach es X.env := by rfl) (hpl : (backTo pos (starEach es X.env)).any (·.1) = false := by rfl) :
    PE X (.Call (.Name x p) (e :: es) [] pos) (tMake C sp dvs E t) := by
  intro pins s σ H Q I h
  refine wpAny_Call_Name_kw (ld_glob I hg hm ?_ hdb)
  refine PySem.W.callWith_K (h₀ := X.base) I.ok.mod.kin M.kp (thn (ha pos pins s σ H _ I h) fun us s1 ⟨vs, H1, I1, r, q⟩ => ⟨I1.kIn, ?_⟩) he hpl
  exact run_make M F hr hb hd hx I1 r q
theorem pe_make0 (M : Mk X.K C f) (F : FnOk X.prog X.w X.K X.mg X.base CX k f fd ps sp) (hr : Room (k + 1) X.A) (hg : Gl X x) (hm : X.mg x = some (.ref C)) (hb : Binds X.K fd ps ds) (hd : Vals dvs ds) (hx : Passes CX X E)
    (hdb : (x == ("__debug__" : Str)) = false := by decide) : PE X (.Call (.Name x p) [] [] pos) (tMake C sp dvs E tNil) := by
  intro pins s σ H Q I h
  refine wpAny_Call_Name_kw (ld_glob I hg hm ?_ hdb)
  exact PySem.W.callWith_K0 I.kIn M.kp (run_make (us := []) M F hr hb hd hx I .nil h)
end

/-! ### keywords -/

/-! ### a def's body keeps its promise -/
/-- names: the parameters first -/
structure FnScope (N P : List Str) (sc : Scope) : Prop where
  kind : sc.kind = .function
  co : sc.isCoroutine = false
  gen : sc.isGenerator = false
  nd : N.Nodup
  pre : N.take P.length = P
  par : ∀ x ∈ P, sc.names.lookup x = some .local ∨ sc.names.lookup x = some .cell
  nofree : ∀ y ∈ sc.names, y.2 ≠ .free

theorem bindL_out {kindOf : Str → Option NameKind} {x : Str} : ∀ {binds : List (Str × Value)} {m : Str → Option Value}, (∀ v, (x, v) ∉ binds) → bindL kindOf binds m x = m x
  | [], _, _ => rfl
  | (n, v) :: r, m, h => by
    unfold bindL
    rw [bindL_out fun w hw => h w (List.mem_cons_of_mem _ hw)]
    split
    · have : x ≠ n := by rintro rfl; exact h v List.mem_cons_self
      simp [this]
    · rfl
theorem bindC_out {kindOf : Str → Option NameKind} {x : Str} : ∀ {binds : List (Str × Value)} {m : Str → Option Value}, (∀ v, (x, v) ∉ binds) → bindC kindOf binds m x = m x
  | [], _, _ => rfl
  | (n, v) :: r, m, h => by
    unfold bindC
    rw [bindC_out fun w hw => h w (List.mem_cons_of_mem _ hw)]
    split
    · rfl
    · have : x ≠ n := by rintro rfl; exact h v List.mem_cons_self
      simp [this]
theorem bindL_get {kindOf : Str → Option NameKind} {x : Str} {v : Value} : ∀ {P : List Str} {vs : List Value} {i : Nat} {m : Str → Option Value}, P.Nodup → P[i]? = some x → vs[i]? = some v → kindOf x = some .local →
    bindL kindOf (P.zip vs) m x = some v
  | [], _, _, _, _, h, _, _ => by simp at h
  | _ :: _, [], _, _, _, _, h, _ => by simp at h
  | p :: P, w :: vs, 0, m, nd, h1, h2, hk => by
    simp at h1 h2; subst h1; subst h2
    show bindL kindOf ((p, w) :: P.zip vs) m p = _
    unfold bindL
    rw [bindL_out fun v hv => (List.nodup_cons.mp nd).1 (List.of_mem_zip hv).1, if_pos hk]
    simp
  | p :: P, w :: vs, i + 1, m, nd, h1, h2, hk => by
    show bindL kindOf ((p, w) :: P.zip vs) m x = _
    unfold bindL
    exact bindL_get (i := i) (List.nodup_cons.mp nd).2 (by simpa using h1) (by simpa using h2) hk
theorem bindC_get {kindOf : Str → Option NameKind} {x : Str} {v : Value} : ∀ {P : List Str} {vs : List Value} {i : Nat} {m : Str → Option Value}, P.Nodup → P[i]? = some x → vs[i]? = some v → kindOf x ≠ some .local →
    bindC kindOf (P.zip vs) m x = some v
  | [], _, _, _, _, h, _, _ => by simp at h
  | _ :: _, [], _, _, _, _, h, _ => by simp at h
  | p :: P, w :: vs, 0, m, nd, h1, h2, hk => by
    simp at h1 h2; subst h1; subst h2
    show bindC kindOf ((p, w) :: P.zip vs) m p = _
    unfold bindC
    rw [bindC_out fun v hv => (List.nodup_cons.mp nd).1 (List.of_mem_zip hv).1, if_neg hk]
    simp
  | p :: P, w :: vs, i + 1, m, nd, h1, h2, hk => by
    show bindC kindOf ((p, w) :: P.zip vs) m x = _
    unfold bindC
    exact bindC_get (i := i) (List.nodup_cons.mp nd).2 (by simpa using h1) (by simpa using h2) hk

/-- the names' values at the entry -/
def start (N : List Str) (vs : List V) : St := vs.map some ++ List.replicate (N.length - vs.length) none

/-- the context of a def's body, at its entry; an exception leaves the frame, then lies as CX says -/
def cxOf (CX : CXT) (P : Program) (w : World) (K : PySem.W.Frag) (mg : Str → Option Value) (base : Heap) (N : List Str) (qual : Str) (scope : Scope) (f : Addr) (cd : Value) (A : Around) (outer : List Env) (s : Shared) (H : Hp) (E : XK) : Cx where
  prog := P
  w := w
  K := K
  mg := mg
  base := base
  A := A.deeper (envOfC qual scope s.heap.objs.size f cd)
  N := N
  s_0 := s
  H_0 := H
  env := envOfC qual scope s.heap.objs.size f cd
  outer := outer
  stack := envOfC qual scope s.heap.objs.size f cd :: outer
  ex := []
  calm := true
  fn := fun _ => true
  pn := []
  xe := fun e s' => wpAny (model P w) (A.deeper (envOfC qual scope s.heap.objs.size f cd)) (leaving (envOfC qual scope s.heap.objs.size f cd) e) (fun _ s'' => CX outer H s E e s'') (fun e' s'' => CX outer H s E e' s'') s'

theorem cell_has {sc : Scope} {n : Nat} {x : Str} (h : sc.names.lookup x = some .cell) : ∃ c, (cellsFrom n sc.names []).lookup x = some c := by
  have q := PySem.W.cellsFrom_some sc.names n [] (.inl h)
  exact Option.isSome_iff_exists.mp q

theorem inv_start {CX : CXT} {P : Program} {w : World} {K : PySem.W.Frag} {mg : Str → Option Value} {base : Heap} {N ps : List Str} {qual : Str} {scope : Scope} {f : Addr} {cd : Value} {A : Around} {outer : List Env} {s s1 : Shared} {H : Hp} {E : XK} {us : List Value} {vs : List V}
    (S : FnScope N ps scope) (hd : A.handled = none) (e0 : Env0 P w K mg base A outer s H) (hl : vs.length = ps.length) (r : Vals vs us)
    (x : InCallC s s.heap.objs.size (bindL (envOfC qual scope s.heap.objs.size f cd).kindOf (ps.zip us) fun _ => none) (cellsFrom (s.heap.objs.size + 1) scope.names []) (bindC (envOfC qual scope s.heap.objs.size f cd).kindOf (ps.zip us) fun _ => none) s1) :
    Inv (cxOf CX P w K mg base N qual scope f cd A outer s H E) [] (start N vs) H s1 := by
  have hpl : ps.length ≤ N.length := by have := congrArg List.length S.pre; rw [List.length_take] at this; omega
  obtain ⟨h1, tk, rfl, hk⟩ := x.done
  have noA : ∀ b : Addr, b ∉ (cxOf CX P w K mg base N qual scope f cd A outer s H E).ex := fun b z => absurd (show b ∈ ([] : List Addr) from z) (by simp)
  refine ⟨⟨e0.mod, S.kind, rfl, rfl, Nat.le_refl _, fun y z c h1 h2 => ?_, fun y hy => ?_, fun y c _ h => ?_, fun _ => hd, Around.frames_deeper e0.frames, .inr ⟨rfl, rfl⟩, fun b z => absurd z (noA b), e0.bs, e0.bsz, fun b _ _ => noA b, fun b z => absurd z (noA b), e0.funs, e0.frf⟩,
    rfl, e0.bare, Un.kept hk, ⟨_, x.toInCall.ns, fun i y v h1 h2 h3 => ?_⟩, fun y c h => ⟨_, x.cell y c h⟩, e0.hok.fresh (Nat.le_refl _), fun y c h => ?_, fun p hp => absurd (show p ∈ ([] : List (Addr × Obj)) from hp) (by simp), e0.hok.kept hk, ?_⟩
  · exact name_of_addr x.apart (PySem.mem_of_lookup h1) (PySem.mem_of_lookup h2)
  · have hy : scope.names.lookup y = some .cell ∨ scope.names.lookup y = some .free := hy
    rcases hy with hy | hy
    · exact cell_has hy
    · exact absurd rfl (S.nofree _ (PySem.mem_of_lookup hy))
  · exact Nat.le_of_lt (x.above y c (PySem.mem_of_lookup h))
  · have hi : i < vs.length := by
      unfold start at h2
      by_cases hi : i < vs.length
      · exact hi
      · rw [List.getElem?_append_right (by simpa using hi)] at h2
        rw [List.getElem?_replicate] at h2
        split at h2 <;> cases h2
    have ha : vs[i]? = some v := by
      unfold start at h2
      rw [List.getElem?_append_left (by simpa using hi), List.getElem?_map] at h2
      cases e : vs[i]? with
      | none => rw [e] at h2; cases h2
      | some a => rw [e] at h2; cases h2; rfl
    obtain ⟨u, hu, rv⟩ := r.get ha
    have hp : ps[i]? = some y := by
      rw [← S.pre, List.getElem?_take_of_lt (by omega)]; exact h1
    have ndP : ps.Nodup := by rw [← S.pre]; exact S.nd.sublist (List.take_sublist _ _)
    refine ⟨u, rv, ?_⟩
    rcases S.par y (List.mem_of_getElem? hp) with k | k
    · exact .inl ⟨k, bindL_get ndP hp hu k⟩
    · obtain ⟨c, e⟩ := cell_has (n := s.heap.objs.size + 1) k
      refine .inr ⟨.inl k, c, e, ?_⟩
      have q := x.cell y c e
      rw [bindC_get ndP hp hu (by show scope.names.lookup y ≠ _; rw [k]; decide)] at q
      exact q
  · exact e0.hok.fresh (Nat.le_of_lt (x.above y c (PySem.mem_of_lookup h)))
  · unfold start
    show _ = N.length
    rw [List.length_append, List.length_map, List.length_replicate]
    omega

/-- THE RULE: a def (or a method) of the text, by its body. The body's reading t is chosen for each entry; it is run at the parameters' values -/
theorem fn_of {CX : CXT} {P : Program} {w : World} {K : PySem.W.Frag} {mg : Str → Option Value} {base : Heap} {k : Nat} {f : Addr} {name qual : Str} {params : Arguments} {body : List Stmt} {scope : Scope} {dV kV doc pm cdv ct oc : Value} {an od : Option Addr}
    {osl : Array (Option Value)} {N ps : List Str} {sp : Sp} (lk : K.lookup f = some ⟨oc, od, .func (PySem.W.fnOf name qual params body scope dV kV doc pm an cdv ct), osl⟩) (hcd : PySem.W.codeIn K cdv qual = true) (S : FnScope N ps scope)
    (len : ∀ vs H Q E, sp vs H Q E → vs.length = ps.length)
    (hbody : ∀ (A : Around) (outer : List Env) (s : Shared) (H : Hp) (vs : List V) (Q : VK) (E : XK), Room k (A.deeper (envOfC qual scope s.heap.objs.size f cdv)) → sp vs H Q E →
      ∃ t, PSs (cxOf CX P w K mg base N qual scope f cdv A outer s H E) body t ∧ t { nx := fun _ H' => Q .non H', rt := Q } (start N vs) H) :
    FnOk P w K mg base CX (k + 1) f (PySem.W.fnOf name qual params body scope dV kV doc pm an cdv ct) ps sp := by
  refine ⟨len, fun A outer s H args us vs Q E hr e0 hb r hsp => ?_⟩
  have hl := len _ _ _ _ hsp
  have KX : K.In s.heap := e0.mod.kin.keeps fun b o e => (e0.bs b o e).1
  have lim : s.heap.NoLimit := e0.mod.nolimit.keeps fun b o e => (e0.bs b o e).1
  have hkind : ∀ y ∈ ps.zip us, scope.names.lookup y.1 = some .local ∨ (scope.names.lookup y.1 = some .cell ∧ ((cellsFrom (s.heap.objs.size + 1) scope.names []).lookup y.1).isSome = true) := fun ⟨n, v⟩ hy => by
    rcases S.par n (List.of_mem_zip hy).1 with q | q
    · exact .inl q
    · exact .inr ⟨q, PySem.W.cellsFrom_some _ _ _ (.inl q)⟩
  refine codeAny_call_function hr.depth (KX _ _ lk) rfl S.co S.gen rfl (PySem.W.codeRec_of KX hcd) (hb _ _ _ _ ?_)
  refine wpAny_newFunctionEnv_cells S.kind hkind fun env he s1 x => ?_
  subst he
  refine ⟨lim.keeps x.toInCall.keep, codeAny_func ?_⟩
  obtain ⟨t, ht, hq⟩ := hbody A outer s H vs Q E (hr.deeper _) hsp
  have I : Inv (cxOf CX P w K mg base N qual scope f cdv A outer s H E) [] (start N vs) H s1 := inv_start S hr.hd e0 hl r x
  refine wpAny_mono (ht [] s1 (start N vs) H _ I hq) (fun fl s' hs => ?_) fun e s' hs => hs
  have fin : ∀ {σ' : St} {H' : Hp} {v : V} {u : Value}, Inv (cxOf CX P w K mg base N qual scope f cdv A outer s H E) [] σ' H' s' → RelV v u → Q v H' → CE outer P w H s Q u s' :=
    fun {σ' H' v u} J rv q => ⟨v, H', J.os, J.bare, J.base, J.hok, rv, q⟩
  cases fl with
  | ret u =>
    obtain ⟨v, σ', H', J, rv, q⟩ := hs
    exact fin J rv q
  | next =>
    obtain ⟨σ', H', J, q⟩ := hs
    exact fin (v := V.non) (u := Value.none) J rfl q
  | brk =>
    obtain ⟨_, _, _, q⟩ := hs
    exact False.elim q
  | cont =>
    obtain ⟨_, _, _, q⟩ := hs
    exact False.elim q
end L2

namespace L2
open PySem PySem.Spec PyProof.Rows
section
variable {X : Cx} {x : Str} {p pos : Pos} {e : Expr} {es : List Expr} {t : TA} {id T : String} {r : List V → Hp → VK → Prop}

def tCB (r : List V → Hp → VK → Prop) (t : TA) : TE := fun σ H Q => t σ H fun vs H1 => r vs H1 Q
/-- f(e, ..), f a built-in function -/
theorem pe_callB (hc : CallR X (.builtin id) r) (hg : Gl X x) (hm : X.mg x = none) (hv : bootBuiltins x = some (.builtin id)) (ha : PA X (e :: es) t) (hn : x ≠ "__name__" := by decide) (hdb : (x == ("__debug__" : Str)) = false := by decide)
    (he : starEach (e :: es) X.env = (false, eval e X.env) :: starEach es X.env := by rfl) (hpl : (backTo pos (starEach es X.env)).any (·.1) = false := by rfl) : PE X (.Call (.Name x p) (e :: es) [] pos) (tCB r t) := by
  intro pins s σ H Q I h
  refine wpAny_Call_Name_kw (ld_blt I hg hm hv ?_ hn hdb)
  exact PyProof.Rows.callWith_builtin1 (thn (ha pos pins s σ H _ I h) fun us s1 ⟨vs, H1, I1, r1, q1⟩ => hc pins s1 σ H1 vs us Q I1 r1 q1) he hpl
end
end L2

namespace HT
open PySem PyProof.Rows

section
open PySem.SeqAt
open PySem.AutoSeq1 (wpAny_loadPart')
open PySem.MeetsSeq PySem.MeetsSeq2 PySem.MeetsSeq3

end

section
variable {prog : Program} {w : World} {A : Around} {E : Value → Shared → Prop} {s : Shared}

/-! ### t[a:b], not the whole -/
/-- a slice's bound as a place among n (d where it is left out) -/
def sIx (n d : Nat) : Option Int → Nat
  | none => d
  | some v => if v < 0 then (v + (n : Int)).toNat else min v.toNat n
theorem sIx_nat (n d k : Nat) : sIx n d (some (k : Int)) = min k n := by
  show (if (k : Int) < 0 then ((k : Int) + (n : Int)).toNat else min (k : Int).toNat n) = min k n
  rw [if_neg (by omega), Int.toNat_natCast]

end
end HT

namespace L2
open PySem PySem.Spec PyProof.Rows

/-! ### the parts of a slice -/
abbrev TO := St → Hp → (Option Int → Hp → Prop) → Prop
/-- a slice's part (left out, or an int) -/
def PO (X : Cx) (e : Option Expr) (t : TO) : Prop :=
  ∀ (pins : List (Addr × Obj)) (s : Shared) (σ : St) (H : Hp) (Q : Option Int → Hp → Prop), Inv X pins σ H s → t σ H Q →
    wpAny (model X.prog X.w) X.A (evalPart e X.env) (fun u s' => ∃ o H', Inv X pins σ H' s' ∧ IsPart u o ∧ Q o H') X.xe s
def tPart (t : TE) : TO := fun σ H Q => t σ H fun x H1 => ∃ i, x = .int i ∧ Q (some i) H1

section
variable {X : Cx} {e : Expr} {te : TE} {lo hi : Option Expr} {tl th : TO} {pos p2 : Pos}

theorem po_some (h : PE X e te) : PO X (some e) (tPart te) := by
  intro pins s σ H Q I hw
  rw [evalPart_some]
  refine thn (h pins s σ H _ I hw) fun u s1 ⟨x, H1, I1, r1, q1⟩ => ?_
  obtain ⟨i, rfl, q⟩ := q1
  obtain ⟨t, rfl⟩ := r1
  exact ⟨some i, H1, I1, .int i t, q⟩

/-- what a slice of a value is, by values: the slice object stands at sl -/
def SlR (X : Cx) (r : V → Option Int → Option Int → Hp → VK → Prop) : Prop :=
  ∀ (pins : List (Addr × Obj)) (s : Shared) (σ : St) (H : Hp) (x : V) (v vl vu : Value) (lo hi : Option Int) (sl : Addr) (Q : VK), Inv X pins σ H s → RelV x v → s.heap.IsSliceOf sl vl vu .none → IsPart vl lo → IsPart vu hi → r x lo hi H Q →
    ∃ T id, typeLookup (.type T) "__getitem__" = pure (some (.builtin id)) ∧ s.TypeIs v T ∧ wpAny (model X.prog X.w) X.A (getItem v (.ref sl)) (EP X pins σ Q) X.xe s
def tSl (r : V → Option Int → Option Int → Hp → VK → Prop) (te : TE) (tl th : TO) : TE := fun σ H Q => te σ H fun x H1 => tl σ H1 fun l H2 => th σ H2 fun u H3 => r x l u H3 Q
/-- a[lo:hi], any a -/
theorem pe_slice {r : V → Option Int → Option Int → Hp → VK → Prop} (hr : SlR X r) (he : PE X e te) (hl : PO X lo tl) (hu : PO X hi th) : PE X (.Subscript e (.Slice lo hi none p2) pos) (tSl r te tl th) := by
  intro pins s σ H Q I h
  refine Subscript_ (thn (he pins s σ H _ I h) fun v s1 ⟨x, H1, I1, r1, q1⟩ => ?_)
  refine wpAny_Slice (thn (hl pins s1 σ H1 _ I1 q1) fun vl s2 ⟨l, H2, I2, pl, q2⟩ => thn (hu pins s2 σ H2 _ I2 q2) fun vu s3 ⟨u, H3, I3, pu, q3⟩ => ?_)
  rw [evalPart_none]
  refine wpAny_pure ?_
  have I4 : Inv X pins σ H3 { s3 with heap := s3.heap.push { cls := .type "slice", data := .fields #[vl, vu, .none] } } := I3.kept (t' := s3.toks) fun b ob q => Heap.get?_push_of_some _ q
  obtain ⟨T, id, hT, ht, hg⟩ := hr pins { s3 with heap := s3.heap.push { cls := .type "slice", data := .fields #[vl, vu, .none] } } σ H3 x v vl vu l u s3.heap.objs.size Q I4 r1 (Heap.IsSliceOf.new ..) pl pu q3
  show wpAny (model X.prog X.w) X.A (subscriptTail e (.Slice lo hi none p2) v (.ref s3.heap.objs.size)) (EP X pins σ Q) X.xe { s3 with heap := s3.heap.push { cls := .type "slice", data := .fields #[vl, vu, .none] } }
  exact tail_any (ops := [.ref s3.heap.objs.size, v]) ht hT hg (by with_unfolding_all rfl)

/-- the items of xs[lo:hi] -/
def cutV (xs : List V) (lo hi : Option Int) : List V := (xs.drop (HT.sIx xs.length 0 lo)).take (HT.sIx xs.length xs.length hi - HT.sIx xs.length 0 lo)
theorem cutV_length (xs : List V) (lo hi : Option Int) : (cutV xs lo hi).length ≤ xs.length := by
  unfold cutV
  rw [List.length_take, List.length_drop]
  omega

/-! ### t < u, t + u -/
end
end L2

namespace L2
open PySem PySem.Spec PyProof.Rows

/-! ### places -/
/-- the place that an index of any sign means -/
def ixN (n : Nat) (i : Int) : Option Nat := if 0 ≤ i then (if i < n then some i.toNat else none) else if -(n : Int) ≤ i then some (i + n).toNat else none
def atI {α : Type} (xs : List α) (i : Int) : Option α := (ixN xs.length i).bind fun j => xs[j]?
theorem ixN_seq {n : Nat} {i : Int} {j : Nat} (h : ixN n i = some j) : seqIndex? i n = some j ∧ j < n ∧ -(n : Int) ≤ i ∧ i < n := by
  unfold ixN at h
  by_cases h0 : 0 ≤ i
  · rw [if_pos h0] at h
    by_cases h1 : i < n
    · rw [if_pos h1] at h
      have e : i.toNat = j := Option.some.inj h
      exact ⟨by rw [seqIndex_of h0 h1, e], by omega, by omega, h1⟩
    · rw [if_neg h1] at h; cases h
  · rw [if_neg h0] at h
    by_cases h1 : -(n : Int) ≤ i
    · rw [if_pos h1] at h
      have e : (i + n).toNat = j := Option.some.inj h
      exact ⟨by rw [seqIndex_neg (by omega) h1, e], by omega, h1, by omega⟩
    · rw [if_neg h1] at h; cases h
theorem atI_get {α : Type} {xs : List α} {i : Int} {v : α} (h : atI xs i = some v) : ∃ j, seqIndex? i xs.length = some j ∧ xs[j]? = some v ∧ j < xs.length ∧ -(xs.length : Int) ≤ i ∧ i < xs.length := by
  unfold atI at h
  cases e : ixN xs.length i with
  | none => rw [e] at h; cases h
  | some j =>
    rw [e] at h
    obtain ⟨h1, h2, h3, h4⟩ := ixN_seq e
    exact ⟨j, h1, h, h2, h3, h4⟩
theorem atI_nat {α : Type} {xs : List α} {j : Nat} {v : α} (h : xs[j]? = some v) : atI xs (j : Int) = some v := by
  have hj : j < xs.length := (List.getElem?_eq_some_iff.mp h).1
  have e : ixN xs.length (j : Int) = some j := by
    unfold ixN
    rw [if_pos (by omega), if_pos (by omega)]; simp
  unfold atI; rw [e]; exact h
theorem atI_last {α : Type} (xs : List α) (v : α) : atI (xs ++ [v]) (-1) = some v := by
  have hl : (xs ++ [v]).length = xs.length + 1 := by simp
  have e : ixN (xs ++ [v]).length (-1) = some xs.length := by
    unfold ixN
    rw [hl, if_neg (by decide), if_pos (by omega)]
    congr 1
    omega
  unfold atI
  rw [e]
  show (xs ++ [v])[xs.length]? = some v
  simp

/-! ### what may be subscripted -/
/-- what stands as an index of a plain subscript -/
def PlainIx (b : Expr) : Prop := ∀ o i, subscripted b false o i = operate [o, i] (getItem o i)
/-- a subscript by values -/
def IxR (X : Cx) (r : R2) : Prop :=
  ∀ (value slice : Expr) (pins : List (Addr × Obj)) (s : Shared) (σ : St) (H : Hp) (x y : V) (v u : Value) (Q : VK), Inv X pins σ H s → RelV x v → RelV y u → r x y H Q →
    subscripted slice false v u = operate [v, u] (getItem v u) → wpAny (model X.prog X.w) X.A (subscriptTail value slice v u) (EP X pins σ Q) X.xe s
/-- a call of a builtin's method by values: the receiver, the arguments -/
def MtR (X : Cx) (id : String) (r : V → List V → Hp → VK → Prop) : Prop :=
  ∀ (pins : List (Addr × Obj)) (s : Shared) (σ : St) (H : Hp) (x : V) (xs : List V) (v : Value) (us : List Value) (Q : VK), Inv X pins σ H s → RelV x v → Vals xs us → r x xs H Q →
    wpAny (model X.prog X.w) X.A (call (.builtin id) (v :: us)) (EP X pins σ Q) X.xe s
section
variable {X : Cx} {a b : Expr} {ta tb : TE} {pos : Pos}
/-- a[b] -/
theorem pe_ix {r : R2} (hr : IxR X r) (ha : PE X a ta) (hb : PE X b tb) (hs : PlainIx b) : PE X (.Subscript a b pos) (tOp r ta tb) := by
  intro pins s σ H Q I h
  exact Subscript_ (binT ha hb I h fun v u s2 x y H2 I2 rx ry q => hr a b pins s2 σ H2 x y v u Q I2 rx ry q (hs _ _))

def rIxL (K : PySem.W.Frag) : R2 := fun x y H Q => ∃ p xs i v, x = .ref p ∧ y = .int i ∧ SqL K H p xs ∧ atI xs i = some v ∧ Q v H
def rIxT (K : PySem.W.Frag) : R2 := fun x y H Q => ∃ p xs i v, x = .ref p ∧ y = .int i ∧ SqT K H p xs ∧ atI xs i = some v ∧ Q v H
theorem ix_list : IxR X (rIxL X.K) := by
  intro value slice pins s σ H x y v u Q I rx ry h hs
  obtain ⟨p, xs, i, z, rfl, rfl, hq, he, q⟩ := h
  cases rx
  obtain ⟨t, rfl⟩ := ry
  obtain ⟨its, r, pl, hz⟩ := I.list hq
  obtain ⟨j, h1, h2, h3, h4, h5⟩ := atI_get he
  obtain ⟨w, ew, rw'⟩ := r.get h2
  have hl := r.length
  have hn := line63
  have fin : EP X pins σ Q w s := ⟨z, H, I, rw', q⟩
  by_cases h0 : 0 ≤ i
  · have hj : i.toNat = j := by
      rw [seqIndex_of h0 h5] at h1
      exact Option.some.inj h1
    exact item_listR pl.isList h0 (by omega) (by rw [hj]; simpa using ew) fin hs
  · have hj : (i + (its.toArray.size : Int)).toNat = j := by
      rw [seqIndex_neg (by omega) h4] at h1
      rw [List.size_toArray, ← hl]
      exact Option.some.inj h1
    exact subscriptTail_builtinR (x := w) pl.isList.typeIs slot_list_getitem.lookup
      (wpAny_getItem_list_neg (Q := fun r s' => r = w ∧ EP X pins σ Q r s') pl.isList (by omega) (by rw [List.size_toArray] <;> omega) (by omega) (by rw [hj]; simpa using ew) ⟨rfl, fin⟩) hs
theorem ix_tup : IxR X (rIxT X.K) := by
  intro value slice pins s σ H x y v u Q I rx ry h hs
  obtain ⟨p, xs, i, z, rfl, rfl, hq, he, q⟩ := h
  cases rx
  obtain ⟨t, rfl⟩ := ry
  obtain ⟨its, r, pl, hz⟩ := I.tuple hq
  obtain ⟨j, h1, h2, h3, h4, h5⟩ := atI_get he
  obtain ⟨w, ew, rw'⟩ := r.get h2
  have hl := r.length
  have hn := line63
  have fin : EP X pins σ Q w s := ⟨z, H, I, rw', q⟩
  exact subscriptTail_builtinR (x := w) pl.typeIs slot_tuple_getitem.lookup
    (getItem_tuple (j := j) (Q := fun r s' => r = w ∧ EP X pins σ Q r s') pl (by omega) (by omega) (by rw [List.size_toArray, ← hl]; exact h1) (by simpa using ew) ⟨rfl, fin⟩) hs

/-! ### xs[i] = v, any sign -/
/-- the list's object behind a store -/
theorem mapSeq_set (its : List Value) (n j : Nat) (u : Value) : Obj.mapSeq (·.setIfInBounds j u) { cls := .type "list", data := .seq its.toArray n } = { cls := .type "list", data := .seq (its.set j u).toArray n } := by
  simp [Obj.mapSeq]
theorem Inv.lst {pins : List (Addr × Obj)} {σ : St} {H : Hp} {s : Shared} {p : Addr} {xs : List V} (I : Inv X pins σ H s) (h : H p = some (.lst xs)) :
    ∃ (its : List Value) (n : Nat), Vals xs its ∧ s.heap.get? p = some { cls := .type "list", data := .seq its.toArray n } ∧ xs.length ≤ sizeLine := by
  obtain ⟨z, its, n, r, e⟩ := I.hok p _ h
  exact ⟨its, n, r, e, z⟩
/-- the list at p is written by an update of its object -/
theorem Inv.lstUpd {pins : List (Addr × Obj)} {σ : St} {H : Hp} {s : Shared} {p : Addr} {xs ys : List V} {its its' : List Value} {n n' : Nat} {f : Obj → Obj} (I : Inv X pins σ H s) (h : H p = some (.lst xs))
    (ho : s.heap.get? p = some { cls := .type "list", data := .seq its.toArray n }) (hf : f { cls := .type "list", data := .seq its.toArray n } = { cls := .type "list", data := .seq its'.toArray n' }) (r : Vals ys its') (hz : ys.length ≤ sizeLine) (t : Nat) :
    Inv X pins σ (upd H p (.lst ys)) { s with heap := s.heap.update p f, toks := t } := by
  have e : (s.heap.update p f).get? p = some { cls := .type "list", data := .seq its'.toArray n' } := by
    rw [Heap.get?_update_self f ho (by rw [hf] <;> rfl), hf]
  refine I.write (x := p) (e := p) (by rw [h]; trivial) (.inl rfl) (fun b u hb q => (Heap.get?_update_other _ _ (Ne.symm hb)).trans q) ⟨_, e⟩ ?_
  exact ⟨hz, its', n', r, e⟩
def rSetL : V → V → V → Hp → (Hp → Prop) → Prop := fun o i v H Q => ∃ p xs k j, o = .ref p ∧ i = .int k ∧ H p = some (.lst xs) ∧ ixN xs.length k = some j ∧ Q (upd H p (.lst (xs.set j v)))
theorem set_list : PSet X rSetL := by
  intro pins s σ H o i v ov iv u Q I ro ri rv h
  obtain ⟨p, xs, k, j, rfl, rfl, hp, hj, q⟩ := h
  cases ro
  obtain ⟨t, rfl⟩ := ri
  obtain ⟨its, n, r, ho, hz⟩ := I.lst hp
  obtain ⟨h1, h2, h3, h4⟩ := ixN_seq hj
  have hl := r.length
  have hn := line63
  have I' : Inv X pins σ (upd H p (.lst (xs.set j v))) { s with heap := s.heap.update p (Obj.mapSeq (·.setIfInBounds j u)) } :=
    I.lstUpd hp ho (mapSeq_set its n j u) (r.set rv j) (by rw [List.length_set]; exact hz) s.toks
  by_cases h0 : 0 ≤ k
  · have hk : k.toNat = j := by
      rw [seqIndex_of h0 h4] at h1
      exact Option.some.inj h1
    exact PySem.W.ki_setAt ho h0 (by omega) (by rw [List.size_toArray, ← hl]; exact h4) (by rw [hk]; exact ⟨_, I', q⟩)
  · have hk : (k + (its.toArray.size : Int)).toNat = j := by
      rw [seqIndex_neg (by omega) h3] at h1
      rw [List.size_toArray, ← hl]
      exact Option.some.inj h1
    exact PySem.W.ki_setBack ho (by omega) (by rw [List.size_toArray, ← hl]; exact h3) (by omega) (by rw [hk]; exact ⟨_, I', q⟩)

/-! ### slices -/
theorem slice_bounds (lo hi : Option Int) (n : Nat) : (sliceBounds lo hi none n).1 = ((HT.sIx n 0 lo : Nat) : Int) ∧ (sliceBounds lo hi none n).2.1 = ((HT.sIx n n hi : Nat) : Int) ∧ (sliceBounds lo hi none n).2.2 = 1 := by
  refine ⟨?_, ?_, rfl⟩
  · cases lo with
    | none => simp [sliceBounds, HT.sIx]
    | some i =>
      simp only [sliceBounds, HT.sIx, Option.getD_none, show (1 : Int) > 0 by decide, if_true]
      by_cases h : i < 0
      · simp only [h, if_true] <;> omega
      · simp only [h, if_false] <;> omega
  · cases hi with
    | none => simp [sliceBounds, HT.sIx]
    | some i =>
      simp only [sliceBounds, HT.sIx, Option.getD_none, show (1 : Int) > 0 by decide, if_true]
      by_cases h : i < 0
      · simp only [h, if_true] <;> omega
      · simp only [h, if_false] <;> omega
theorem slicePick_cut (its : List Value) (lo hi : Option Int) : slicePick its.toArray lo hi none = ((its.drop (HT.sIx its.length 0 lo)).take (HT.sIx its.length its.length hi - HT.sIx its.length 0 lo)).toArray := by
  obtain ⟨h1, h2, h3⟩ := slice_bounds lo hi its.toArray.size
  unfold slicePick
  rw [h1, h2, h3]
  simp only [sliceRange_one, pick_run, List.size_toArray] <;> rfl
/-- xs[lo:hi] of a list: a new list -/
def rSlL (K : PySem.W.Frag) : V → Option Int → Option Int → Hp → VK → Prop := fun x lo hi H Q => ∃ a xs, x = .ref a ∧ SqL K H a xs ∧ ∀ p, H p = none → Q (.ref p) (upd H p (.lst (cutV xs lo hi)))
theorem sl_list : SlR X (rSlL X.K) := by
  intro pins s σ H x v vl vu lo hi sl Q I rx hs pl pu h
  obtain ⟨a, xs, rfl, hx, q⟩ := h
  cases rx
  obtain ⟨its, r, ht, hz⟩ := I.list hx
  have hlen := r.length
  refine ⟨"list", _, slot_list_getitem.lookup, ht.isList.typeIs, ?_⟩
  refine wpAny_getItem_list_slice ht.isList hs pl pu .none (by simp) ?_ (by rw [List.size_toArray] <;> omega)
  rw [slicePick_cut, ← hlen]
  refine ⟨.ref s.heap.objs.size, _, I.laid (t' := s.toks) (o := .lst (cutV xs lo hi)) (fun b ob q => Heap.get?_push_of_some _ q) (Nat.le_refl _) ?_, rfl, q _ (I.hok.fresh (Nat.le_refl _))⟩
  exact ⟨Nat.le_trans (cutV_length xs lo hi) hz, _, 0, (r.drop (HT.sIx xs.length 0 lo)).take (HT.sIx xs.length xs.length hi - HT.sIx xs.length 0 lo), Heap.get?_push_size _ rfl⟩

/-! ### in, not in: flat items -/

/-! ### len, list(x), tuple(x) of any list or tuple that is read -/
theorem call_len_seq : CallR X (.builtin "len") (fun xs H Q => ∃ p ys, xs = [.ref p] ∧ (SqL X.K H p ys ∨ SqT X.K H p ys) ∧ Q (.int ys.length) H) := by
  intro pins s σ H xs us Q I r h
  obtain ⟨p, ys, rfl, hq, q⟩ := h
  obtain ⟨u, rfl, rx⟩ := vals1 r
  cases rx
  have hn := line63
  rcases hq with hq | hq
  · obtain ⟨its, r', pl, hz⟩ := I.list hq
    have hlen := r'.length
    exact Calls.call_len_list pl.isList (by simp only [List.size_toArray] <;> omega) ⟨.int ys.length, H, I.tok _, ⟨s.toks + 1, by rw [List.size_toArray, hlen]⟩, q⟩
  · obtain ⟨its, r', pl, hz⟩ := I.tuple hq
    have hlen := r'.length
    exact len_tuple pl (by simp only [List.size_toArray] <;> omega) ⟨.int ys.length, H, I.tok _, ⟨s.toks + 1, by rw [List.size_toArray, hlen]⟩, q⟩

/-! ### the call of a builtin's method: o.m(..) -/
/-- the value is of that builtin type -/
def tyV (K : PySem.W.Frag) (T : String) (x : V) (H : Hp) : Prop := match x with
  | .str _ => T = "str"
  | .int _ => T = "int"
  | .ref p => (T = "list" ∧ ∃ xs, SqL K H p xs) ∨ (T = "tuple" ∧ ∃ o, K.lookup p = some o ∧ o.cls = .type "tuple" ∧ o.dict = none) ∨
      (T = "dict" ∧ ((∃ kvs, H p = some (.dK kvs)) ∨ ∃ kvs, H p = some (.dT kvs))) ∨ (T = "set" ∧ ∃ S n, H p = some (.set S n))
  | _ => False
theorem tyV_is {pins : List (Addr × Obj)} {σ : St} {H : Hp} {s : Shared} {T : String} {x : V} {v : Value} (I : Inv X pins σ H s) (r : RelV x v) (ty : tyV X.K T x H) :
    s.TypeIs v T ∧ ∀ a, v = .ref a → ∃ ob, s.heap.get? a = some ob ∧ ob.dict = none := by
  cases x with
  | str z =>
    obtain ⟨t, rfl⟩ := r
    cases (show T = "str" from ty)
    exact ⟨typeIs_str s z t, fun _ e => nomatch e⟩
  | int i =>
    obtain ⟨t, rfl⟩ := r
    cases (show T = "int" from ty)
    exact ⟨typeIs_int s i t, fun _ e => nomatch e⟩
  | ref p =>
    cases r
    rcases ty with ⟨rfl, xs, hq⟩ | ⟨rfl, o, hk, hc, hd⟩ | ⟨rfl, hk⟩ | ⟨rfl, S, n, hk⟩
    · obtain ⟨its, _, pl, _⟩ := I.list hq
      refine ⟨pl.isList.typeIs, fun a e => ?_⟩
      cases e
      obtain ⟨o, n, e, c, hd, _⟩ := pl
      exact ⟨o, e, hd⟩
    · refine ⟨⟨o, I.kIn p o hk, hc⟩, fun a e => ?_⟩
      cases e
      exact ⟨o, I.kIn _ o hk, hd⟩
    · have z : ∃ o, s.heap.get? p = some o ∧ o.ExactDict := by
        rcases hk with ⟨kvs, hk⟩ | ⟨kvs, hk⟩
        · obtain ⟨_, _, _, _, o, _, _, e, ex, _⟩ := I.hok p _ hk
          exact ⟨o, e, ex⟩
        · obtain ⟨_, _, _, _, o, _, _, e, ex, _⟩ := I.hok p _ hk
          exact ⟨o, e, ex⟩
      obtain ⟨o, e, ex⟩ := z
      refine ⟨⟨o, e, ex.1⟩, fun a e2 => ?_⟩
      cases e2
      exact ⟨o, e, ex.2.1⟩
    · obtain ⟨o, _, _, _, e, ex, _⟩ := I.hok p _ hk
      refine ⟨⟨o, e, ex.1⟩, fun a e2 => ?_⟩
      cases e2
      exact ⟨o, e, ex.2.1⟩
  | _ => exact False.elim ty
def tBM0 (K : PySem.W.Frag) (T : String) (r : V → List V → Hp → VK → Prop) (to : TE) : TE := fun σ H Q => to σ H fun x H1 => tyV K T x H1 ∧ r x [] H1 Q
def tBM (K : PySem.W.Frag) (T : String) (r : V → List V → Hp → VK → Prop) (to : TE) (t : TA) : TE := fun σ H Q => to σ H fun x H1 => tyV K T x H1 ∧ t σ H1 fun xs H2 => r x xs H2 Q
variable {o e : Expr} {es : List Expr} {to : TE} {t : TA} {name : Str} {apos cpos : Pos} {T id : String} {r : V → List V → Hp → VK → Prop}
theorem pe_bm0 (pa : PlainAttrs T) (slot : Slot T name id) (hty : typeOf (.builtin id) = pure (.type "method_descriptor")) (hm : MtR X id r) (ho : PE X o to)
    (hbase : attributeBase o name X.env (eval o X.env) = eval o X.env := by rfl) (hline : (apos.endLine == cpos.line) = true := by rfl) : PE X (.Call (.Attribute o name apos) [] [] cpos) (tBM0 X.K T r to) := by
  intro pins s σ H Q I h
  refine wpAny_Call_method0_late hbase hline (thn (ho pins s σ H _ I h) fun v s1 ⟨x, H1, I1, r1, ty, q1⟩ => ?_)
  obtain ⟨h1, h2⟩ := tyV_is I1 r1 ty
  exact ⟨T, id, pa, slot, hty, h1, h2, Calls.callWith_builtin rfl (PySem.evalArgs_none (hm pins s1 σ H1 x [] v [] Q I1 r1 .nil q1))⟩
theorem pe_bm (pa : PlainAttrs T) (slot : Slot T name id) (hty : typeOf (.builtin id) = pure (.type "method_descriptor")) (hm : MtR X id r) (ho : PE X o to) (ha : PA X (e :: es) t)
    (hbase : attributeBase o name X.env (eval o X.env) = eval o X.env := by rfl)
    (hfew : ((backTo cpos (starEach (e :: es) X.env)).all (fun x => !x.1) && (backToKw cpos (keywordEach [] X.env)).all (fun x => x.1.isSome)
      && decide ((e :: es).length + ([] : List Keyword).length + (if ([] : List Keyword).isEmpty then 0 else 1) < 30)) = true := by rfl)
    (hline : (apos.endLine == cpos.line) = true := by rfl) (hs : starEach (e :: es) X.env = (false, eval e X.env) :: starEach es X.env := by rfl) (hplain : (backTo cpos (starEach es X.env)).any (·.1) = false := by rfl) :
    PE X (.Call (.Attribute o name apos) (e :: es) [] cpos) (tBM X.K T r to t) := by
  intro pins s σ H Q I h
  refine wpAny_Call_method_late hbase hfew hline rfl (thn (ho pins s σ H _ I h) fun v s1 ⟨x, H1, I1, r1, ty, q1⟩ => ?_)
  obtain ⟨h1, h2⟩ := tyV_is I1 r1 ty
  refine ⟨T, id, pa, slot, hty, h1, h2, ?_⟩
  have hA := ha cpos pins s1 σ H1 _ I1 q1
  rw [hs] at hA ⊢
  refine Calls.callWith_builtin (by show (false || (backTo cpos (starEach es X.env)).any (·.1)) = false; rw [hplain] <;> rfl) (Calls.evalArgs_plain ?_)
  exact thn hA fun us s2 ⟨vs, H2, I2, r2, q2⟩ => hm pins s2 σ H2 x vs v us Q I2 r1 r2 q2
/- xs.append(e), list.index on a module's tuple .. are MtR facts of 06m -/
end
end L2

namespace L2
open PySem PySem.Spec PyProof.Rows

def MtM (X : Cx) (id : String) (r : V → List V → Hp → VK → Prop) : Prop :=
  ∀ (pins : List (Addr × Obj)) (s : Shared) (σ : St) (H : Hp) (x : V) (xs : List V) (v : Value) (us : List Value) (Q : VK), Inv X pins σ H s → RelV x v → Vals xs us → r x xs H Q →
    wpAny (model X.prog X.w) X.A (call (.builtin id) (v :: us)) (EP X pins σ Q) X.xe s

/-! ### lists of values -/
theorem Vals.one : ∀ {x : V} {us : List Value}, Vals [x] us → ∃ u, us = [u] ∧ RelV x u
  | _, _, .cons r .nil => ⟨_, rfl, r⟩
theorem Vals.zero : ∀ {us : List Value}, Vals [] us → us = []
  | _, .nil => rfl
theorem Vals.dropLast {xs : List V} {us : List Value} (h : Vals xs us) : Vals xs.dropLast us.dropLast := by
  induction h with
  | nil => exact .nil
  | cons r t ih =>
    cases t with
    | nil => exact .nil
    | cons q t' => exact .cons r ih
theorem erase_last {α : Type} (l : List α) : l.eraseIdx (l.length - 1) = l.dropLast := by
  induction l with
  | nil => rfl
  | cons a r ih =>
    cases r with
    | nil => rfl
    | cons b r =>
      have e : (a :: b :: r).length - 1 = ((b :: r).length - 1) + 1 := by
        have h1 : (a :: b :: r).length = r.length + 2 := rfl
        have h2 : (b :: r).length = r.length + 1 := rfl
        omega
      rw [e, List.eraseIdx_cons_succ, ih]
      all_goals rfl

section
variable {X : Cx} {pins : List (Addr × Obj)} {σ : St} {H : Hp} {s : Shared} {l b : Addr} {xs ys zs : List V}

/-! ### the two steps: a tracked list is rewritten, a new list is laid -/
theorem Inv.lset {its its' : List Value} {n : Nat} {f : Array Value → Array Value} {t' : Nat} (I : Inv X pins σ H s) (hH : H l = some (.lst xs))
    (e : s.heap.get? l = some { cls := .type "list", data := .seq its.toArray n }) (hf : f its.toArray = its'.toArray) (hv : Vals ys its') (hz : ys.length ≤ sizeLine) :
    Inv X pins σ (upd H l (.lst ys)) { s with heap := s.heap.update l (Obj.mapSeq f), toks := t' } := by
  have q := PySem.IsL.update e f
  rw [hf] at q
  refine I.write (x := l) (e := l) (by rw [hH]; exact trivial) (.inl rfl) (fun b' u hb hu => (Heap.get?_update_other s.heap (Obj.mapSeq f) (Ne.symm hb)).trans hu) ⟨_, q⟩ ?_
  exact ⟨hz, its', _, hv, q⟩
theorem Inv.lstM (I : Inv X pins σ H s) (hH : H l = some (.lst xs)) : xs.length ≤ sizeLine ∧ ∃ (its : List Value) (n : Nat), Vals xs its ∧ xs.length = its.length ∧ s.heap.get? l = some { cls := .type "list", data := .seq its.toArray n } := by
  obtain ⟨z, its, n, r, e⟩ := I.hok l _ hH
  exact ⟨z, its, n, r, r.length, e⟩

end

section
variable {X : Cx}

/-! ### methods -/
def rAppend : V → List V → Hp → VK → Prop := fun x vs H Q => ∃ l xs y, x = .ref l ∧ vs = [y] ∧ H l = some (.lst xs) ∧ xs.length < sizeLine ∧ Q .non (upd H l (.lst (xs ++ [y])))
theorem mt_append : MtM X "list.append" rAppend := by
  intro pins s σ H x vs v us Q I rx rv h
  obtain ⟨l, xs, y, rfl, rfl, hH, hz, q⟩ := h
  cases rx
  obtain ⟨u, rfl, ru⟩ := rv.one
  obtain ⟨z, its, n, r, hl, e⟩ := I.lstM hH
  refine call_meets F.slot_list_append ⟨_, e, rfl⟩ F.entry_list_append (F.args_list_append_2 _ _) (PySem.list_append l its.toArray n u (by rw [List.size_toArray]; omega)) ⟨e, ?_⟩
  refine ⟨.non, _, I.lset (its' := its ++ [u]) hH e (by simp) (r.append (.cons ru .nil)) ?_, rfl, q⟩
  rw [List.length_append, List.length_singleton]
  omega

def rPop : V → List V → Hp → VK → Prop := fun x vs H Q => ∃ l xs y, x = .ref l ∧ vs = [] ∧ H l = some (.lst xs) ∧ xs[xs.length - 1]? = some y ∧ Q y (upd H l (.lst xs.dropLast))
theorem mt_pop : MtM X "list.pop" rPop := by
  intro pins s σ H x vs v us Q I rx rv h
  obtain ⟨l, xs, y, rfl, rfl, hH, hy, q⟩ := h
  cases rx
  have hus := rv.zero
  subst hus
  obtain ⟨z, its, n, r, hl, e⟩ := I.lstM hH
  obtain ⟨u, hu, ru⟩ := r.get hy
  have hy' : its.toArray[its.toArray.size - 1]? = some u := by
    show its.toArray[its.length - 1]? = some u
    rw [← Array.getElem?_toList, ← hl]
    exact hu
  refine call_meets F.slot_list_pop ⟨_, e, rfl⟩ F.entry_list_pop (F.args_list_pop_1 _) (MeetsSeq.list_pop_last l its.toArray n u hy' (by rw [List.size_toArray]; omega)) ⟨e, ?_⟩
  refine ⟨y, _, I.lset (its' := its.dropLast) hH e ?_ r.dropLast ?_, ru, q⟩
  · show its.toArray.eraseIdxIfInBounds (its.toArray.size - 1) = its.dropLast.toArray
    rw [List.size_toArray, List.eraseIdxIfInBounds_toArray, erase_last]
  · rw [List.length_dropLast]
    omega

/-! ### list + list, list += list, list * int -/

/-! ### del xs[i] -/
end

/-! ### xs[a:b] = ys -/
section
variable {prog : Program} {w : World} {A : Around} {E : Value → Shared → Prop} {s : Shared}
set_option maxRecDepth 100000 in
end

end L2

namespace L2
open PySem PySem.Spec PyProof.Rows

theorem Vals.ints : ∀ {ns : List Int} {us : List Value}, Vals (ns.map V.int) us → IntsAre us ns
  | [], us, h => by
    rw [List.map_nil] at h
    cases h
    exact IntsAre.nil
  | n :: ns, us, h => by
    rw [List.map_cons] at h
    cases h with
    | cons r t =>
      obtain ⟨k, rfl⟩ := r
      exact IntsAre.cons n k (Vals.ints t)
theorem Vals.ref1 {a : Addr} {us : List Value} (r : Vals [V.ref a] us) : us = [Value.ref a] := by
  cases r with
  | cons r t =>
    cases t
    cases r
    rfl

/-! ### the library's walks over a list of ints, kept objects alone -/
section
variable {prog : Program} {w : World} {A : Around} {E : Value → Shared → Prop} {s : Shared} {l : Addr} {its : List Value} {ns : List Int} {Q : Value → Shared → Prop}
theorem sum_raw (hh : A.handled = none) (hl : s.heap.IsList l its.toArray) (hi : IntsAre its ns)
    (h : ∀ h' tk t', (∀ b o, s.heap.get? b = some o → h'.get? b = some o) → Q (.int ns.sum t') { s with heap := h', toks := tk }) : wpAny (model prog w) A (call (.builtin "sum") [.ref l]) Q E s := by
  obtain ⟨xs, e⟩ := hi.allInts.items
  have hn : numsOf (intItems xs).toList = ns := by rw [← e]; exact hi.numsOf
  rw [nums_intItems] at hn
  rw [e] at hl
  refine PySem.sum_intListG hh hl fun h' tk t' hk => ?_
  have := h h' tk t' hk
  rw [preSum_eq, List.take_of_length_le (by simp), hn]; exact this
theorem min_raw (hh : A.handled = none) (hl : s.heap.IsList l its.toArray) (hi : IntsAre its ns) (hne : 0 < ns.length)
    (h : ∀ h' tk M t', (∀ b o, s.heap.get? b = some o → h'.get? b = some o) → M ∈ ns → (∀ a, a ∈ ns → M ≤ a) → Q (.int M t') { s with heap := h', toks := tk }) : wpAny (model prog w) A (call (.builtin "min") [.ref l]) Q E s := by
  obtain ⟨xs, e⟩ := hi.allInts.items
  have hn : numsOf (intItems xs).toList = ns := by rw [← e]; exact hi.numsOf
  rw [nums_intItems] at hn
  subst hn
  rw [e] at hl
  have hsz : 0 < xs.size := by simpa using hne
  refine PySem.min_intList hh hl hsz fun v h' tk hv hk => ?_
  obtain ⟨t, rfl⟩ := intItems_at hv
  obtain ⟨h1, h2⟩ := argBest_lt (numAt xs) (xs.size - 1)
  refine h h' tk _ t hk ?_ fun a ha => ?_
  · rw [numAt_eq]; exact PySem.getD_mem (by rw [List.length_map, Array.length_toList]; omega)
  · obtain ⟨j, hj, rfl⟩ := mem_getD ha
    rw [List.length_map, Array.length_toList] at hj
    rw [← numAt_eq]; exact h2 j (by omega)
end

/-! ### the calls, by values (CallR of 03t; MtR of 06l) -/
section
variable {X : Cx}
/-- sum(xs) of a list of ints -/
def rSum (K : PySem.W.Frag) : List V → Hp → VK → Prop := fun vs H Q => ∃ (a : Addr) (ns : List Int), vs = [V.ref a] ∧ SqL K H a (ns.map V.int) ∧ Q (.int ns.sum) H
def rMin (K : PySem.W.Frag) : List V → Hp → VK → Prop := fun vs H Q => ∃ (a : Addr) (ns : List Int), vs = [V.ref a] ∧ SqL K H a (ns.map V.int) ∧ 0 < ns.length ∧ ∀ m, m ∈ ns → (∀ y, y ∈ ns → m ≤ y) → Q (.int m) H
theorem cr_sum (hc : X.calm = true) : CallR X (.builtin "sum") (rSum X.K) := by
  intro pins s σ H vs us Q I r h
  obtain ⟨a, ns, rfl, hs, q⟩ := h
  obtain ⟨its, rv, hl, _⟩ := I.list hs
  rw [Vals.ref1 r]
  exact sum_raw (I.ok.hd hc) hl.isList rv.ints fun h' tk t' hk => ⟨.int _, H, I.kept hk, ⟨_, rfl⟩, q⟩
theorem cr_min (hc : X.calm = true) : CallR X (.builtin "min") (rMin X.K) := by
  intro pins s σ H vs us Q I r h
  obtain ⟨a, ns, rfl, hs, hne, q⟩ := h
  obtain ⟨its, rv, hl, _⟩ := I.list hs
  rw [Vals.ref1 r]
  exact min_raw (I.ok.hd hc) hl.isList rv.ints hne fun h' tk m t' hk h1 h2 => ⟨.int _, H, I.kept hk, ⟨_, rfl⟩, q m h1 h2⟩

/-! sorted, sort (fewer than 64 items: the library's own bound) -/
end

/-! ### list.index, flat items -/

/-! ### type(x) of an own instance; is, is not of a module's class -/

/-! ### any(xs), all(xs) of a list of bools -/

/-! ### == and != of data at any depth: none, bools, ints, texts, lists, tuples -/
end L2

namespace L2
open PySem PySem.Spec PyProof.Rows
abbrev CellAt (h : Heap) (c : Addr) (v : Option Value) : Prop := h.IsCell c v
def relS (scope sc : Scope) : Scope :=
  { scope with names := scope.names.map fun (n, k) => if (k == .free && sc.kind == .function && sc.names.lookup n == some .cell) then (n, .cell) else (n, k) }

def cloFrom (cells : List (Str × Addr)) : List (Str × NameKind) → List (Str × Addr) → List (Str × Addr)
  | [], acc => acc
  | (n, k) :: r, acc => if k == .free then cloFrom cells r ((n, (cells.lookup n).getD 0) :: acc) else cloFrom cells r acc

theorem closure_loop (env : Env) (f : Str × NameKind → List (Str × Addr) → Sem (ForInStep (List (Str × Addr))))
    (hf : ∀ n k c, f (n, k) c = if k == .free then (do let a ← cellOf env n; pure (.yield ((n, a) :: c))) else pure (.yield c)) :
    ∀ (names : List (Str × NameKind)) (acc : List (Str × Addr)), (∀ y ∈ names, y.2 = .free → ∃ c, env.cells.lookup y.1 = some c) → forIn names acc f = pure (cloFrom env.cells names acc)
  | [], acc, _ => by rw [List.forIn_nil]; rfl
  | (n, k) :: r, acc, h => by
    rw [List.forIn_cons, hf]
    have ih := fun acc => closure_loop env f hf r acc fun y hy => h y (List.mem_cons_of_mem _ hy)
    unfold cloFrom
    by_cases hk : (k == NameKind.free) = true
    · rw [if_pos hk, if_pos hk]
      obtain ⟨c, hc⟩ := h (n, k) List.mem_cons_self (by simpa using hk)
      have e : cellOf env n = pure c := by unfold cellOf; rw [hc]
      rw [e]
      have e2 : (env.cells.lookup n).getD 0 = c := by rw [hc]; rfl
      rw [e2]
      exact ih _
    · rw [if_neg hk, if_neg hk]
      exact ih _
theorem closure_ok {scope : Scope} {env : Env} (h : ∀ y ∈ scope.names, y.2 = .free → ∃ c, env.cells.lookup y.1 = some c) : closureFor scope env = pure (cloFrom env.cells scope.names []) := by
  simp only [closureFor]
  rw [closure_loop env _ (fun n k c => rfl) scope.names [] h]
  rfl

theorem mem_lookup {α : Type} : ∀ {l : List (Str × α)} {n : Str} {c : α}, (n, c) ∈ l → ∃ c', l.lookup n = some c'
  | (k, v) :: r, n, c, h => by
    rw [List.lookup_cons]
    cases hb : n == k with
    | true => exact ⟨_, rfl⟩
    | false =>
      rcases List.mem_cons.mp h with e | h
      · cases e; simp at hb
      · exact mem_lookup h

theorem cloFrom_mem {cells : List (Str × Addr)} : ∀ {names : List (Str × NameKind)} {acc : List (Str × Addr)} {n : Str} {c : Addr}, (n, c) ∈ cloFrom cells names acc → (n, c) ∈ acc ∨ ((n, .free) ∈ names ∧ c = (cells.lookup n).getD 0)
  | [], _, _, _, h => .inl h
  | (m, k) :: r, acc, n, c, h => by
    unfold cloFrom at h
    split at h
    · rename_i hk
      have hk : k = .free := by simpa using hk
      rcases cloFrom_mem h with h | ⟨h1, h2⟩
      · rcases List.mem_cons.mp h with e | h
        · cases e; exact .inr ⟨hk ▸ List.mem_cons_self, rfl⟩
        · exact .inl h
      · exact .inr ⟨List.mem_cons_of_mem _ h1, h2⟩
    · rcases cloFrom_mem h with h | ⟨h1, h2⟩
      · exact .inl h
      · exact .inr ⟨List.mem_cons_of_mem _ h1, h2⟩
theorem cloFrom_acc {cells : List (Str × Addr)} : ∀ {names : List (Str × NameKind)} {acc : List (Str × Addr)} {p : Str × Addr}, p ∈ acc → p ∈ cloFrom cells names acc
  | [], _, _, h => h
  | (m, k) :: r, acc, p, h => by
    unfold cloFrom
    split
    · exact cloFrom_acc (List.mem_cons_of_mem _ h)
    · exact cloFrom_acc h
theorem cloFrom_has {cells : List (Str × Addr)} : ∀ {names : List (Str × NameKind)} {acc : List (Str × Addr)} {n : Str}, (n, .free) ∈ names → (n, (cells.lookup n).getD 0) ∈ cloFrom cells names acc
  | (m, k) :: r, acc, n, h => by
    unfold cloFrom
    rcases List.mem_cons.mp h with e | h
    · cases e
      exact cloFrom_acc List.mem_cons_self
    · split
      · exact cloFrom_has h
      · exact cloFrom_has h

theorem cells_mem : ∀ {names : List (Str × NameKind)} {h : Heap} {acc : List (Str × Addr)} {x : Str} {c : Addr}, (x, c) ∈ cellsFrom h.objs.size names acc →
    (x, c) ∈ acc ∨ ((x, .cell) ∈ names ∧ h.objs.size ≤ c ∧ CellAt (pushCells h names) c none)
  | [], _, _, _, _, h => .inl h
  | (n, k) :: r, h, acc, x, c, hm => by
    unfold cellsFrom at hm
    unfold pushCells
    split at hm
    · rename_i hk
      rw [if_pos hk]
      have hk : k = .cell := by simpa using hk
      rw [← Heap.size_push h { cls := .type "cell", data := .cell none }] at hm
      rcases cells_mem hm with hm | ⟨h1, h2, h3⟩
      · rcases List.mem_cons.mp hm with e | hm
        · cases e
          exact .inr ⟨hk ▸ List.mem_cons_self, Nat.le_refl _, _, pushCells_keeps r _ _ _ (Heap.get?_push_size _ rfl), rfl⟩
        · exact .inl hm
      · rw [Heap.size_push] at h2
        exact .inr ⟨List.mem_cons_of_mem _ h1, Nat.le_of_succ_le h2, h3⟩
    · rename_i hk
      rw [if_neg hk]
      rcases cells_mem hm with hm | ⟨h1, h2, h3⟩
      · exact .inl hm
      · exact .inr ⟨List.mem_cons_of_mem _ h1, h2, h3⟩
theorem cells_acc : ∀ {names : List (Str × NameKind)} {n : Nat} {acc : List (Str × Addr)} {p : Str × Addr}, p ∈ acc → p ∈ cellsFrom n names acc
  | [], _, _, _, h => h
  | (m, k) :: r, n, acc, p, h => by
    unfold cellsFrom
    split
    · exact cells_acc (List.mem_cons_of_mem _ h)
    · exact cells_acc h
theorem cells_has : ∀ {names : List (Str × NameKind)} {n : Nat} {acc : List (Str × Addr)} {x : Str}, (x, .cell) ∈ names → ∃ c, (x, c) ∈ cellsFrom n names acc
  | (m, k) :: r, n, acc, x, h => by
    unfold cellsFrom
    rcases List.mem_cons.mp h with e | h
    · cases e
      exact ⟨n, cells_acc List.mem_cons_self⟩
    · split
      · exact cells_has h
      · exact cells_has h
theorem cells_inj : ∀ {names : List (Str × NameKind)} {h : Heap} {acc : List (Str × Addr)} {x y : Str} {c : Addr}, (∀ p ∈ acc, p.2 < h.objs.size) → (∀ x y c, (x, c) ∈ acc → (y, c) ∈ acc → x = y) →
    (x, c) ∈ cellsFrom h.objs.size names acc → (y, c) ∈ cellsFrom h.objs.size names acc → x = y
  | [], _, _, _, _, _, _, hi, h1, h2 => hi _ _ _ h1 h2
  | (n, k) :: r, h, acc, x, y, c, hl, hi, h1, h2 => by
    unfold cellsFrom at h1 h2
    split at h1
    · rename_i hk
      rw [if_pos hk] at h2
      rw [← Heap.size_push h { cls := .type "cell", data := .cell none }] at h1 h2
      refine cells_inj (h := h.push _) (fun p hp => ?_) (fun x y c a b => ?_) h1 h2
      · rw [Heap.size_push]
        rcases List.mem_cons.mp hp with rfl | hp
        · exact Nat.lt_succ_self _
        · exact Nat.lt_succ_of_lt (hl p hp)
      · rcases List.mem_cons.mp a with e | a <;> rcases List.mem_cons.mp b with e' | b
        · cases e; cases e'; rfl
        · cases e; exact absurd (hl _ b) (Nat.lt_irrefl _)
        · cases e'; exact absurd (hl _ a) (Nat.lt_irrefl _)
        · exact hi _ _ _ a b
    · rename_i hk
      rw [if_neg hk] at h2
      exact cells_inj hl hi h1 h2

theorem newEnv_comp {M : Model} {A : Around} {E : Value → Shared → Prop} {s : Shared} {scope : Scope} {globals : Addr} {closure : List (Str × Addr)} {qual : Str} {func : Option Addr} {code : Value} {around : Env} {builtins : Addr} {Q : Env → Shared → Prop}
    (h : Q (newEnv scope s.heap.objs.size globals (cellsFrom (s.heap.objs.size + 1) scope.names closure) qual func code (some around) builtins)
      { s with heap := pushCells (s.heap.push { cls := .type "dict", data := .dict #[] }) scope.names }) :
    wpAny M A (newFunctionEnv scope globals closure [] qual func code (some around) builtins) Q E s := by
  simp only [newFunctionEnv, Option.isSome_some, if_true]
  refine wpAny_bind (wpAny_alloc ?_)
  refine wpAny_bind (wpAny_layCells _ (fun n k c => rfl) scope.names closure _ _ ?_)
  rw [show ({ s with heap := s.heap.push { cls := .type "dict", data := .dict #[] } } : Shared).heap.objs.size = s.heap.objs.size + 1 from Heap.size_push ..]
  rw [List.forIn_nil]
  exact wpAny_bind (wpAny_pure (wpAny_pure h))

/-- every name of the written scope, in the scope that runs -/
theorem lookup_relS {sc : Scope} : ∀ {names : List (Str × NameKind)} {x : Str} {k : NameKind},
    (names.map fun (n, k) => if (k == NameKind.free && sc.kind == .function && sc.names.lookup n == some .cell) then (n, NameKind.cell) else (n, k)).lookup x = some k →
    ∃ k', names.lookup x = some k' ∧ (k = k' ∨ (k' = .free ∧ k = .cell))
  | [], _, _, h => by simp at h
  | (n, k₀) :: r, x, k, h => by
    have ih := @lookup_relS sc r x k
    have h' : List.lookup x ((if (k₀ == NameKind.free && sc.kind == .function && sc.names.lookup n == some .cell) = true then (n, NameKind.cell) else (n, k₀)) :: (r.map _)) = some k := h
    cases hx : x == n with
    | true =>
      simp only [List.lookup_cons, hx]
      by_cases hc : (k₀ == NameKind.free && sc.kind == .function && sc.names.lookup n == some .cell) = true
      · rw [if_pos hc] at h'
        simp only [List.lookup_cons, hx] at h'
        cases h'
        simp only [Bool.and_eq_true, beq_iff_eq] at hc
        exact ⟨k₀, rfl, .inr ⟨hc.1.1, rfl⟩⟩
      · rw [if_neg hc] at h'
        simp only [List.lookup_cons, hx] at h'
        cases h'
        exact ⟨_, rfl, .inl rfl⟩
    | false =>
      simp only [List.lookup_cons, hx]
      by_cases hc : (k₀ == NameKind.free && sc.kind == .function && sc.names.lookup n == some .cell) = true
      · rw [if_pos hc] at h'
        simp only [List.lookup_cons, hx] at h'
        exact ih h'
      · rw [if_neg hc] at h'
        simp only [List.lookup_cons, hx] at h'
        exact ih h'

/-- the names of a comprehension's block: its own (with their places in N), or captured -/
structure BlkOk (N : List Str) (sc scope : Scope) (own : List (Str × Nat)) : Prop where
  kind : scope.kind = .function
  uniq : ∀ y ∈ scope.names, scope.names.lookup y.1 = some y.2
  ix : ∀ p ∈ own, N[p.2]? = some p.1
  free : ∀ y ∈ scope.names, y.2 = .free → sc.names.lookup y.1 = some .cell ∨ sc.names.lookup y.1 = some .free
  own : ∀ y ∈ scope.names, y.2 = .local ∨ y.2 = .cell → y.1 ∈ own.map (·.1) ∨ y.1 ∉ N
/-- the slots of the block's own names forgotten -/
def wipe (σ : St) : List Nat → St
  | [] => σ
  | v :: vs => (wipe σ vs).set v none
theorem wipe_length (σ : St) : ∀ vs : List Nat, (wipe σ vs).length = σ.length
  | [] => rfl
  | v :: vs => by unfold wipe; rw [List.length_set, wipe_length σ vs]
theorem wipe_some {σ : St} {i : Nat} {x : V} : ∀ {vs : List Nat}, (wipe σ vs)[i]? = some (some x) → σ[i]? = some (some x) ∧ i ∉ vs
  | [], h => ⟨h, by simp⟩
  | v :: vs, h => by
    unfold wipe at h
    by_cases hi : v = i
    · subst hi
      by_cases hv : v < (wipe σ vs).length
      · rw [List.getElem?_set_self hv] at h; cases h
      · rw [List.getElem?_eq_none (by simpa using hv)] at h; cases h
    · rw [List.getElem?_set_ne hi] at h
      obtain ⟨h1, h2⟩ := wipe_some h
      exact ⟨h1, by simp only [List.mem_cons, not_or]; exact ⟨fun e => hi e.symm, h2⟩⟩

/-- the context of a block that starts at s, its iterator's objects at fp -/
abbrev Cx.blk (X : Cx) (s : Shared) (H : Hp) (scope : Scope) (cenv : Env) (fp : List Addr) : Cx := { X with s_0 := s, H_0 := H, env := cenv, outer := X.stack, ex := fp, fn := fun x => scope.names.lookup x == some .cell, pn := [], xe := fun _ _ => False }
section
variable {X : Cx} {pins : List (Addr × Obj)} {σ : St} {H : Hp} {s : Shared}
theorem block_start {scope : Scope} {own : List (Str × Nat)} {fp : List Addr} (I : Inv X pins σ H s) (ok : BlkOk X.N X.env.scope scope own) (hN : X.N.Nodup) (hfp : ∀ b ∈ fp, FpOk X pins H b ∧ b < s.heap.objs.size) :
    Inv (X.blk s H scope (compEnvC scope (cellsFrom (s.heap.objs.size + 1) scope.names (cloFrom X.env.cells scope.names [])) s.heap.objs.size X.env) fp) [] (wipe σ (own.map (·.2))) H { s with heap := pushCells (s.heap.push { cls := .type "dict", data := .dict #[] }) scope.names } := by
  have hfree : ∀ y ∈ scope.names, y.2 = .free → ∃ c, X.env.cells.lookup y.1 = some c := fun y hy e => by
    rcases ok.free y hy e with k | k
    · exact I.ok.has _ (.inl k)
    · exact I.ok.has _ (.inr k)
  generalize hcenv : compEnvC scope (cellsFrom (s.heap.objs.size + 1) scope.names (cloFrom X.env.cells scope.names [])) s.heap.objs.size X.env = cenv
  have kp : ∀ b o, s.heap.get? b = some o → (pushCells (s.heap.push { cls := .type "dict", data := .dict #[] }) scope.names).get? b = some o := fun b o e => pushCells_keeps _ _ _ _ (Heap.get?_push_of_some _ e)
  have hL : cenv.locals = s.heap.objs.size := by rw [← hcenv]; rfl
  have hcl : cenv.cells = cellsFrom (s.heap.objs.size + 1) scope.names (cloFrom X.env.cells scope.names []) := by rw [← hcenv]; rfl
  have hsc : cenv.scope = relS scope X.env.scope := by rw [← hcenv]; rfl
  rw [← Heap.size_push s.heap { cls := .type "dict", data := .dict #[] }] at hcl
  have cm : ∀ {y c}, (y, c) ∈ cloFrom X.env.cells scope.names [] → X.env.cells.lookup y = some c ∧ c < s.heap.objs.size := fun {y c} hm => by
    rcases cloFrom_mem hm with hm | ⟨h1, rfl⟩
    · cases hm
    · obtain ⟨c, hc⟩ := hfree _ h1 rfl
      rw [hc]
      obtain ⟨w, z⟩ := I.cell _ _ hc
      exact ⟨rfl, z.lt⟩
  have mem : ∀ {y c}, cenv.cells.lookup y = some c → (X.env.cells.lookup y = some c ∧ c < s.heap.objs.size) ∨ (s.heap.objs.size + 1 ≤ c ∧ CellAt (pushCells (s.heap.push { cls := .type "dict", data := .dict #[] }) scope.names) c none) := fun {y c} e => by
    rw [hcl] at e
    rcases cells_mem (PySem.mem_of_lookup e) with hm | ⟨_, h2, h3⟩
    · exact .inl (cm hm)
    · rw [Heap.size_push] at h2; exact .inr ⟨h2, h3⟩
  have look : ∀ {y}, scope.names.lookup y = some .free → ∃ c, cenv.cells.lookup y = some c ∧ X.env.cells.lookup y = some c := fun {y} hl => by
    have hy : (y, NameKind.free) ∈ scope.names := PySem.mem_of_lookup hl
    obtain ⟨c', e'⟩ := mem_lookup (cells_acc (names := scope.names) (n := (s.heap.push { cls := .type "dict", data := .dict #[] }).objs.size) (cloFrom_has (cells := X.env.cells) (acc := []) hy))
    rw [← hcl] at e'
    refine ⟨c', e', ?_⟩
    rw [hcl] at e'
    rcases cells_mem (PySem.mem_of_lookup e') with hm | ⟨h1, _, _⟩
    · exact (cm hm).1
    · have := ok.uniq _ h1
      rw [hl] at this; cases this
  have okB : (X.blk s H scope cenv fp).Ok := by
    refine ⟨I.ok.mod, by show cenv.scope.kind = _; rw [hsc]; exact ok.kind, by show cenv.globals = _; rw [← hcenv]; exact I.ok.glob, by show cenv.builtins = _; rw [← hcenv]; exact I.ok.blt, by show s.heap.objs.size ≤ cenv.locals; rw [hL]; exact Nat.le_refl _,
      fun y z c e1 e2 => ?_, fun y hy => ?_, fun y c z e => ?_, I.ok.hd, I.ok.frames, .inl rfl, fun b hb => ⟨?_, fun y c e z => ?_⟩, I.bs, Nat.le_trans I.ok.bsz I.sz, fun b o e hb => ?_, fun b hb z => ?_, I.stack, I.stkFree⟩
    · have e1 : cenv.cells.lookup y = some c := e1
      have e2 : cenv.cells.lookup z = some c := e2
      rw [hcl] at e1 e2
      refine cells_inj (fun p hp => ?_) (fun y z c a b => I.ok.inj y z c (cm a).1 (cm b).1) (PySem.mem_of_lookup e1) (PySem.mem_of_lookup e2)
      rw [Heap.size_push]
      exact Nat.lt_succ_of_lt (cm (y := p.1) (c := p.2) hp).2
    · show ∃ c, cenv.cells.lookup y = some c
      have key : ∀ k, cenv.kindOf y = some k → (k = .cell ∨ k = .free) → ∃ c, cenv.cells.lookup y = some c := fun k hk hk' => by
        unfold Env.kindOf at hk
        rw [hsc] at hk
        obtain ⟨k', e, r⟩ := lookup_relS hk
        have : k' = .cell ∨ k' = .free := by
          rcases r with rfl | ⟨rfl, _⟩
          · exact hk'
          · exact .inr rfl
        rcases this with rfl | rfl
        · obtain ⟨c, hm⟩ := cells_has (n := (s.heap.push { cls := .type "dict", data := .dict #[] }).objs.size) (acc := cloFrom X.env.cells scope.names []) (PySem.mem_of_lookup e)
          obtain ⟨c', e'⟩ := mem_lookup hm
          exact ⟨c', by rw [hcl]; exact e'⟩
        · obtain ⟨c, h1, _⟩ := look e
          exact ⟨c, h1⟩
      rcases hy with hy | hy
      · exact key _ hy (.inl rfl)
      · exact key _ hy (.inr rfl)
    · have z : (scope.names.lookup y == some NameKind.cell) = true := z
      have z : scope.names.lookup y = some .cell := by simpa using z
      have e : cenv.cells.lookup y = some c := e
      rw [hcl] at e
      rcases cells_mem (PySem.mem_of_lookup e) with hm | ⟨_, h2, _⟩
      · rcases cloFrom_mem hm with hm | ⟨h1, _⟩
        · cases hm
        · have q := ok.uniq _ h1
          rw [z] at q; cases q
      · rw [Heap.size_push] at h2
        exact Nat.le_of_succ_le h2
    · show b ≠ cenv.locals
      rw [hL]; exact Nat.ne_of_lt (hfp b hb).2
    · have e : cenv.cells.lookup y = some c := e
      rcases mem e with ⟨h1, _⟩ | ⟨h1, _⟩
      · exact (hfp b hb).1.2.2.2.2.1 y c h1 z
      · have h2 : s.heap.objs.size + 1 ≤ b := by rw [← z]; exact h1
        exact absurd (Nat.lt_of_lt_of_le (hfp b hb).2 (Nat.le_of_succ_le h2)) (Nat.lt_irrefl _)
    · rcases (hfp b hb).1.2.2.2.1 with z | z
      · exact I.ok.noex b o e z
      · exact absurd (Nat.lt_of_lt_of_le (Heap.lt_size e) (Nat.le_trans I.ok.bsz z)) (Nat.lt_irrefl _)
    · rcases List.mem_cons.mp (I.stkSub b z) with z | z
      · exact (hfp b hb).1.2.1 z
      · exact (hfp b hb).1.2.2.1 z
  refine ⟨okB, rfl, I.bare, Un.kept kp, ⟨fun _ => none, ?_, fun i y av e1 e2 e3 => ?_⟩, fun y c e => ?_, ?_, fun y c e => ?_, fun p hp => ?_, I.hok.kept kp, by rw [wipe_length]; exact I.len⟩
  · show Heap.Ns _ cenv.locals _
    rw [hL]
    exact Heap.Ns.keeps (Heap.Ns.new ..) fun b o e => pushCells_keeps _ _ _ _ e
  · obtain ⟨e2, hne⟩ := wipe_some e2
    have hfr : scope.names.lookup y = some .free ∧ (cenv.kindOf y = some .cell ∨ cenv.kindOf y = some .free) := by
      have key : ∀ k, cenv.scope.names.lookup y = some k → k = .local ∨ k = .cell ∨ k = .free → scope.names.lookup y = some .free ∧ (cenv.kindOf y = some .cell ∨ cenv.kindOf y = some .free) := fun k hk hk' => by
        have hk0 := hk
        rw [hsc] at hk
        obtain ⟨k', e, r⟩ := lookup_relS hk
        have no : ¬ (k' = .local ∨ k' = .cell) := fun hh => by
          rcases ok.own _ (PySem.mem_of_lookup e) hh with e' | e'
          · obtain ⟨p, hp, hpy⟩ := List.mem_map.mp e'
            have e3 := ok.ix p hp
            have : p.1 = y := hpy
            rw [this] at e3
            exact hne (List.mem_map.mpr ⟨p, hp, nodup_ix hN e3 e1⟩)
          · exact e' (List.mem_of_getElem? e1)
        rcases r with rfl | ⟨rfl, rfl⟩
        · rcases hk' with rfl | rfl | rfl
          · exact absurd (.inl rfl) no
          · exact absurd (.inr rfl) no
          · exact ⟨e, .inr hk0⟩
        · exact ⟨e, .inl hk0⟩
      have e3 : Vis cenv.scope y := e3
      rcases e3 with e3 | e3 | e3
      · exact key _ e3 (.inl rfl)
      · exact key _ e3 (.inr (.inl rfl))
      · exact key _ e3 (.inr (.inr rfl))
    obtain ⟨m, hn, hl⟩ := I.loc
    have hvis : Vis X.env.scope y := (ok.free _ (PySem.mem_of_lookup hfr.1) rfl).elim (fun k => .inr (.inl k)) (fun k => .inr (.inr k))
    obtain ⟨w, r, q⟩ := hl i y av e1 e2 hvis
    refine ⟨w, r, .inr ⟨hfr.2, ?_⟩⟩
    obtain ⟨c, h1, h2⟩ := look hfr.1
    rcases q with ⟨k, _⟩ | ⟨_, c', e', z⟩
    · have k : X.env.scope.names.lookup y = some .local := k
      rcases ok.free _ (PySem.mem_of_lookup hfr.1) rfl with k' | k' <;> rw [show X.env.scope.names.lookup y = _ from k'] at k <;> cases k
    · rw [h2] at e'; cases e'
      exact ⟨c, h1, z.keeps kp⟩
  · have e : cenv.cells.lookup y = some c := e
    rcases mem e with ⟨h1, _⟩ | ⟨_, z⟩
    · obtain ⟨w, z⟩ := I.cell y c h1
      exact ⟨w, z.keeps kp⟩
    · exact ⟨_, z⟩
  · show H cenv.locals = none
    rw [hL]; exact I.hok.fresh (Nat.le_refl _)
  · have e : cenv.cells.lookup y = some c := e
    rcases mem e with ⟨h1, _⟩ | ⟨h1, _⟩
    · exact I.freeC y c h1
    · exact I.hok.fresh (Nat.le_of_succ_le h1)
  · exact absurd (show p ∈ ([] : List (Addr × Obj)) ++ [] from hp) (by simp)

/-- an item appended to a tracked list -/
theorem app_ok {E : Value → Shared → Prop} {D : Addr} {xs : List V} {y : V} {v : Value} {Q : Value → Shared → Prop} (I : Inv X pins σ H s) (hD : H D = some (.lst xs)) (hz : xs.length < sizeLine) (r : RelV y v)
    (h : ∀ s', Inv X pins σ (upd H D (.lst (xs ++ [y]))) s' → Q .none s') : wpAny (model X.prog X.w) X.A (call (.builtin "list.append") [.ref D, v]) Q E s := by
  obtain ⟨hz', its, n, ri, e⟩ := I.hok D _ hD
  have hl := ri.length
  refine append_at (hsz := by rw [List.size_toArray]; omega) e fun h' sb ho' => ?_
  refine h { s with heap := h' } (I.write (t' := s.toks) (by rw [hD]; trivial) (.inl rfl) (fun b u hb q => (sb.2 b hb).trans q) ⟨_, ho'⟩ ⟨by rw [List.length_append]; exact hz, its ++ [v], n + 1, ri.append (.cons r .nil), ?_⟩)
  rw [ho']
  simp

/-- a clause's tests -/
def PTs (X : Cx) (ifs : List Expr) (t : TT) : Prop :=
  ∀ (pins : List (Addr × Obj)) (s : Shared) (σ : St) (H : Hp) (Q : Bool → Hp → Prop), Inv X pins σ H s → t σ H Q →
    wpAny (model X.prog X.w) X.A (forIn ifs true fun c r => if r = true then do let ok ← isTrue c X.env (eval c X.env); pure (ForInStep.yield ok) else pure (ForInStep.yield r)) (TP X pins σ Q) X.xe s
def tYes : TT := fun _ H Q => Q true H
theorem pts_nil : PTs X [] tYes := fun _ _ _ H _ I h => wpAny_tests_nil ⟨H, I, h⟩
theorem pts_one {c : Expr} {t : TT} (h : PT X c t) : PTs X [c] t := fun pins s σ H Q I hw => wpAny_tests_one (h pins s σ H Q I hw)
end

theorem thnF {α : Type} {t : Sem α} {Q Q' : α → Shared → Prop} {M : Model} {A : Around} {E : Value → Shared → Prop} {s : Shared} (h : wpAny M A t Q (fun _ _ => False) s) (hQ : ∀ a s, Q a s → Q' a s) : wpAny M A t Q' E s := wpAny_mono h hQ fun _ _ z => False.elim z

/-- the loop of a list comprehension's block, the target of any form (codeAny_compLoop_tests asks a target that no tuple goes to; statement and proof follow it, PyProof/CompMap.lean:41-61, with the step letOwnedTupleGo kept) -/
theorem compLoop_any {prog : Program} {w : World} {A : Around} {R : Result → Shared → Prop} {s : Shared} {elt target iter : Expr} {ifs : List Expr} {scope : Scope} {pos : Pos} {it acc : Value} {env : Env} (I : Nat → Shared → Prop)
    (turn : ∀ n s, I n s → wpAny (model prog w) A (pyNext it) (fun r s₁ => match r with
      | none => R (.ok .next) s₁
      | some v => wpAny (model prog w) A (letOwnedTupleGo target it v) (fun _ s₁' => wpAny (model prog w) A (assign target env v) (fun _ s₂ =>
          wpAny (model prog w) A (forIn ifs true fun c r => if r = true then do let ok ← isTrue c env (eval c env); pure (ForInStep.yield ok) else pure (ForInStep.yield r)) (fun ok s₃ =>
            if ok = true then wpAny (model prog w) A (eval elt env) (fun x s₄ =>
              wpAny (model prog w) A (call (.builtin "list.append") [acc, x]) (fun _ s₅ => ∃ m, m < n ∧ I m s₅) (notedBy (model prog w) A env fun e s' => R (.error e) s') s₄) (notedBy (model prog w) A env fun e s' => R (.error e) s') s₃
            else ∃ m, m < n ∧ I m s₃) (notedBy (model prog w) A env fun e s' => R (.error e) s') s₂) (notedBy (model prog w) A env fun e s' => R (.error e) s') s₁') (notedBy (model prog w) A env fun e s' => R (.error e) s') s₁) (notedBy (model prog w) A env fun e s' => R (.error e) s') s)
    (n : Nat) (h : I n s) :
    codeAny (model prog w) A (.compLoop (.ListComp elt [⟨target, iter, ifs, 0⟩] scope pos) 0 it acc env) R s := by
  refine codeAny_loop rfl I (fun n s hI => ?_) n h
  show wpAny _ A ((compTurn (.ListComp elt [⟨target, iter, ifs, 0⟩] scope pos) 0 it acc env).onRaise (fun x => do noteFrame x env; theTreesLotGoes x)) _ _ s
  refine wpAny_noted ?_
  rw [compTurn_list]
  refine wpAny_bind (wpAny_standAt (wpAny_bind (wpAny_mono (turn n s hI) (fun r s₁ h₁ => ?_) fun _ _ h' => h')))
  cases r with
  | none => exact wpAny_pure h₁
  | some v =>
    refine wpAny_bind (wpAny_mono h₁ (fun _ s₁' h₁' => ?_) fun _ _ h' => h')
    refine wpAny_bind (wpAny_mono h₁' (fun _ s₂ h₂ => wpAny_bind (wpAny_mono h₂ (fun ok s₃ h₃ => ?_) fun _ _ h' => h')) fun _ _ h' => h')
    cases ok with
    | false => exact wpAny_pure ⟨rfl, h₃⟩
    | true =>
      exact wpAny_bind (wpAny_bind (wpAny_mono h₃ (fun x s₄ h₄ => wpAny_bind (wpAny_mono h₄ (fun _ s₅ h₅ => wpAny_pure (wpAny_pure ⟨rfl, h₅⟩)) fun _ _ h' => h')) fun _ _ h' => h'))

section
variable {X : Cx}
/-- [elt for target in iter if ..]: D the new list; W by the turn and a measure, Nx what a turn is to reach -/
def tLc (wi : TI) (g : TG) (tt : TT) (te : TE) (vs : List Nat) : TE := fun σ H Q => wi σ H fun J H1 => ∀ D, H1 D = none → ∃ W : Nat → Nat → Hp → Prop, (∃ m, W 0 m (upd H1 D (.lst []))) ∧ ∀ i m H, W i m H →
  (J.stop i H ∧ Q (.ref D) H) ∨ (J.go i H ∧ ∃ Nx : Hp → Prop, (∀ H', Nx H' → ∃ m', m' < m ∧ W (i + 1) m' H') ∧ ∀ x H', J.yld i H x H' → g x (wipe σ vs) H' fun σ2 H2 => wipe σ2 vs = wipe σ vs ∧ tt σ2 H2 fun b H3 =>
    if b = true then te σ2 H3 fun y H4 => ∃ acc, H4 D = some (.lst acc) ∧ acc.length < sizeLine ∧ Nx (upd H4 D (.lst (acc ++ [y]))) else Nx H3)
theorem lc_core {pins : List (Addr × Obj)} {s : Shared} {σ : St} {H : Hp} {Q : VK} {elt tg iter : Expr} {ifs : List Expr} {scope : Scope} {own : List (Str × Nat)} {pos pos' : Pos} {wi : TI} {g : TG} {tt : TT} {te : TE} {use : Option (Value → Sem Unit)} {Qf : Value → Shared → Prop}
    (hc : X.calm = true) (hN : X.N.Nodup) (I : Inv X pins σ H s) (hi : PI X tg iter wi) (ok : BlkOk X.N X.env.scope scope own)
    (hg : ∀ (s : Shared) (H : Hp) (C : Addr) (cl : List (Str × Addr)) (fp : List Addr), PG (X.blk s H scope (compEnvC scope cl C X.env) fp) tg g) (ht : ∀ (s : Shared) (H : Hp) (C : Addr) (cl : List (Str × Addr)) (fp : List Addr), PTs (X.blk s H scope (compEnvC scope cl C X.env) fp) ifs tt)
    (he : ∀ (s : Shared) (H : Hp) (C : Addr) (cl : List (Str × Addr)) (fp : List Addr), PE (X.blk s H scope (compEnvC scope cl C X.env) fp) elt te) (hs : ∀ x, foldedSetIterable iter X.env x = pure x)
    (h : tLc wi g tt te (own.map (·.2)) σ H Q)
    (hRR : ∀ D C s' m H', Inv X pins σ H' s' → Q (.ref D) H' → s'.heap.Ns C m → FpOk X pins H' C → compPost (model X.prog X.w) X.A X.xe use Qf (.ref D) C (.ok .next) s') :
    wpAny (model X.prog X.w) X.A (comprehension (.ListComp elt [⟨tg, iter, ifs, 0⟩] scope pos) scope X.env pos' (newList []) false (eval iter X.env) use) Qf X.xe s := by
  have hfree : ∀ y ∈ scope.names, y.2 = .free → ∃ c, X.env.cells.lookup y.1 = some c := fun y hy e => by
    rcases ok.free y hy e with k | k
    · exact I.ok.has _ (.inl k)
    · exact I.ok.has _ (.inr k)
  refine wpAny_comprehension_free (use := use) rfl hs (closure_ok hfree) ok.kind (fun y hy e => by rw [ok.uniq y hy, e])
    (thn (hi pins s σ H _ I h) fun xv s1 hx => thn hx fun itv s2 h2 => ?_)
  obtain ⟨it, fp, tn, J, H2, e, I2, T, st2, f2, q⟩ := h2
  subst e
  refine wpAny_newObj_type (newEnv_comp ?_) (by show 0 ≤ sizeLine; decide)
  generalize hD : s2.heap.objs.size = D
  have hDn : H2 D = none := I2.hok.fresh (Nat.le_of_eq hD)
  obtain ⟨W, ⟨m0, w0⟩, turn⟩ := q D hDn
  -- the new list
  generalize hs3 : ({ s2 with heap := s2.heap.push { cls := .type "list", data := .seq ([] : List Value).toArray } } : Shared) = s3
  have I3 : Inv X pins σ (upd H2 D (.lst [])) s3 := by
    rw [← hs3]
    refine I2.laid (t' := s2.toks) (fun b o e => Heap.get?_push_of_some _ e) (Nat.le_of_eq hD) ⟨Nat.zero_le _, [], 0, .nil, ?_⟩
    rw [← hD]
    exact Heap.get?_push_size _ rfl
  have h3 : s3.heap = s2.heap.push { cls := .type "list", data := .seq ([] : List Value).toArray } := by rw [← hs3]
  have sz : ∀ b ∈ fp, b < s2.heap.objs.size := fun b hb => by
    obtain ⟨o, e, _⟩ := T.obj _ _ st2 b hb
    exact Heap.lt_size e
  have f3 : ∀ b ∈ fp, FpOk X pins (upd H2 D (.lst [])) b ∧ b < s3.heap.objs.size := fun b hb => by
    have hlt := sz b hb
    refine ⟨⟨?_, (f2 b hb).2⟩, by rw [h3, Heap.size_push]; exact Nat.lt_succ_of_lt hlt⟩
    rw [upd_ne (by rw [← hD]; exact Nat.ne_of_lt hlt)]
    exact (f2 b hb).1
  have st3 : tn 0 s3.heap := T.keep _ _ _ st2 fun b _ o e => by rw [h3]; exact Heap.get?_push_of_some _ e
  have I4 := block_start I3 ok hN f3
  have pg := hg s3 (upd H2 D (.lst [])) s3.heap.objs.size (cellsFrom (s3.heap.objs.size + 1) scope.names (cloFrom X.env.cells scope.names [])) fp
  have pt := ht s3 (upd H2 D (.lst [])) s3.heap.objs.size (cellsFrom (s3.heap.objs.size + 1) scope.names (cloFrom X.env.cells scope.names [])) fp
  have pe := he s3 (upd H2 D (.lst [])) s3.heap.objs.size (cellsFrom (s3.heap.objs.size + 1) scope.names (cloFrom X.env.cells scope.names [])) fp
  show codeAny _ _ (.compStart (.ListComp elt [⟨tg, iter, ifs, 0⟩] scope pos) 0 (.ref it) (.ref D) (compEnvC scope (cellsFrom (s3.heap.objs.size + 1) scope.names (cloFrom X.env.cells scope.names [])) s3.heap.objs.size X.env)) (compPost (model X.prog X.w) X.A X.xe use Qf (.ref D) s3.heap.objs.size) { s3 with heap := pushCells (s3.heap.push { cls := .type "dict", data := .dict #[] }) scope.names }
  have nfp : ∀ b ∈ fp, (upd H2 D (.lst [])) b = none := fun b hb => (f3 b hb).1.1
  generalize hce : compEnvC scope (cellsFrom (s3.heap.objs.size + 1) scope.names (cloFrom X.env.cells scope.names [])) s3.heap.objs.size X.env = ce at I4 pg pt pe ⊢
  have cL : ce.locals = s3.heap.objs.size := by subst hce; rfl
  generalize hH3 : upd H2 D (.lst []) = H3 at I3 I4 pg pt pe w0 nfp f3
  generalize hs4 : ({ s3 with heap := pushCells (s3.heap.push { cls := .type "dict", data := .dict #[] }) scope.names } : Shared) = s4 at I4 ⊢
  have st4 : tn 0 s4.heap := T.keep _ _ _ st3 fun b _ o e => by rw [← hs4]; exact pushCells_keeps _ _ _ _ (Heap.get?_push_of_some _ e)
  have stat : ∀ {σ' : St} {H' : Hp} {s' : Shared}, Inv (X.blk s3 H3 scope ce fp) [] σ' H' s' → (∀ b ∈ fp, H' b = none) → ∀ b ∈ fp, FpOk (X.blk s3 H3 scope ce fp) [] H' b := fun {σ' H' s'} I' hn b hb =>
    ⟨hn b hb, (I'.ok.exf b hb).1, I'.ok.exfs b hb, .inl hb, fun x c e => (I'.ok.exf b hb).2 x c e, fun p hp => absurd (show p ∈ ([] : List (Addr × Obj)) ++ [] from hp) (by simp)⟩
  have loop : codeAny (model X.prog X.w) X.A (.compLoop (.ListComp elt [⟨tg, iter, ifs, 0⟩] scope pos) 0 (.ref it) (.ref D) ce) (compPost (model X.prog X.w) X.A X.xe use Qf (.ref D) s3.heap.objs.size) s4 := by
    refine compLoop_any (fun n s' => ∃ i H', Inv (X.blk s3 H3 scope ce fp) [] (wipe σ (own.map (·.2))) H' s' ∧ tn i s'.heap ∧ (∀ b ∈ fp, H' b = none) ∧ W i n H') ?_ m0 ⟨0, H3, I4, st4, nfp, w0⟩
    rintro n s5 ⟨i, H5, I5, st5, n5, w5⟩
    rcases turn i n H5 w5 with ⟨stop, qq⟩ | ⟨go, Nx, hNx, step⟩
    · have td := T.done (X.blk s3 H3 scope ce fp) rfl rfl rfl hc i [] s5 _ H5 (fun _ _ => False) I5 (stat I5 n5) st5 stop
      refine thnF td fun r s6 ⟨hr, I6⟩ => ?_
      subst hr
      -- back in the def's context
      have I7 : Inv X pins σ H5 s6 := I3.call' (ch := fp) I6.os I6.base I6.hok I6.bare fun b hb => ⟨(f3 b hb).1.2.2.2.1, (f3 b hb).1.2.1, (f3 b hb).1.2.2.2.2.1, (f3 b hb).1.2.2.2.2.2⟩
      have nC : H5 s3.heap.objs.size = none := by
        have z : H5 ce.locals = none := I6.free
        rw [cL] at z
        exact z
      obtain ⟨m, hn, _⟩ := I6.loc
      have hn : s6.heap.Ns ce.locals m := hn
      rw [cL] at hn
      exact hRR D s3.heap.objs.size s6 m H5 I7 qq hn (I3.fpOk (Nat.le_refl _) nC)
    · have ti := T.item (X.blk s3 H3 scope ce fp) rfl rfl rfl hc i [] s5 _ H5 (fun _ _ => False) I5 (stat I5 n5) st5 go
      refine thnF ti fun r s6 ⟨u, hr, h6⟩ => ?_
      subst hr
      refine thnF h6 fun _ s7 ⟨x, H7, I7, r7, y7, st7, n7⟩ => ?_
      have I7' := I7.pinned (stat I7 n7) (T.obj _ _ st7)
      refine thnF (pg _ s7 _ H7 x u _ I7' r7 (step x H7 y7)) fun _ s8 ⟨σ8, H8, I8, hw8, q8⟩ => ?_
      refine thnF (pt _ s8 σ8 H8 _ I8 q8) fun b s9 ⟨H9, I9, q9⟩ => ?_
      -- the turn's end
      have fin : ∀ {s' : Shared} {H' : Hp}, Inv (X.blk s3 H3 scope ce fp) ([] ++ pinsAt fp s7.heap) σ8 H' s' → Nx H' → ∃ m, m < n ∧ ∃ i H', Inv (X.blk s3 H3 scope ce fp) [] (wipe σ (own.map (·.2))) H' s' ∧ tn i s'.heap ∧ (∀ b ∈ fp, H' b = none) ∧ W i m H' := fun {s' H'} I' nx => by
        obtain ⟨m', hm, w'⟩ := hNx H' nx
        have pin' : ∀ b ∈ fp, ∀ o, s7.heap.get? b = some o → s'.heap.get? b = some o ∧ H' b = none := fun b hb o e =>
          let z := I'.pin (b, o) (List.mem_append_right _ (List.mem_append_right _ (mem_pinsAt hb e)))
          ⟨z.1, z.2.1⟩
        have hl : (wipe σ (own.map (·.2))).length = σ8.length := by rw [← hw8, wipe_length]
        refine ⟨m', hm, i + 1, H', (I'.unpinned (pins := [])).weak hl (fun j v e => ?_), T.keep _ _ _ st7 fun b hb o e => (pin' b hb o e).1, fun b hb => ?_, w'⟩
        · rw [← hw8] at e
          exact (wipe_some e).1
        · obtain ⟨o, e, _⟩ := T.obj _ _ st7 b hb
          exact (pin' b hb o e).2
      cases b with
      | false =>
        simp only [Bool.false_eq_true, if_false] at q9 ⊢
        exact fin I9 q9
      | true =>
        simp only [if_true] at q9 ⊢
        refine thnF (pe _ s9 σ8 H9 _ I9 q9) fun z s10 ⟨yv, H10, I10, r10, acc, hD10, hz10, nx⟩ => ?_
        exact app_ok (X := X.blk s3 H3 scope ce fp) I10 hD10 hz10 r10 fun s11 I11 => fin I11 nx
  exact codeAny_compStart_list loop (T.self X.A 0 _ _ _ st4 loop)
/-- as a value -/
theorem pe_lc {elt tg iter : Expr} {ifs : List Expr} {scope : Scope} {own : List (Str × Nat)} {pos : Pos} {wi : TI} {g : TG} {tt : TT} {te : TE} (hc : X.calm = true) (hN : X.N.Nodup) (hi : PI X tg iter wi) (ok : BlkOk X.N X.env.scope scope own)
    (hg : ∀ (s : Shared) (H : Hp) (C : Addr) (cl : List (Str × Addr)) (fp : List Addr), PG (X.blk s H scope (compEnvC scope cl C X.env) fp) tg g) (ht : ∀ (s : Shared) (H : Hp) (C : Addr) (cl : List (Str × Addr)) (fp : List Addr), PTs (X.blk s H scope (compEnvC scope cl C X.env) fp) ifs tt)
    (he : ∀ (s : Shared) (H : Hp) (C : Addr) (cl : List (Str × Addr)) (fp : List Addr), PE (X.blk s H scope (compEnvC scope cl C X.env) fp) elt te) (hs : ∀ x, foldedSetIterable iter X.env x = pure x := by intro _; rfl) :
    PE X (.ListComp elt [⟨tg, iter, ifs, 0⟩] scope pos) (tLc wi g tt te (own.map (·.2))) := by
  intro pins s σ H Q I h
  rw [eval_ListComp]
  refine lc_core hc hN I hi ok hg ht he hs h fun D C s' m H' I' q hn f => ⟨m, hn, fun h'' sb => ?_⟩
  obtain ⟨f0, f1, f2, f3, f4, f5⟩ := f
  exact ⟨.ref D, H', I'.turned (t' := s'.toks) (fun b o hb e => (sb.2 b hb).trans e) f0 f1 f3 f4 f5, rfl, q⟩
/-- name = [..] on one line, the name a local -/
theorem ps_setLc {i : Nat} {y : Str} {py : Pos} {elt tg iter : Expr} {ifs : List Expr} {scope : Scope} {own : List (Str × Nat)} {pos spos : Pos} {wi : TI} {g : TG} {tt : TT} {te : TE} (hc : X.calm = true) (hN : X.N.Nodup) (hy : X.N[i]? = some y) (hyl : X.env.scope.names.lookup y = some .local)
    (hsw : swapsWith (.ListComp elt [⟨tg, iter, ifs, 0⟩] scope pos) (some (.Name y py)) spos.line X.env = pure true) (hi : PI X tg iter wi) (ok : BlkOk X.N X.env.scope scope own)
    (hg : ∀ (s : Shared) (H : Hp) (C : Addr) (cl : List (Str × Addr)) (fp : List Addr), PG (X.blk s H scope (compEnvC scope cl C X.env) fp) tg g) (ht : ∀ (s : Shared) (H : Hp) (C : Addr) (cl : List (Str × Addr)) (fp : List Addr), PTs (X.blk s H scope (compEnvC scope cl C X.env) fp) ifs tt)
    (he : ∀ (s : Shared) (H : Hp) (C : Addr) (cl : List (Str × Addr)) (fp : List Addr), PE (X.blk s H scope (compEnvC scope cl C X.env) fp) elt te) (hs : ∀ x, foldedSetIterable iter X.env x = pure x := by intro _; rfl) :
    PS X (.Assign [.Name y py] (.ListComp elt [⟨tg, iter, ifs, 0⟩] scope pos) spos) (tAsg (tLc wi g tt te (own.map (·.2))) (gName i)) := by
  intro pins s σ H D I h
  rw [exec_Assign_Name_used _ _ _ _ hsw]
  refine wpAny_bind (wpAny_standAt (wpAny_bind ?_))
  show wpAny _ X.A (do let _ ← comprehension (.ListComp elt [⟨tg, iter, ifs, 0⟩] scope pos) scope X.env (firstIterPos [⟨tg, iter, ifs, 0⟩] pos) (newList []) false (eval iter X.env) (some (assign (.Name y py) X.env))) _ _ s
  have h : tLc wi g tt te (own.map (·.2)) σ H (fun x H1 => gName i x σ H1 D.nx) := h
  refine wpAny_bind (thn (lc_core (Qf := fun _ s' => SP X pins D .next s') hc hN I hi ok hg ht he hs h fun L C s' m H' I' q hn f => ?_) fun _ s' hq => wpAny_pure (wpAny_pure hq))
  show wpAny _ _ (assign (.Name y py) X.env (.ref L)) _ _ _
  refine wpAny_assign_Name (store_ok2 (v := V.ref L) I' hN hy (.inl hyl) rfl (fun s2 I2 ⟨a, sb, ha⟩ => ?_) (.inr hyl))
  obtain ⟨f0, f1, f2, f3, f4, f5⟩ := f
  have haC : C ≠ a := by
    rcases ha with z | z
    · rw [z]; exact f1
    · exact fun e => f4 y a z e.symm
  refine ⟨m, hn.sameBut sb haC, fun h3 sb3 => ?_⟩
  exact ⟨_, H', I2.turned (t' := s2.toks) (fun b o hb e => (sb3.2 b hb).trans e) f0 f1 f3 f4 f5, q⟩
theorem sw_true {elt : Expr} {gs : List Comprehension} {scope : Scope} {pos py : Pos} {y : Str} {l : Nat} {env : Env} (hk : env.scope.kind = .function) (hy : env.scope.names.lookup y = some .local) (hl : (py.line == pos.line) = true)
    (ha : (scope.names.any fun (n, k) => n == y && (k == .local || k == .cell)) = false) : swapsWith (.ListComp elt gs scope pos) (some (.Name y py)) l env = pure true := by
  have ky : env.kindOf y = some .local := hy
  have hb : env.blockKind = .function := by unfold Env.blockKind; rw [hk]; rfl
  unfold swapsWith
  simp only [hb, ky, ha, Expr.pos, hl]
  rfl
end

/-! ### the forms one uses -/
/-- over a range: Pv by the turn and the heap (the new list at D within) -/
theorem lc_range {lo : Int} {n : Nat} {g : TG} {tt : TT} {te : TE} {vs : List Nat} {σ : St} {H1 : Hp} {D : Addr} {Qd : Hp → Prop} (Pv : Nat → Hp → Prop) (h0 : Pv 0 (upd H1 D (.lst [])))
    (hs : ∀ i H, i < n → Pv i H → g (.int (lo + i)) (wipe σ vs) H fun σ2 H2 => wipe σ2 vs = wipe σ vs ∧ tt σ2 H2 fun b H3 =>
      if b = true then te σ2 H3 fun y H4 => ∃ acc, H4 D = some (.lst acc) ∧ acc.length < sizeLine ∧ Pv (i + 1) (upd H4 D (.lst (acc ++ [y]))) else Pv (i + 1) H3) (hd : ∀ H, Pv n H → Qd H) :
    ∃ W : Nat → Nat → Hp → Prop, (∃ m, W 0 m (upd H1 D (.lst []))) ∧ ∀ i m H, W i m H →
      ((Itr lo n).stop i H ∧ Qd H) ∨ ((Itr lo n).go i H ∧ ∃ Nx : Hp → Prop, (∀ H', Nx H' → ∃ m', m' < m ∧ W (i + 1) m' H') ∧ ∀ x H', (Itr lo n).yld i H x H' → g x (wipe σ vs) H' fun σ2 H2 => wipe σ2 vs = wipe σ vs ∧ tt σ2 H2 fun b H3 =>
        if b = true then te σ2 H3 fun y H4 => ∃ acc, H4 D = some (.lst acc) ∧ acc.length < sizeLine ∧ Nx (upd H4 D (.lst (acc ++ [y]))) else Nx H3) := by
  refine ⟨fun i m H => m = n - i ∧ i ≤ n ∧ Pv i H, ⟨n, by simp, Nat.zero_le _, h0⟩, ?_⟩
  rintro i m H ⟨rfl, hi, p⟩
  by_cases hlt : i < n
  · refine .inr ⟨hlt, Pv (i + 1), fun H' p' => ⟨n - (i + 1), by omega, rfl, hlt, p'⟩, fun x H' y => ?_⟩
    obtain ⟨e, y⟩ := y
    subst e y
    exact hs i _ hlt p
  · have e : i = n := by omega
    subst e
    exact .inl ⟨Nat.le_refl _, hd H p⟩
/-- over a list that the block leaves as it is -/
theorem lc_list {K : PySem.W.Frag} {a : Addr} {xs : List V} {g : TG} {tt : TT} {te : TE} {vs : List Nat} {σ : St} {H1 : Hp} {D : Addr} {Qd : Hp → Prop} (Pv : Nat → Hp → Prop) (h0 : Pv 0 (upd H1 D (.lst []))) (hl : ∀ i H, i ≤ xs.length → Pv i H → SqL K H a xs)
    (hs : ∀ i x H, xs[i]? = some x → Pv i H → g x (wipe σ vs) H fun σ2 H2 => wipe σ2 vs = wipe σ vs ∧ tt σ2 H2 fun b H3 =>
      if b = true then te σ2 H3 fun y H4 => ∃ acc, H4 D = some (.lst acc) ∧ acc.length < sizeLine ∧ Pv (i + 1) (upd H4 D (.lst (acc ++ [y]))) else Pv (i + 1) H3) (hd : ∀ H, Pv xs.length H → Qd H) :
    ∃ W : Nat → Nat → Hp → Prop, (∃ m, W 0 m (upd H1 D (.lst []))) ∧ ∀ i m H, W i m H →
      ((Itl K a).stop i H ∧ Qd H) ∨ ((Itl K a).go i H ∧ ∃ Nx : Hp → Prop, (∀ H', Nx H' → ∃ m', m' < m ∧ W (i + 1) m' H') ∧ ∀ x H', (Itl K a).yld i H x H' → g x (wipe σ vs) H' fun σ2 H2 => wipe σ2 vs = wipe σ vs ∧ tt σ2 H2 fun b H3 =>
        if b = true then te σ2 H3 fun y H4 => ∃ acc, H4 D = some (.lst acc) ∧ acc.length < sizeLine ∧ Nx (upd H4 D (.lst (acc ++ [y]))) else Nx H3) := by
  refine ⟨fun i m H => m = xs.length - i ∧ i ≤ xs.length ∧ Pv i H, ⟨xs.length, by simp, Nat.zero_le _, h0⟩, ?_⟩
  rintro i m H ⟨rfl, hi, p⟩
  have q := hl i H hi p
  by_cases hlt : i < xs.length
  · refine .inr ⟨⟨xs, xs[i], q, by simp [hlt]⟩, Pv (i + 1), fun H' p' => ⟨xs.length - (i + 1), by omega, rfl, hlt, p'⟩, fun x H' y => ?_⟩
    obtain ⟨e, y⟩ := y
    subst e
    exact hs i x _ (y xs q) p
  · have e : i = xs.length := by omega
    subst e
    exact .inl ⟨⟨xs, q, Nat.le_refl _⟩, hd H p⟩
def blkC (N : List Str) (sc scope : Scope) (own : List (Str × Nat)) : Bool :=
  (match scope.kind with | .function => true | _ => false) && (scope.names.all fun y => decide (scope.names.lookup y.1 = some y.2)) && (own.all fun p => decide (N[p.2]? = some p.1)) &&
    (scope.names.all fun y => match y.2 with
      | .free => (match sc.names.lookup y.1 with | some .cell => true | some .free => true | _ => false)
      | .local => decide (y.1 ∈ own.map (·.1)) || decide (y.1 ∉ N)
      | .cell => decide (y.1 ∈ own.map (·.1)) || decide (y.1 ∉ N)
      | _ => true)
theorem blkOk_by {N : List Str} {sc scope : Scope} {own : List (Str × Nat)} (h : blkC N sc scope own = true) : BlkOk N sc scope own := by
  unfold blkC at h
  simp only [Bool.and_eq_true, List.all_eq_true, decide_eq_true_eq] at h
  obtain ⟨⟨⟨h1, h2⟩, h3⟩, h4⟩ := h
  refine ⟨?_, h2, h3, fun y hy e => ?_, fun y hy e => ?_⟩
  · split at h1
    · assumption
    · cases h1
  · have q := h4 y hy
    simp only [e] at q
    split at q <;> first | exact .inl (by assumption) | exact .inr (by assumption) | cases q
  · have q := h4 y hy
    rcases e with e | e <;> (simp only [e, Bool.or_eq_true, decide_eq_true_eq] at q; exact q)
end L2

namespace L2
open PySem PySem.Spec PyProof.Rows

end L2

namespace L2
open PySem PySem.Spec PyProof.Rows

/-! ### lists of pairs as tables -/

/-! ### a tracked dict, its keys ints and texts or tuples of these -/

/-! ### readings and rules -/

/-! ### displays -/

/-! ### methods -/

/-! ### dict(d): a copy -/

end L2

namespace L2
open PySem PySem.Spec PyProof.Rows

end L2

namespace L2
open PySem PySem.Spec PyProof.Rows

section
variable {X : Cx} {pins : List (Addr × Obj)} {σ : St} {H : Hp} {s : Shared} {h' : Heap}
/-- .. and one new object is laid -/
theorem Inv.turnedNew {t' : Nat} {ch : List Addr} {T : Addr} {ob : HO} (I : Inv X pins σ H s) (k : ∀ b o, b ∉ ch → s.heap.get? b = some o → h'.get? b = some o) (hf : ∀ b ∈ ch, FpOk X pins H b) (hT : s.heap.objs.size ≤ T)
    (new : ObjOk X.prog X.w (upd H T ob) h' T ob) : Inv X pins σ (upd H T ob) { s with heap := h', toks := t' } := by
  have hn : H T = none := I.hok.fresh hT
  have nit : ∀ b u, H b = some u → b ∉ ch := fun b u e z => by
    have q := (hf b z).1
    rw [q] at e; cases e
  refine I.step (g' := s.gens) (d' := s.drawn) (ch := ch) (fun b hb => ⟨(hf b hb).2.2.2.1, (hf b hb).2.1, (hf b hb).2.2.2.2.1, (hf b hb).2.2.2.2.2⟩) (fun b o _ _ hc e _ => k b o hc e) (fun b o _ _ hc e _ => ⟨o.slots, k b o hc e⟩)
    (fun b o _ e n => ?_) (fun b o hc e => ⟨o, k b o hc e⟩) (fun b xs e => ?_) (fun b o u e => ?_) (fun b ps e => ⟨#[], ?_⟩) (fun m hm => ?_) (fun b u e => ?_) I.bare
  · rw [upd_ne (Nat.ne_of_lt (Nat.lt_of_lt_of_le (Heap.lt_size e) hT))]; exact n
  · rw [upd_ne (ne_of_none e hn)]; exact e
  · rw [upd_ne (ne_of_none e hn)]; exact e
  · rw [upd_ne (ne_of_none e hn), e]; simp
  · obtain ⟨o, es, ep, ho, r⟩ := hm
    exact ⟨o, es, ep, k _ o (fun z => (hf _ z).2.1 rfl) ho, r⟩
  · by_cases hb : b = T
    · subst hb
      rw [upd_same] at e
      cases e
      exact new
    · rw [upd_ne hb] at e
      refine (I.hok b u e).stay (fun c v hc q => k c v ?_ q) (fun c q => by rw [upd_ne (ne_of_none q hn)]; exact q) fun c xs q => by rw [upd_ne (ne_of_none q hn)]; exact q
      rcases hc with z | z
      · rw [z]; exact nit b u e
      · exact nit c _ z

/-! ### locking a thing while a statement runs -/
end
section
variable {X : Cx}

/-! ### one iterator just laid -/
end

/-! ### range with a step -/

/-! ### reversed(list) -/

/-! ### a str -/

/-! ### a dict's keys: any dict's entries -/

/-! ### a locked dict -/

/-! ### for k in d, d.keys(), d.values(), d.items() -/

/-! ### enumerate(list) -/
/-- the list at a as it stands at each turn, each item in a new pair -/
def Ite (K : PySem.W.Frag) (a : Addr) : It :=
  ⟨fun i H => ∃ (xs : List V) (x : V), SqL K H a xs ∧ xs[i]? = some x, fun i H v H' => ∃ T x, v = .ref T ∧ H T = none ∧ H' = upd H T (.tup [.int (i : Nat), x]) ∧ ∀ xs, SqL K H a xs → xs[i]? = some x, fun i H => ∃ xs : List V, SqL K H a xs ∧ xs.length ≤ i⟩
theorem turn_enum {P : Program} {w : World} {K : PySem.W.Frag} {elts : List Expr} {kk : Nat} {tpos : Pos} (a e it : Addr) :
    Turn P w K (.Tuple elts kk tpos) (Ite K a) [e, it] e (fun i h => (∃ old, IsEnum h e it ((i : Nat) : Int) old) ∧ h.IsListIter it a i ∧ e ≠ it) where
  mem := by simp
  obj := fun i h st b hb => by
    obtain ⟨⟨old, he⟩, ⟨o, ho, hc, hd⟩, _⟩ := st
    have e' : b = e ∨ b = it := by simpa using hb
    rcases e' with z | z
    · rw [z]; exact ⟨_, he, fun v q => nomatch q⟩
    · rw [z]; exact ⟨o, ho, fun v q => by rw [hd] at q; cases q⟩
  keep := fun i h h' st k => let ⟨⟨old, he⟩, hi, hne⟩ := st; ⟨⟨old, k e (by simp) _ he⟩, hi.at fun o q => k it (by simp) o q, hne⟩
  item := by
    intro X hP hw hK hc i pins s σ H E I hf st hg
    subst hP hw hK
    obtain ⟨⟨old, he⟩, hit, hne⟩ := st
    obtain ⟨xs, x, hq, hx⟩ := hg
    obtain ⟨its, rv, p, hz⟩ := I.list hq
    obtain ⟨u, hu, ru⟩ := rv.get hx
    have hel : e < s.heap.objs.size := Heap.lt_size he
    have hil : it < s.heap.objs.size := by obtain ⟨_, q, _⟩ := hit; exact Heap.lt_size q
    refine wpAny_pyNext_enum_item he hit p.isList (x := u) (by simpa using hu) hne fun h' ho hit' hT hsz hk => ?_
    refine ⟨_, rfl, wpAny_letOwnedTupleGo_enum (s := { s with heap := h', toks := s.toks + 1 }) ho fun h'' he' sb => ?_⟩
    have hT2 : h''.get? s.heap.objs.size = some { cls := .type "tuple", data := .seq #[.int i s.toks, u] } := (sb.2 _ (Nat.ne_of_gt hel)).trans hT
    have new : ObjOk X.prog X.w (upd H s.heap.objs.size (.tup [.int (i : Nat), x])) h'' s.heap.objs.size (.tup [.int (i : Nat), x]) :=
      ⟨by show 2 ≤ sizeLine; decide, [.int i s.toks, u], .cons ⟨_, rfl⟩ (.cons ru .nil), ⟨_, hT2, rfl, _, rfl⟩⟩
    have I1 : Inv X pins σ (upd H s.heap.objs.size (.tup [.int (i : Nat), x])) { s with heap := h'', toks := s.toks + 1 } :=
      I.turnedNew (ch := [e, it]) (fun b ob hb q => (sb.2 b (fun z => hb (by simp [z]))).trans (hk b ob (fun z => hb (by simp [z])) (fun z => hb (by simp [z])) q)) hf (Nat.le_refl _) new
    refine ⟨.ref s.heap.objs.size, _, I1, rfl, ⟨_, x, rfl, I.hok.fresh (Nat.le_refl _), rfl, fun ys hy => by rw [I.list_inj hy hq]; exact hx⟩, ⟨⟨u, ?_⟩, hit'.at fun o q => (sb.2 it (Ne.symm hne)).trans q, hne⟩, fun b hb => ?_⟩
    · have e1 : ((i + 1 : Nat) : Int) = (i : Int) + 1 := by omega
      rw [e1]; exact he'
    · have hb' : b < s.heap.objs.size := by
        have e' : b = e ∨ b = it := by simpa using hb
        rcases e' with z | z
        · rw [z]; exact hel
        · rw [z]; exact hil
      rw [upd_ne (Nat.ne_of_lt hb')]
      exact (hf b hb).1
  done := by
    intro X hP hw hK hc i pins s σ H E I hf st hg
    subst hP hw hK
    obtain ⟨⟨old, he⟩, hit, hne⟩ := st
    obtain ⟨xs, hq, hx⟩ := hg
    obtain ⟨its, rv, p, hz⟩ := I.list hq
    obtain ⟨f0, f1, f2, f3, f4, f5⟩ := hf it (by simp)
    have hl := rv.length
    exact wpAny_pyNext_enum_end (I.ok.hd hc) he hit p.isList (by simp; omega) fun h' eb => ⟨rfl, I.turned (t' := s.toks) (fun b o hb q => eb b o hb q) f0 f1 f3 f4 f5⟩
  self := fun A i s Q E st h => let ⟨⟨_, he⟩, _⟩ := st; wpAny_pyIter_enum he h
def iEnum (K : PySem.W.Frag) (ta : TA) : TI := fun σ H R => ta σ H fun vs H1 => ∃ a xs, vs = [.ref a] ∧ SqL K H1 a xs ∧ R (Ite K a) H1
theorem pi_enum {X : Cx} {e : Expr} {ta : TA} {p pos tpos : Pos} {elts : List Expr} {kk : Nat} (hg : Gl X "enumerate") (hm : X.mg "enumerate" = none) (ha : PA X [e] ta) (hs : starEach [e] X.env = [(false, eval e X.env)] := by rfl) :
    PI X (.Tuple elts kk tpos) (.Call (.Name "enumerate" p) [e] [] pos) (iEnum X.K ta) := by
  intro pins s σ H R I h
  refine Call_ (ld_blt I hg hm boot_enumerate (PyProof.Rows.callWith_type1 (thn (ha pos pins s σ H _ I h) fun us s1 ⟨vs, H1, I1, r1, q1⟩ => ?_) hs rfl))
  obtain ⟨a, xs, ex, hq, q⟩ := q1
  subst ex
  cases r1 with
  | cons r rr =>
    cases rr
    cases r
    obtain ⟨its, rv, p', hz⟩ := I1.list hq
    refine call_enumerate_list p'.isList fun h' he hit hsz hk => wpAny_pyIter_enum he ?_
    have I2 : Inv X pins σ H1 { s1 with heap := h' } := I1.kept (t' := s1.toks) hk
    refine ⟨s1.heap.objs.size + 1, [s1.heap.objs.size + 1, s1.heap.objs.size], _, _, H1, rfl, I2, turn_enum a (s1.heap.objs.size + 1) s1.heap.objs.size, ⟨⟨.none, he⟩, hit, Nat.succ_ne_self _⟩, fun b hb => ?_, q⟩
    have e' : b = s1.heap.objs.size + 1 ∨ b = s1.heap.objs.size := by simpa using hb
    have hle : s1.heap.objs.size ≤ b := by
      rcases e' with z | z
      · rw [z]; exact Nat.le_add_right _ _
      · rw [z]; exact Nat.le_refl _
    exact I1.fpOk hle (I1.hok.fresh hle)
/-! ### zip(list, list) -/
end L2

section 
namespace Bits
open PySem PyProof.Rows

end Bits
end 

section 
namespace TL
open PySem PySem.Builtin PySem.Builtin.Str PySem.StrLaws

/-! ### the list functions -/

/-! ### the model's split and partition are these -/

/-! ### computing spl and par -/

/-! ### digits -/

/-! ### words: x.split() -/
end TL
end 

namespace L2
open PySem PySem.Spec PyProof.Rows

section
variable {X : Cx}

/-! ### of a text alone -/

/-! ### of a text and a text -/

end

end L2

namespace L2
open PySem PySem.Spec PyProof.Rows

/-! ### slices of a text -/

end L2

namespace Att
open PySem PySem.W PySem.Calls PyProof.Rows

/-! ### the script -/

/-! ### the attachment: holds_open's last premise (the goal 'hc' behind k_head) from a wpAny of the law's body -/

/-! ### rules over ANY heap (no ledger) from facts about the written part K: the library's own take a ledger (News) for what they write -/
section
variable {prog : Program} {w : World} {A : Around} {E : Value → Shared → Prop} {s : Shared} {K : Frag}

/-! the whole heap as the ledger: makes every rule that writes through a ledger a rule over any heap -/

end
end Att

namespace L2
open PySem PySem.Spec PyProof.Rows

end L2

namespace L2
open PySem PySem.Spec PyProof.Rows

end L2

/- THE LAST THEOREM (shape; LID, My.* are yours):
   My.Adr: a structure of the addresses that your layer names (classes, functions); My.Txt K t: a structure (Prop) of the equations over K;
   My.txt_mk : {K} {implicit addresses ..} (e1 : nsIn K mainGlobals "law" = some (some (.ref f))) (e2 : K.lookup f = some ⟨oc, od, .func (fnOf "law" "law" params body scope dV kV doc pm an cdv ct), sl⟩) (e3 : codeIn K cdv "law" = true) .. : ∃ t, My.Txt K t

set_option maxRecDepth 100000 in
set_option maxHeartbeats 0 in
theorem PySem.Challenge.cw_LID_holds : PySem.Challenge.rw_LID.Holds := by
  w_on; o_law; k_head; (case hw => w_witness2)
  k_fill
  refine L2.walk_of (l := PySem.Challenge.rw_LID) (n := 63) (k := 40) (x := "script") (CX := fun w => ..) (sp := fun _ => My.sp_law) rfl (by decide) rfl ⟨rfl, by decide, by decide⟩ (fun w h Y => PySem.W.kIn_of Y) ?F ?S ?C
  case F =>
    intro w mg fa h KX G hmg
    have T : ∃ t, My.Txt (L2.KOf KX) t := by
      dsimp only [L2.KOf]                          -- K must stand as «<heap const> w.params» for k_is
      refine' My.txt_mk ?e1 ?e2 ?e3 ..
      (case e1 => PySem.W.k_is)                    -- in the order: a name -> its address -> its object -> its parts
      (case e2 => PySem.W.k_is)
      ..
    obtain ⟨t, T⟩ := T
    have e0 := hmg.symm.trans (PySem.W.mg_of KX G T.law)
    cases e0                                       -- fa is the law's own address
    exact ⟨_, fun s u => .of_eq rfl, fun base kb nb => My.law_fn T kb nb⟩     -- if «.of_eq rfl» comes too early: refine' ⟨_, ?b, fun base kb nb => My.law_fn T kb nb⟩; exact fun s u => .of_eq rfl
  case S => exact fun w H a ns hl hO hS => ..
  case C => exact ..
(the tactic k_is has no namespace: write k_is) -/

/-! SHORT WORDS over the layer: a def of the text, its body, what a loop and a test want. -/
namespace L2
open PySem PySem.Spec PyProof.Rows

/-! ### the text by places -/
/-- the j-th statement of a class's body -/
def inClass (s : Stmt) (j : Nat) : Stmt := match s with
  | .ClassDef _ _ _ body _ _ _ _ _ _ _ => body.getD j (.Pass ⟨0, 0, 0, 0⟩)
  | _ => .Pass ⟨0, 0, 0, 0⟩
def defArgs (s : Stmt) : Arguments := match s with
  | .FunctionDef _ a _ _ _ _ _ _ _ _ => a
  | _ => { posonlyargs := [], args := [], vararg := none, kwonlyargs := [], kw_defaults := [], kwarg := none, defaults := [] }
def defBody (s : Stmt) : List Stmt := match s with
  | .FunctionDef _ _ b _ _ _ _ _ _ _ => b
  | _ => []
def defScope (s : Stmt) : Scope := match s with
  | .FunctionDef _ _ _ _ _ _ sc _ _ _ => sc
  | _ => { kind := .function, names := [], isGenerator := false, isCoroutine := false }

/-! ### no exception leaves a def -/
abbrev CX0 : CXT := fun _ _ _ _ _ _ => False
abbrev E0 : XK := fun _ _ _ => False
theorem pass0 {X : Cx} : Passes CX0 X E0 := fun _ _ _ _ _ _ _ h => h.elim

/-! ### a def (or method) of the text as it stands behind the top -/
structure Fun (K : PySem.W.Frag) (x qual : Str) (st : Stmt) (f : Addr) (fd : FuncData) : Prop where
  ex : ∃ (oc : Value) (od : Option Addr) (kV doc pm : Value) (an : Option Addr) (cdv ct : Value) (osl : Array (Option Value)),
    fd = PySem.W.fnOf x qual (defArgs st) (defBody st) (defScope st) .none kV doc pm an cdv ct ∧ K.lookup f = some ⟨oc, od, .func fd, osl⟩ ∧ PySem.W.codeIn K cdv qual = true
  kp : PySem.W.keepIn K (.ref f) = true
section
variable {P : Program} {w : World} {K : PySem.W.Frag} {mg : Str → Option Value} {base : Heap}
/-- THE RULE for a def: its body as a term of rules, and the reading of that term -/
theorem Fun.ok {x qual : Str} {st : Stmt} {f : Addr} {fd : FuncData} {N ps : List Str} {k : Nat} {sp : Sp} (F : Fun K x qual st f fd) (S : FnScope N ps (defScope st)) (len : ∀ vs H Q E, sp vs H Q E → vs.length = ps.length)
    (hbody : ∀ (cdv : Value) (A : Around) (outer : List Env) (s : Shared) (H : Hp) (vs : List V) (Q : VK) (E : XK), Room k (A.deeper (envOfC qual (defScope st) s.heap.objs.size f cdv)) → sp vs H Q E →
      ∃ t, PSs (cxOf CX0 P w K mg base N qual (defScope st) f cdv A outer s H E).nox (defBody st) t ∧ t { nx := fun _ H' => Q .non H', rt := Q } (start N vs) H) : FnOk P w K mg base CX0 (k + 1) f fd ps sp := by
  obtain ⟨oc, od, kV, doc, pm, an, cdv, ct, osl, rfl, lk, hcd⟩ := F.ex
  refine fn_of lk hcd S len fun A outer s H vs Q E hr hsp => ?_
  obtain ⟨t, h, q⟩ := hbody cdv A outer s H vs Q E hr hsp
  exact ⟨t, h.nox, q⟩
/-- how its arguments bind (no defaults): h is «fun _ _ _ _ _ _ us hl => match us, hl with | [_, _], _ => rfl», one _ a parameter -/
theorem Fun.binds {x qual : Str} {st : Stmt} {f : Addr} {fd : FuncData} {ps : List Str} (F : Fun K x qual st f fd)
    (h : ∀ (kV doc pm : Value) (an : Option Addr) (cdv ct : Value) (us : List Value), us.length = ps.length → bindArgs (PySem.W.fnOf x qual (defArgs st) (defBody st) (defScope st) .none kV doc pm an cdv ct) ⟨us, []⟩ = pure (ps.zip us)) : Binds K fd ps [] := by
  obtain ⟨oc, od, kV, doc, pm, an, cdv, ct, osl, rfl, lk, hcd⟩ := F.ex
  exact .all (h kV doc pm an cdv ct)
theorem fun_mk {x qual : Str} {st : Stmt} {f : Addr} {oc : Value} {od an : Option Addr} {osl : Array (Option Value)} {kV doc pm cdv ct : Value} (l : K.lookup f = some ⟨oc, od, .func (PySem.W.fnOf x qual (defArgs st) (defBody st) (defScope st) .none kV doc pm an cdv ct), osl⟩)
    (c : PySem.W.codeIn K cdv qual = true) (k : PySem.W.keepIn K (.ref f) = true) : Fun K x qual st f (PySem.W.fnOf x qual (defArgs st) (defBody st) (defScope st) .none kV doc pm an cdv ct) := ⟨⟨oc, od, kV, doc, pm, an, cdv, ct, osl, rfl, l, c⟩, k⟩
end

/-! ### expressions in short: the name that stands in the i-th slot -/
section
variable {X : Cx}
theorem pv (i : Nat) {x : Str} {pos : Pos} (hN : X.N[i]? = some x := by rfl) (hv : Vis X.env.scope x := by first | exact Or.inl rfl | exact Or.inr (Or.inl rfl) | exact Or.inr (Or.inr rfl)) (hd : (x == ("__debug__" : Str)) = false := by decide)
    (hcd : (x == ("__classdict__" : Str)) = false := by decide) : PE X (.Name x pos) (tVar i) := pe_var hN hv hd hcd
end

/-! ### tests -/
theorem iteF {A B : Prop} (h : B) : if false = true then A else B := by
  rw [if_neg Bool.false_ne_true]
  exact h
theorem iteT {A B : Prop} (h : A) : if true = true then A else B := by
  rw [if_pos rfl]
  exact h
theorem ite2 {c A B : Prop} [Decidable c] (h1 : c → A) (h2 : ¬ c → B) : if c then A else B := by
  by_cases h : c
  · rw [if_pos h]
    exact h1 h
  · rw [if_neg h]
    exact h2 h

/-! ### heaps -/
/-- all that was tracked is as it was -/
def Same (H H' : Hp) : Prop := ∀ b o, H b = some o → H' b = some o
theorem Same.refl (H : Hp) : Same H H := fun _ _ h => h
theorem Same.trans {H H1 H2 : Hp} (a : Same H H1) (b : Same H1 H2) : Same H H2 := fun c o h => b c o (a c o h)
theorem Same.free {H H' : Hp} (e : Same H H') {l : Addr} (h : H' l = Option.none) : H l = Option.none := by
  cases q : H l with
  | none => rfl
  | some o =>
    rw [e l o q] at h
    cases h
theorem Same.seq {K : PySem.W.Frag} {H H' : Hp} {a : Addr} {xs : List V} (e : Same H H') (h : SqL K H a xs) : SqL K H' a xs := by
  rcases h with (h | ⟨o, h⟩) | h
  · exact .inl (.inl (e _ _ h))
  · exact .inl (.inr ⟨o, e _ _ h⟩)
  · exact .inr h

/-! ### a dict's pairs: keys that differ -/
/-! ### lists -/
/-- a new instance and its __init__ leave all that was tracked as it was -/
theorem Same.made {H H1 : Hp} {x dx C : Addr} (nx : H x = Option.none) (nd : H dx = Option.none) (k : ∀ b o, (upd (upd H dx (.own x)) x (.ins C dx [])) b = some o → b ≠ x → H1 b = some o) : Same H H1 := fun b o e =>
  k b o (by rw [upd_ne (ne_of_none e nx), upd_ne (ne_of_none e nd)]; exact e) (ne_of_none e nx)
end L2

section
set_option Elab.async false
set_option linter.all false
set_option maxRecDepth 100000
set_option maxHeartbeats 2000000
namespace L2
open PySem PySem.Spec PyProof.Rows
open PySem.W (WData Codec OpenSpec Well WellAll ReadsW ReadsAllW)
/-! ### an answer as data -/
mutual
/-- x stands for the datum d, lists and tuples all the way -/
inductive Dw (K : PySem.W.Frag) (H : Hp) : V → WData → Prop
  | non : Dw K H .non .none
  | bl (b : Bool) : Dw K H (.bl b) (.bool b)
  | int (i : Int) : Dw K H (.int i) (.int i)
  | str (x : Str) : Dw K H (.str x) (.str x)
  | byt (b : Array UInt8) : Dw K H (.byt b) (.bytes b.toList)
  | lst {a : Addr} {xs : List V} {ds : List WData} : SqL K H a xs → DwAll K H xs ds → Dw K H (.ref a) (.list ds)
  | tup {a : Addr} {xs : List V} {ds : List WData} : SqT K H a xs → DwAll K H xs ds → Dw K H (.ref a) (.tuple ds)
inductive DwAll (K : PySem.W.Frag) (H : Hp) : List V → List WData → Prop
  | nil : DwAll K H [] []
  | cons {v : V} {vs : List V} {d : WData} {ds : List WData} : Dw K H v d → DwAll K H vs ds → DwAll K H (v :: vs) (d :: ds)
end
theorem dw_ints {K : PySem.W.Frag} {H : Hp} : ∀ ns : List Int, DwAll K H (ns.map V.int) (ns.map WData.int)
  | [] => .nil
  | n :: r => .cons (.int n) (dw_ints r)
theorem ints_dw {K : PySem.W.Frag} {H : Hp} : ∀ (ns : List Int) (xs : List V), DwAll K H xs (ns.map WData.int) → xs = ns.map V.int
  | [], xs, h => by
    cases h
    rfl
  | n :: r, xs, h => by
    cases h with
    | cons h1 h2 =>
      cases h1
      rw [ints_dw r _ h2] <;> rfl
section
variable {P : Program} {w : World} {K : PySem.W.Frag} {H : Hp} {h : Heap} {R : PySem.W.WRecords} {cl : Str → Option Addr}
theorem sqL_at {a : Addr} {xs : List V} (hok : HOk P w H h) (KX : K.In h) (q : SqL K H a xs) : ∃ (its : List Value) (o : Obj) (n : Nat), Vals xs its ∧ h.get? a = some o ∧ o.cls = .type "list" ∧ o.data = .seq its.toArray n := by
  rcases q with q | ⟨o, its, n, e, hc, _, hd, _, hv⟩
  · obtain ⟨_, its, n, hv, e⟩ := (show ObjOk P w H h a (.lst xs) from q.ok hok)
    exact ⟨its, _, n, hv, e, rfl, rfl⟩
  · exact ⟨its.toList, o, n, hv, KX _ _ e, hc, by simp [hd]⟩
theorem sqT_at {a : Addr} {xs : List V} (hok : HOk P w H h) (KX : K.In h) (q : SqT K H a xs) : ∃ (its : List Value) (o : Obj) (n : Nat), Vals xs its ∧ h.get? a = some o ∧ o.cls = .type "tuple" ∧ o.data = .seq its.toArray n := by
  rcases q with q | ⟨o, its, n, e, hc, hd, _, hv⟩
  · obtain ⟨_, its, hv, o, e, hc, n, hd⟩ := (show ObjOk P w H h a (.tup xs) from q.ok hok)
    exact ⟨its, o, n, hv, e, hc, hd⟩
  · exact ⟨its.toList, o, n, hv, KX _ _ e, hc, by simp [hd]⟩
mutual
theorem Dw.reads (hok : HOk P w H h) (KX : K.In h) : ∀ (d : WData) (v : V) (u : Value), Dw K H v d → RelV v u → ∃ as, ReadsW R cl h u d as
  | .none, _, _, x, r => by
    cases x
    cases r
    exact ⟨_, ReadsW.none⟩
  | .bool b, _, _, x, r => by
    cases x
    cases r
    exact ⟨_, ReadsW.bool b⟩
  | .int i, _, _, x, r => by
    cases x
    obtain ⟨t, rfl⟩ := r
    exact ⟨_, ReadsW.int i t⟩
  | .str s, _, _, x, r => by
    cases x
    obtain ⟨t, rfl⟩ := r
    exact ⟨_, ReadsW.str s t⟩
  | .bytes b, _, _, x, r => by
    cases x
    obtain ⟨t, rfl⟩ := r
    exact ⟨_, ReadsW.bytes _ t⟩
  | .list ds, _, _, x, r => by
    cases x with
    | lst hs ha =>
      cases r
      obtain ⟨its, o, n, rv, ho, hc, hd⟩ := sqL_at hok KX hs
      obtain ⟨as, hr⟩ := Dw.readsAll hok KX ds _ its ha rv
      exact ⟨_, ReadsW.list ho hc hd hr⟩
  | .tuple ds, _, _, x, r => by
    cases x with
    | tup hs ha =>
      cases r
      obtain ⟨its, o, n, rv, ho, hc, hd⟩ := sqT_at hok KX hs
      obtain ⟨as, hr⟩ := Dw.readsAll hok KX ds _ its ha rv
      exact ⟨_, ReadsW.tuple ho hc hd hr⟩
  | .float _, _, _, x, _ => by cases x
  | .dict _, _, _, x, _ => by cases x
  | .bytearray _, _, _, x, _ => by cases x
  | .set _, _, _, x, _ => by cases x
  | .frozenset _, _, _, x, _ => by cases x
  | .obj _ _, _, _, x, _ => by cases x
theorem Dw.readsAll (hok : HOk P w H h) (KX : K.In h) : ∀ (ds : List WData) (vs : List V) (us : List Value), DwAll K H vs ds → Vals vs us → ∃ as, ReadsAllW R cl h us ds as
  | [], _, _, x, r => by
    cases x
    cases r
    exact ⟨_, ReadsAllW.nil⟩
  | d :: ds, _, _, x, r => by
    cases x with
    | cons h1 h2 =>
      cases r with
      | cons r1 r2 =>
        obtain ⟨as, q1⟩ := Dw.reads hok KX d _ _ h1 r1
        obtain ⟨bs, q2⟩ := Dw.readsAll hok KX ds _ _ h2 r2
        exact ⟨_, ReadsAllW.cons q1 q2⟩
end
end
/-! ### the arguments -/
mutual
/-- data that a codec tells -/
def plW : WData → Bool
  | .none => true
  | .bool _ => true
  | .int _ => true
  | .str _ => true
  | .bytes _ => true
  | .list xs => plWs xs
  | .tuple xs => plWs xs
  | _ => false
def plWs : List WData → Bool
  | [] => true
  | x :: r => plW x && plWs r
end
theorem plWs_map {α : Type} {f : α → WData} (h : ∀ a, plW (f a) = true) : ∀ l : List α, plWs (l.map f) = true
  | [] => rfl
  | x :: r => by
    show (plW (f x) && plWs (r.map f)) = true
    rw [h x, plWs_map h r] <;> rfl
theorem pl_enc : ∀ (c : Codec) (a : c.denote), plW (c.enc a) = true
  | .unit, _ => rfl
  | .bool, _ => rfl
  | .int _ _, _ => rfl
  | .nat _ _, _ => rfl
  | .u8, _ => rfl
  | .bytes _ _, _ => rfl
  | .text _ _ _ _, _ => rfl
  | .list _ _ c, a => plWs_map (fun x => pl_enc c x) a
  | .pair c d, a => by
    show (plW (c.enc a.1) && (plW (d.enc a.2) && true)) = true
    rw [pl_enc c a.1, pl_enc d a.2] <;> rfl
  | .triple c d e, a => by
    show (plW (c.enc a.1) && (plW (d.enc a.2.1) && (plW (e.enc a.2.2) && true))) = true
    rw [pl_enc c a.1, pl_enc d a.2.1, pl_enc e a.2.2] <;> rfl
  | .option c, none => rfl
  | .option c, some x => pl_enc c x
theorem pl_encAll : ∀ (cs : List Codec) (a : Codec.denoteAll cs), plWs (Codec.encAll cs a) = true
  | [], _ => rfl
  | c :: cs, a => by
    show (plW (c.enc a.1) && plWs (Codec.encAll cs a.2)) = true
    rw [pl_enc c a.1, pl_encAll cs a.2] <;> rfl
theorem weight_mem : ∀ {xs : List WData} {d : WData}, d ∈ xs → d.weight ≤ WData.weightAll xs
  | [], d, h => absurd h (by simp)
  | x :: r, d, h => by
    show d.weight ≤ x.weight + 1 + WData.weightAll r
    rcases List.mem_cons.mp h with e | m
    · rw [e]
      omega
    · have z := weight_mem m
      omega
def toV : Value → V
  | .none => .non
  | .bool b => .bl b
  | .int i _ => .int i
  | .str x _ => .str x
  | .bytes b _ => .byt b
  | .ref a => .ref a
  | _ => .non
/-- a value of the arguments, its objects among A -/
def OkU (A : List Addr) : Value → Prop
  | .none => True
  | .bool _ => True
  | .int _ _ => True
  | .str _ _ => True
  | .bytes _ _ => True
  | .ref a => a ∈ A
  | _ => False
theorem OkU.mono {A B : List Addr} (h : ∀ a ∈ A, a ∈ B) : ∀ {u : Value}, OkU A u → OkU B u := fun {u} x => by
  cases u with
  | ref a => exact h a x
  | none => trivial
  | bool b => trivial
  | int i t => trivial
  | str s t => trivial
  | bytes b t => trivial
  | _ => exact False.elim x
theorem relV_toV {A : List Addr} {u : Value} (x : OkU A u) : RelV (toV u) u := by
  cases u with
  | ref a => rfl
  | none => rfl
  | bool b => rfl
  | int i t => exact ⟨t, rfl⟩
  | str s t => exact ⟨t, rfl⟩
  | bytes b t => exact ⟨t, rfl⟩
  | _ => exact False.elim x
theorem vals_toV {A : List Addr} : ∀ {vs : List Value}, (∀ u ∈ vs, OkU A u) → Vals (vs.map toV) vs
  | [], _ => .nil
  | u :: r, h => .cons (relV_toV (h u (List.mem_cons_self ..))) (vals_toV fun x hx => h x (List.mem_cons_of_mem _ hx))
/-- an object of the arguments -/
def ArgOb (h : Heap) (A : List Addr) (a : Addr) : Prop := ∃ vs : List Value, vs.length ≤ sizeLine ∧ (∀ u ∈ vs, OkU A u) ∧
  (h.get? a = some { cls := .type "list", data := .seq vs.toArray } ∨ h.get? a = some { cls := .type "tuple", data := .seq vs.toArray })
theorem ArgOb.mono {h : Heap} {A B : List Addr} {a : Addr} (k : ∀ a ∈ A, a ∈ B) (x : ArgOb h A a) : ArgOb h B a := by
  obtain ⟨vs, h1, h2, h3⟩ := x
  exact ⟨vs, h1, fun u hu => (h2 u hu).mono k, h3⟩
theorem wellAll_len {P : Params} {h : Heap} : ∀ {vs : List Value} {ds : List WData}, WellAll P h vs ds → vs.length = ds.length
  | _, _, .nil => rfl
  | _, _, .cons _ b => by
    show _ + 1 = _ + 1
    rw [wellAll_len b]
theorem well_list {P : Params} {h : Heap} {v : Value} {ds : List WData} (x : Well P h v (.list ds)) : ∃ (a : Addr) (vs : List Value), v = .ref a ∧ h.get? a = some { cls := .type "list", data := .seq vs.toArray } ∧ WellAll P h vs ds := by
  cases x with
  | list ho hall => exact ⟨_, _, rfl, ho, hall⟩
theorem well_tuple {P : Params} {h : Heap} {v : Value} {ds : List WData} (x : Well P h v (.tuple ds)) : ∃ (a : Addr) (vs : List Value), v = .ref a ∧ h.get? a = some { cls := .type "tuple", data := .seq vs.toArray } ∧ WellAll P h vs ds := by
  cases x with
  | tuple ho hall => exact ⟨_, _, rfl, ho, hall⟩
theorem well_cons {P : Params} {h : Heap} {us : List Value} {d : WData} {ds : List WData} (x : WellAll P h us (d :: ds)) : ∃ (v : Value) (vs : List Value), us = v :: vs ∧ Well P h v d ∧ WellAll P h vs ds := by
  cases x with
  | cons a b => exact ⟨_, _, rfl, a, b⟩
theorem line_of {n : Nat} (h : n ≤ 1048576) : n ≤ sizeLine := Nat.le_trans h (by decide)
section
variable {P : Params} {h : Heap}
mutual
theorem area_one : ∀ (d : WData) (v : Value), Well P h v d → plW d = true → d.weight ≤ 1048576 → ∃ A : List Addr, OkU A v ∧ ∀ a ∈ A, ArgOb h A a
  | .none, _, x, _, _ => by
    cases x
    exact ⟨[], trivial, fun a m => absurd m (by simp)⟩
  | .bool b, _, x, _, _ => by
    cases x
    exact ⟨[], trivial, fun a m => absurd m (by simp)⟩
  | .int i, _, x, _, _ => by
    cases x
    exact ⟨[], trivial, fun a m => absurd m (by simp)⟩
  | .str s, _, x, _, _ => by
    cases x
    exact ⟨[], trivial, fun a m => absurd m (by simp)⟩
  | .bytes b, _, x, _, _ => by
    cases x
    exact ⟨[], trivial, fun a m => absurd m (by simp)⟩
  | .list ds, _, x, p, z => by
    obtain ⟨a, vs, rfl, ho, hall⟩ := well_list x
    have z2 : WData.weightAll ds ≤ 1048576 := z
    obtain ⟨A, h1, h2⟩ := area_all ds _ hall p fun d hd => Nat.le_trans (weight_mem hd) z2
    have k : ∀ b ∈ A, b ∈ a :: A := fun b hb => List.mem_cons_of_mem _ hb
    refine ⟨a :: A, List.mem_cons_self .., fun b hb => ?_⟩
    rcases List.mem_cons.mp hb with e | m
    · rw [e]
      exact ⟨vs, line_of (by rw [wellAll_len hall]; exact Nat.le_trans (PySem.W.length_le_weightAllW ds) z2), fun u hu => (h1 u hu).mono k, .inl ho⟩
    · exact (h2 b m).mono k
  | .tuple ds, _, x, p, z => by
    obtain ⟨a, vs, rfl, ho, hall⟩ := well_tuple x
    have z2 : WData.weightAll ds ≤ 1048576 := z
    obtain ⟨A, h1, h2⟩ := area_all ds _ hall p fun d hd => Nat.le_trans (weight_mem hd) z2
    have k : ∀ b ∈ A, b ∈ a :: A := fun b hb => List.mem_cons_of_mem _ hb
    refine ⟨a :: A, List.mem_cons_self .., fun b hb => ?_⟩
    rcases List.mem_cons.mp hb with e | m
    · rw [e]
      exact ⟨vs, line_of (by rw [wellAll_len hall]; exact Nat.le_trans (PySem.W.length_le_weightAllW ds) z2), fun u hu => (h1 u hu).mono k, .inr ho⟩
    · exact (h2 b m).mono k
  | .float _, _, _, p, _ => Bool.noConfusion (show false = true from p)
  | .dict _, _, _, p, _ => Bool.noConfusion (show false = true from p)
  | .bytearray _, _, _, p, _ => Bool.noConfusion (show false = true from p)
  | .set _, _, _, p, _ => Bool.noConfusion (show false = true from p)
  | .frozenset _, _, _, p, _ => Bool.noConfusion (show false = true from p)
  | .obj _ _, _, _, p, _ => Bool.noConfusion (show false = true from p)
theorem area_all : ∀ (ds : List WData) (vs : List Value), WellAll P h vs ds → plWs ds = true → (∀ d ∈ ds, d.weight ≤ 1048576) → ∃ A : List Addr, (∀ u ∈ vs, OkU A u) ∧ ∀ a ∈ A, ArgOb h A a
  | [], _, x, _, _ => by
    cases x
    exact ⟨[], fun u m => absurd m (by simp), fun a m => absurd m (by simp)⟩
  | d :: ds, _, x, p, z => by
    obtain ⟨v, vs, rfl, x1, x2⟩ := well_cons x
    have q : plW d = true ∧ plWs ds = true := Bool.and_eq_true_iff.mp p
    obtain ⟨A, a1, a2⟩ := area_one d v x1 q.1 (z d (List.mem_cons_self ..))
    obtain ⟨B, b1, b2⟩ := area_all ds vs x2 q.2 fun e he => z e (List.mem_cons_of_mem _ he)
    have kA : ∀ b ∈ A, b ∈ A ++ B := fun b hb => List.mem_append.mpr (.inl hb)
    have kB : ∀ b ∈ B, b ∈ A ++ B := fun b hb => List.mem_append.mpr (.inr hb)
    refine ⟨A ++ B, fun u hu => ?_, fun b hb => ?_⟩
    · rcases List.mem_cons.mp hu with e | m
      · rw [e]
        exact a1.mono kA
      · exact (b1 u m).mono kB
    · rcases List.mem_append.mp hb with m | m
      · exact (a2 b m).mono kA
      · exact (b2 b m).mono kB
end
end
/-- what is tracked of an argument's object -/
def hoOf (o : Obj) : Option HO := match o.data with
  | .seq vs _ => if (o.cls == Value.type "list") = true then some (.frz o (.lst (vs.toList.map toV))) else some (.frz o (.tup (vs.toList.map toV)))
  | _ => none
def argH (K : PySem.W.Frag) (h : Heap) (A : List Addr) : Hp := fun b => if b ∈ A then (if (K.lookup b).isNone = true then (h.get? b).bind hoOf else none) else none
/-- nothing is tracked but what is known to the object -/
def OnlyF (H : Hp) : Prop := ∀ b, H b = none ∨ ∃ o u, H b = some (.frz o u)
theorem hoOf_lst (vs : List Value) : hoOf { cls := .type "list", data := .seq vs.toArray } = some (.frz { cls := .type "list", data := .seq vs.toArray } (.lst (vs.map toV))) := by
  show (if (Value.type "list" == Value.type "list") = true then some (HO.frz { cls := .type "list", data := .seq vs.toArray } (.lst (vs.toArray.toList.map toV))) else some (HO.frz { cls := .type "list", data := .seq vs.toArray } (.tup (vs.toArray.toList.map toV)))) = _
  rw [if_pos (beq_self_eq_true _)]
theorem hoOf_tup (vs : List Value) : hoOf { cls := .type "tuple", data := .seq vs.toArray } = some (.frz { cls := .type "tuple", data := .seq vs.toArray } (.tup (vs.map toV))) := by
  show (if (Value.type "tuple" == Value.type "list") = true then some (HO.frz { cls := .type "tuple", data := .seq vs.toArray } (.lst (vs.toArray.toList.map toV))) else some (HO.frz { cls := .type "tuple", data := .seq vs.toArray } (.tup (vs.toArray.toList.map toV)))) = _
  rw [if_neg (by decide)]
section
variable {P : Program} {w : World} {K : PySem.W.Frag} {h : Heap} {A : List Addr}
theorem argH_at {b : Addr} {o : Obj} (hb : b ∈ A) (hk : K.lookup b = none) (e : h.get? b = some o) : argH K h A b = hoOf o := by
  unfold argH
  rw [if_pos hb, hk, if_pos (show (none : Option Obj).isNone = true from rfl), e] <;> rfl
theorem of_argH {b : Addr} {u : HO} (q : argH K h A b = some u) : b ∈ A ∧ K.lookup b = none := by
  unfold argH at q
  by_cases hb : b ∈ A
  · rw [if_pos hb] at q
    cases hk : K.lookup b with
    | none => exact ⟨hb, rfl⟩
    | some o =>
      rw [hk, if_neg (by simp)] at q
      cases q
  · rw [if_neg hb] at q
    cases q
/-- what stands tracked -/
theorem argH_is (ar : ∀ a ∈ A, ArgOb h A a) {b : Addr} {u : HO} (q : argH K h A b = some u) : K.lookup b = none ∧ ∃ vs : List Value, vs.length ≤ sizeLine ∧ (∀ u ∈ vs, OkU A u) ∧
    ((h.get? b = some { cls := .type "list", data := .seq vs.toArray } ∧ u = .frz { cls := .type "list", data := .seq vs.toArray } (.lst (vs.map toV))) ∨
     (h.get? b = some { cls := .type "tuple", data := .seq vs.toArray } ∧ u = .frz { cls := .type "tuple", data := .seq vs.toArray } (.tup (vs.map toV)))) := by
  obtain ⟨hb, hk⟩ := of_argH q
  obtain ⟨vs, h1, h2, h3⟩ := ar b hb
  refine ⟨hk, vs, h1, h2, ?_⟩
  rcases h3 with e | e
  · rw [argH_at hb hk e, hoOf_lst] at q
    exact .inl ⟨e, (Option.some.inj q).symm⟩
  · rw [argH_at hb hk e, hoOf_tup] at q
    exact .inr ⟨e, (Option.some.inj q).symm⟩
theorem argH_only (ar : ∀ a ∈ A, ArgOb h A a) : OnlyF (argH K h A) := fun b => by
  cases q : argH K h A b with
  | none => exact .inl rfl
  | some u =>
    obtain ⟨_, vs, _, _, ⟨_, e⟩ | ⟨_, e⟩⟩ := argH_is ar q
    · exact .inr ⟨_, _, by rw [e]⟩
    · exact .inr ⟨_, _, by rw [e]⟩
theorem argH_ok (ar : ∀ a ∈ A, ArgOb h A a) : HOk P w (argH K h A) h := fun b u q => by
  obtain ⟨_, vs, h1, h2, ⟨e, rfl⟩ | ⟨e, rfl⟩⟩ := argH_is ar q
  · exact ⟨e, by rw [List.length_map]; exact h1, vs, _, vals_toV h2, e⟩
  · exact ⟨e, by rw [List.length_map]; exact h1, vs, vals_toV h2, _, e, rfl, _, rfl⟩
theorem seq_inj {c c' : Value} {vs us : List Value} (e : (some { cls := c, data := .seq vs.toArray } : Option Obj) = some { cls := c', data := .seq us.toArray }) : c = c' ∧ vs = us := by
  have e1 := Option.some.inj e
  have e2 : c = c' := congrArg Obj.cls e1
  have e3 : Data.seq vs.toArray = Data.seq us.toArray := congrArg Obj.data e1
  injection e3 with e4
  refine ⟨e2, ?_⟩
  have e5 := congrArg Array.toList e4
  simpa using e5
/-- a list argument -/
theorem argL (KX : K.In h) (ar : ∀ a ∈ A, ArgOb h A a) {a : Addr} {vs : List Value} (ha : a ∈ A) (e : h.get? a = some { cls := .type "list", data := .seq vs.toArray }) : (∀ u ∈ vs, OkU A u) ∧ SqL K (argH K h A) a (vs.map toV) := by
  obtain ⟨us, h1, h2, h3⟩ := ar a ha
  have hu : us = vs := by
    rcases h3 with q | q
    · rw [e] at q
      exact (seq_inj q).2.symm
    · rw [e] at q
      exact absurd (Value.type.inj (seq_inj q).1) (by decide)
  subst hu
  refine ⟨h2, ?_⟩
  cases hk : K.lookup a with
  | none => exact .inl (.inr ⟨_, by rw [argH_at ha hk e, hoOf_lst]⟩)
  | some o =>
    have e2 := KX a o hk
    rw [e] at e2
    obtain rfl := Option.some.inj e2
    exact .inr ⟨_, us.toArray, _, hk, rfl, rfl, rfl, by rw [List.size_toArray]; exact h1, by simpa using vals_toV h2⟩
theorem argT (KX : K.In h) (ar : ∀ a ∈ A, ArgOb h A a) {a : Addr} {vs : List Value} (ha : a ∈ A) (e : h.get? a = some { cls := .type "tuple", data := .seq vs.toArray }) : (∀ u ∈ vs, OkU A u) ∧ SqT K (argH K h A) a (vs.map toV) := by
  obtain ⟨us, h1, h2, h3⟩ := ar a ha
  have hu : us = vs := by
    rcases h3 with q | q
    · rw [e] at q
      exact absurd (Value.type.inj (seq_inj q).1) (by decide)
    · rw [e] at q
      exact (seq_inj q).2.symm
  subst hu
  refine ⟨h2, ?_⟩
  cases hk : K.lookup a with
  | none => exact .inl (.inr ⟨_, by rw [argH_at ha hk e, hoOf_tup]⟩)
  | some o =>
    have e2 := KX a o hk
    rw [e] at e2
    obtain rfl := Option.some.inj e2
    exact .inr ⟨_, us.toArray, _, hk, rfl, rfl, by rw [List.size_toArray]; exact h1, by simpa using vals_toV h2⟩
mutual
theorem dw_one {Pm : Params} (KX : K.In h) (ar : ∀ a ∈ A, ArgOb h A a) : ∀ (d : WData) (v : Value), Well Pm h v d → plW d = true → OkU A v → Dw K (argH K h A) (toV v) d
  | .none, _, x, _, _ => by
    cases x
    exact .non
  | .bool b, _, x, _, _ => by
    cases x
    exact .bl b
  | .int i, _, x, _, _ => by
    cases x
    exact .int i
  | .str s, _, x, _, _ => by
    cases x
    exact .str s
  | .bytes b, _, x, _, _ => by
    cases x
    have z := Dw.byt (K := K) (H := argH K h A) b.toArray
    exact z
  | .list ds, _, x, p, hu => by
    obtain ⟨a, vs, rfl, ho, hall⟩ := well_list x
    obtain ⟨h2, hs⟩ := argL KX ar hu ho
    exact .lst hs (dw_all KX ar ds _ hall p h2)
  | .tuple ds, _, x, p, hu => by
    obtain ⟨a, vs, rfl, ho, hall⟩ := well_tuple x
    obtain ⟨h2, hs⟩ := argT KX ar hu ho
    exact .tup hs (dw_all KX ar ds _ hall p h2)
  | .float _, _, _, p, _ => Bool.noConfusion (show false = true from p)
  | .dict _, _, _, p, _ => Bool.noConfusion (show false = true from p)
  | .bytearray _, _, _, p, _ => Bool.noConfusion (show false = true from p)
  | .set _, _, _, p, _ => Bool.noConfusion (show false = true from p)
  | .frozenset _, _, _, p, _ => Bool.noConfusion (show false = true from p)
  | .obj _ _, _, _, p, _ => Bool.noConfusion (show false = true from p)
theorem dw_all {Pm : Params} (KX : K.In h) (ar : ∀ a ∈ A, ArgOb h A a) : ∀ (ds : List WData) (vs : List Value), WellAll Pm h vs ds → plWs ds = true → (∀ u ∈ vs, OkU A u) → DwAll K (argH K h A) (vs.map toV) ds
  | [], _, x, _, _ => by
    cases x
    exact .nil
  | d :: ds, _, x, p, hu => by
    obtain ⟨v, vs, rfl, x1, x2⟩ := well_cons x
    have q : plW d = true ∧ plWs ds = true := Bool.and_eq_true_iff.mp p
    exact .cons (dw_one KX ar d v x1 q.1 (hu _ (List.mem_cons_self ..))) (dw_all KX ar ds vs x2 q.2 fun u m => hu u (List.mem_cons_of_mem _ m))
end
end
/-! ### the call -/
theorem spec_call {P : Program} {w : World} {K : PySem.W.Frag} {mg mb : Str → Option Value} {CX : CXT} {k : Nat} {fa : Addr} {fd : FuncData} {ps : List Str} {sp : Sp} {s₁ : Shared} {vals : List Value} {ds : List WData} {R : PySem.W.WRecords} {cl : Str → Option Addr} {d0 : WData}
    (KX : K.In s₁.heap) (hns : s₁.heap.Ns mainGlobals mg) (hb : s₁.heap.Ns builtinsNs mb) (hbb : ∀ x : Str, x ≠ "__name__" → mb x = bootBuiltins x) (hlim : s₁.heap.NoLimit) (hg : s₁.gens = #[])
    (hwl : WellAll w.params s₁.heap vals ds) (hpl : plWs ds = true) (hwt : ∀ d ∈ ds, d.weight ≤ 1048576) (hr : Room k callerA)
    (F : ∀ base : Heap, K.In base → base.Ns mainGlobals mg → FnOk P w K mg base CX k fa fd ps sp) (hbind : ∀ (s : Shared) (us : List Value), us.length = ps.length → BindsTo s fd ⟨us, []⟩ (ps.zip us)) (hlen : ds.length = ps.length)
    (hsp : ∀ (H : Hp) (xs : List V), OnlyF H → DwAll K H xs ds → sp xs H (fun v H' => Dw K H' v d0) fun _ _ _ => False)
    (hCX : ∀ H e s', CX [] H s₁ (fun _ _ _ => False) e s' → False) :
    codeAny (model P w) callerA (.call (.ref fa) ⟨vals, []⟩) (fun r s' => ∃ u as, r = .ok (.ret u) ∧ ReadsW R cl s'.heap u d0 as ∧ OldK s₁.heap s'.heap ∧ s'.os = s₁.os ∧ AllBare s'.gens) s₁ := by
  obtain ⟨A, ho, ar⟩ := area_all ds vals hwl hpl hwt
  have hO : OnlyF (argH K s₁.heap A) := argH_only ar
  have hok : HOk P w (argH K s₁.heap A) s₁.heap := argH_ok ar
  have hS := dw_all KX ar ds vals hwl hpl ho
  have hV := vals_toV ho
  have hK : ∀ b u, argH K s₁.heap A b = some u → K.lookup b = none := fun b u q => (argH_is ar q).1
  have noA : ∀ {b : Addr} {o : Obj} {es : Array DictEntry} {ep : Nat}, s₁.heap.get? b = some o → o.data = .dict es ep → argH K s₁.heap A b = none := fun {b o es ep} e d => by
    cases q : argH K s₁.heap A b with
    | none => rfl
    | some u =>
      obtain ⟨_, vs, _, _, ⟨e2, _⟩ | ⟨e2, _⟩⟩ := argH_is ar q
      · rw [e2] at e
        cases e
        have d' : Data.seq vs.toArray _ = Data.dict es ep := d
        cases d'
      · rw [e2] at e
        cases e
        have d' : Data.seq vs.toArray _ = Data.dict es ep := d
        cases d'
  generalize argH K s₁.heap A = H at hO hok hS hK noA
  have base_of : ∀ {b : Addr} {o : Obj}, s₁.heap.get? b = some o → H b = none → (hidT s₁.heap H).get? b = some o := fun e n => hidT_get e n
  have nsK : ∀ {b : Addr} {m : Str → Option Value}, s₁.heap.Ns b m → (hidT s₁.heap H).Ns b m := fun {b m} ⟨o, es, ep, e, d, r⟩ => ⟨o, es, ep, base_of e (noA e d), d, r⟩
  have nK : ∀ b o, K.lookup b = some o → H b = none := fun b o e => by
    cases q : H b with
    | none => rfl
    | some u =>
      rw [hK b u q] at e
      cases e
  have hKb : K.In (hidT s₁.heap H) := fun b o e => base_of (KX b o e) (nK b o e)
  have hM : Mod K mg (hidT s₁.heap H) := ⟨hKb, nsK hns, ⟨mb, nsK hb, hbb⟩, let ⟨mc, h1, h2⟩ := hlim; ⟨mc, nsK h1, h2⟩⟩
  have e0 : Env0 P w K mg (hidT s₁.heap H) callerA [] s₁ H := ⟨rfl, hM, fun b o e => of_hidT e, Nat.le_of_eq (hidT_size _ _), trivial, fun b hb => absurd (show b ∈ ([] : List Addr) from hb) (by simp), hok, .of_eq hg⟩
  have hl : vals.length = ps.length := by rw [wellAll_len hwl]; exact hlen
  refine codeAny_mono ((F _ hKb (nsK hns)).run callerA [] s₁ H ⟨vals, []⟩ vals (vals.map toV) _ _ hr e0 (hbind s₁ vals hl) hV (hsp H _ hO hS)) fun r s' x => ?_
  cases r with
  | error e => exact (hCX H e s' x).elim
  | ok fl =>
    cases fl with
    | next => exact False.elim x
    | brk => exact False.elim x
    | cont => exact False.elim x
    | ret u =>
      obtain ⟨v, H', os, bare, un, hok', r', q⟩ := x
      have kept : ∀ b o, s₁.heap.get? b = some o → s'.heap.get? b = some o := fun b o e => by
        cases q2 : H b with
        | none => exact un.keep b o e q2 (by intro z; exact absurd (show b ∈ ([] : List Addr) from z) (by simp)) (by simp)
        | some u2 =>
          rcases hO b with z | ⟨ob, u3, z⟩
          · rw [q2] at z
            cases z
          · have z2 := un.frzs b ob _ z
            obtain ⟨e1, _⟩ := hok b _ z
            obtain ⟨e2, _⟩ := hok' b _ z2
            rw [e] at e1
            cases e1
            exact e2
      have KX' : K.In s'.heap := fun b o e => kept b o (KX b o e)
      obtain ⟨as, hrd⟩ := Dw.reads (R := R) (cl := cl) hok' KX' d0 v u q r'
      exact ⟨u, as, rfl, hrd, OldK.of_keep kept, os, bare⟩
/-! ### the row -/
theorem layable_weight {ds : List WData} (h : WData.layableAll ds = true) : ∀ d ∈ ds, d.weight ≤ 1048576 := fun d hd =>
  (PySem.W.layableW_iff.mp (List.all_eq_true.mp h d hd)).2.2
theorem encAll_len : ∀ (cs : List Codec) (a : Codec.denoteAll cs), (Codec.encAll cs a).length = cs.length
  | [], _ => rfl
  | c :: cs, a => by
    show (Codec.encAll cs a.2).length + 1 = cs.length + 1
    rw [encAll_len cs a.2]
/-- the goal that k_headS leaves (case hc), from the promise of the row's def: whatever the arguments that the codecs let and the row asks for, the def gives what stands for enc (f ..) -/
theorem walk_spec {r : OpenSpec} {k : Nat} {q : Program} {loose : List Str} {XP : (Str → Option Value) → Heap → Prop} {YP : World → Heap → Prop} {d : DefRec} {K : Params → PySem.W.Frag} {CX : World → CXT} {ps : List Str} {sp : World → Sp}
    (hwell : r.wellSaid = true) (hdf : d.params.defaults = []) (hlen : r.args.length = ps.length) (hr : Room k callerA)
    (hY : ∀ (w : World) (h : Heap), YP w h → (K w.params).In h)
    (F : ∀ (w : World) (mg : Str → Option Value) (fa : Addr) (h : Heap), YP w h → (K w.params).In h → h.Ns mainGlobals mg → mg d.name = some (.ref fa) →
      ∃ fd : FuncData, (∀ (s : Shared) (us : List Value), us.length = ps.length → BindsTo s fd ⟨us, []⟩ (ps.zip us)) ∧
        ∀ base : Heap, (K w.params).In base → base.Ns mainGlobals mg → FnOk r.prog w (K w.params) mg base (CX w) k fa fd ps (sp w))
    (hsp : ∀ (w : World) (H : Hp) (xs : List V) (a : Codec.denoteAll r.args), OnlyF H → Codec.withinAll r.args a = true → Codec.app r.args r.asked a = true → DwAll (K w.params) H xs (Codec.encAll r.args a) →
      sp w xs H (fun v H' => Dw (K w.params) H' v (r.ret.enc (Codec.app r.args r.f a))) fun _ _ _ => False)
    (hCX : ∀ (w : World) (H : Hp) (s : Shared) (e : Value) (s' : Shared), CX w [] H s (fun _ _ _ => False) e s' → False) :
    PySem.W.WalkOS q loose XP YP r d [] (fun f vs => PySem.call f vs) := by
  intro w s_0 s₁ mg mb G Y fa o pm cd doc dV kV ho hd hcd hD hmg hg args vals as hpre hlay hrd hwl hlo
  obtain ⟨a, e1, e2⟩ := PySem.W.os_pre_some hpre
  obtain ⟨e3, hwi⟩ := Codec.encAll_of_decAll r.args args a e1
  subst e3
  have KX := hY w _ Y
  obtain ⟨fd, hb, hF⟩ := F w mg fa _ Y KX G.T.g hmg
  refine PySem.W.enter_call (codeAny_mono (spec_call (R := []) (cl := classAt s_0.heap) (d0 := r.ret.enc (Codec.app r.args r.f a)) KX G.T.g G.T.b G.T.builtins G.T.nolimit hg hwl (pl_encAll _ _) (layable_weight hlay) hr hF hb (by rw [encAll_len]; exact hlen)
    (fun H xs hO hS => hsp w H xs a hO hwi e2 hS) fun H e s' => hCX w H s₁ e s') fun r' s' hq => ?_)
  obtain ⟨u, as', rfl, h1, h2, h3, h4⟩ := hq
  exact ⟨.inl ⟨u, _, as', rfl, fun _ => rfl, h1, (OpenSpec.post_iff hwell hwi _ _).mpr rfl, fun z => Bool.noConfusion (show false = true from z)⟩, h2, h3, h4⟩
/-- the same where the promise hangs on the written part alone -/
theorem walk_specK {r : OpenSpec} {k : Nat} {q : Program} {loose : List Str} {XP : (Str → Option Value) → Heap → Prop} {YP : World → Heap → Prop} {d : DefRec} {K : Params → PySem.W.Frag} {CX : CXT} {ps : List Str} {sp : PySem.W.Frag → Sp}
    (hwell : r.wellSaid = true) (hdf : d.params.defaults = []) (hlen : r.args.length = ps.length) (hr : Room k callerA)
    (hY : ∀ (w : World) (h : Heap), YP w h → (K w.params).In h)
    (F : ∀ (w : World) (mg : Str → Option Value) (fa : Addr) (h : Heap), YP w h → (K w.params).In h → h.Ns mainGlobals mg → mg d.name = some (.ref fa) →
      ∃ fd : FuncData, (∀ (s : Shared) (us : List Value), us.length = ps.length → BindsTo s fd ⟨us, []⟩ (ps.zip us)) ∧
        ∀ base : Heap, (K w.params).In base → base.Ns mainGlobals mg → FnOk r.prog w (K w.params) mg base CX k fa fd ps (sp (K w.params)))
    (hsp : ∀ (K : PySem.W.Frag) (H : Hp) (xs : List V) (a : Codec.denoteAll r.args), OnlyF H → Codec.withinAll r.args a = true → Codec.app r.args r.asked a = true → DwAll K H xs (Codec.encAll r.args a) →
      sp K xs H (fun v H' => Dw K H' v (r.ret.enc (Codec.app r.args r.f a))) fun _ _ _ => False)
    (hCX : ∀ (H : Hp) (s : Shared) (e : Value) (s' : Shared), CX [] H s (fun _ _ _ => False) e s' → False) :
    PySem.W.WalkOS q loose XP YP r d [] (fun f vs => PySem.call f vs) :=
  walk_spec (K := K) (CX := fun _ => CX) (sp := fun w => sp (K w.params)) hwell hdf hlen hr hY F (fun w H xs a h1 h2 h3 h4 => hsp (K w.params) H xs a h1 h2 h3 h4) fun _ H s e s' => hCX H s e s'
end L2
-- rests on (row put in by the clerk, for the bench that shows a file only what it spells): KE.SpHead KE.OsShapes
end

/-! Marked grains: what the specification's courses are worth. A subflow is a lower bound of the most, a cut an upper one; together they tell it. The least by the other tanks. -/
namespace MG
open Ks175

/-! ### sums over tanks -/
def sumT (f : Nat → Nat) : Nat → Nat
  | 0 => 0
  | n + 1 => sumT f n + f n
theorem sumT_le {f g : Nat → Nat} : ∀ {n : Nat}, (∀ t, t < n → f t ≤ g t) → sumT f n ≤ sumT g n
  | 0, _ => Nat.le_refl _
  | n + 1, h => Nat.add_le_add (sumT_le fun t ht => h t (Nat.lt_succ_of_lt ht)) (h n (Nat.lt_succ_self n))
theorem sumT_congr {f g : Nat → Nat} : ∀ {n : Nat}, (∀ t, t < n → f t = g t) → sumT f n = sumT g n
  | 0, _ => rfl
  | n + 1, h => by
    show sumT f n + f n = sumT g n + g n
    rw [sumT_congr fun t ht => h t (Nat.lt_succ_of_lt ht), h n (Nat.lt_succ_self n)]
theorem sumT_add (f g : Nat → Nat) : ∀ n : Nat, sumT (fun t => f t + g t) n = sumT f n + sumT g n
  | 0 => rfl
  | n + 1 => by
    show sumT (fun t => f t + g t) n + (f n + g n) = (sumT f n + f n) + (sumT g n + g n)
    rw [sumT_add f g n]
    omega
theorem sumT_zero : ∀ n : Nat, sumT (fun _ => 0) n = 0
  | 0 => rfl
  | n + 1 => by
    show sumT (fun _ => 0) n + 0 = 0
    rw [sumT_zero n]
theorem sumT_single (a v : Nat) : ∀ n : Nat, sumT (fun t => if t = a then v else 0) n = if a < n then v else 0
  | 0 => by
    show 0 = _
    rw [if_neg (Nat.not_lt_zero a)]
  | n + 1 => by
    show sumT (fun t => if t = a then v else 0) n + (if n = a then v else 0) = _
    rw [sumT_single a v n]
    by_cases h1 : a < n
    · rw [if_pos h1, if_neg (by omega), if_pos (by omega)]
      omega
    · by_cases h2 : n = a
      · rw [if_neg h1, if_pos h2, if_pos (by omega)]
        omega
      · rw [if_neg h1, if_neg h2, if_neg (by omega)]
/-- the numbers of a set of tanks together -/
def onP (n : Nat) (U : Nat → Bool) (x : List Nat) : Nat := sumT (fun t => if U t then x.getD t 0 else 0) n
theorem foldl_add : ∀ (l : List Nat) (a : Nat), l.foldl (· + ·) a = a + l.foldl (· + ·) 0
  | [], a => rfl
  | x :: l, a => by
    show l.foldl (· + ·) (a + x) = a + l.foldl (· + ·) (0 + x)
    rw [foldl_add l (a + x), foldl_add l (0 + x)]
    omega
theorem sum_range (f : Nat → Nat) : ∀ n : Nat, sum ((List.range n).map f) = sumT f n
  | 0 => rfl
  | n + 1 => by
    rw [List.range_succ, List.map_append]
    show List.foldl (· + ·) 0 (_ ++ _) = sumT f n + f n
    rw [List.foldl_append, foldl_add]
    have := sum_range f n
    unfold sum at this
    rw [this]
    show _ + (0 + f n) = _
    omega
theorem on_eq (set : Nat) (x : List Nat) : on set x = onP x.length (fun t => set.testBit t) x := sum_range _ _
theorem onP_split (n : Nat) (U : Nat → Bool) (x : List Nat) : onP n U x + onP n (fun t => !U t) x = sumT (fun t => x.getD t 0) n := by
  unfold onP
  rw [← sumT_add]
  have key : ∀ (b : Bool) (v : Nat), (if b = true then v else 0) + (if (!b) = true then v else 0) = v := by
    intro b v
    cases b <;> simp
  exact sumT_congr fun t _ => key _ _

/-! ### lists by places -/
theorem getD_set (l : List Nat) (t v u : Nat) : (l.set t v).getD u 0 = if u = t ∧ t < l.length then v else l.getD u 0 := by
  rw [List.getD_eq_getElem?_getD, List.getElem?_set, List.getD_eq_getElem?_getD]
  by_cases h1 : t = u
  · subst h1
    rw [if_pos rfl]
    by_cases h2 : t < l.length
    · rw [if_pos h2, if_pos ⟨rfl, h2⟩]
      rfl
    · rw [if_neg h2, if_neg (fun h => h2 h.2), List.getElem?_eq_none (by omega)]
  · rw [if_neg h1, if_neg (fun h => h1 h.1.symm)]
theorem add_length (l : List Nat) (t n : Nat) : (add l t n).length = l.length := List.length_set
theorem less_length (l : List Nat) (t n : Nat) : (less l t n).length = l.length := List.length_set
theorem add_at {l : List Nat} {t : Nat} (n u : Nat) (h : t < l.length) : (add l t n).getD u 0 = l.getD u 0 + if u = t then n else 0 := by
  unfold add
  rw [getD_set]
  by_cases e : u = t
  · subst e
    rw [if_pos ⟨rfl, h⟩, if_pos rfl]
  · rw [if_neg (fun h => e h.1), if_neg e]
    rfl
theorem less_at {l : List Nat} {t : Nat} (n u : Nat) (h : t < l.length) : (less l t n).getD u 0 = if u = t then l.getD t 0 - n else l.getD u 0 := by
  unfold less
  rw [getD_set]
  by_cases e : u = t
  · subst e
    rw [if_pos ⟨rfl, h⟩, if_pos rfl]
  · rw [if_neg (fun h => e h.1), if_neg e]
/-- what lies where after a pouring of m from a to b -/
theorem pour_at {l : List Nat} {a b : Nat} (m u : Nat) (ha : a < l.length) (hb : b < l.length) (ab : a ≠ b) :
    (add (less l a m) b m).getD u 0 = if u = a then l.getD a 0 - m else if u = b then l.getD b 0 + m else l.getD u 0 := by
  rw [add_at m u (by rw [less_length]; exact hb), less_at m u ha]
  by_cases e1 : u = a
  · subst e1
    rw [if_pos rfl, if_neg ab, if_pos rfl]
    rfl
  · by_cases e2 : u = b
    · subst e2
      rw [if_neg e1, if_pos rfl, if_neg e1, if_pos rfl]
    · rw [if_neg e1, if_neg e2, if_neg e1, if_neg e2]
      rfl
theorem pour_length (l : List Nat) (a b m : Nat) : (add (less l a m) b m).length = l.length := by rw [add_length, less_length]

/-! ### what went on, from behind -/
theorem snoc_ind {α : Type} {P : List α → Prop} (h0 : P []) (h1 : ∀ l e, P l → P (l ++ [e])) : ∀ l, P l := by
  have key : ∀ (k : Nat) (l : List α), l.length = k → P l := by
    intro k
    induction k with
    | zero =>
      intro l hl
      cases l with
      | nil => exact h0
      | cons => cases hl
    | succ k ih =>
      intro l hl
      rcases List.eq_nil_or_concat l with rfl | ⟨l', b, rfl⟩
      · cases hl
      · rw [List.concat_eq_append] at hl ⊢
        refine h1 l' b (ih l' ?_)
        rw [List.length_append] at hl
        simp at hl
        exact hl
  exact fun l => key l.length l rfl
/-- the grains in each tank -/
def gr (n : Nat) (l : List Went) : List Nat := (courses n l).1
/-- the marked ones in each, by each course -/
def my (n : Nat) (l : List Went) : List (List Nat) := (courses n l).2
theorem courses_snoc (n : Nat) (l : List Went) (e : Went) : courses n (l ++ [e]) = (after (gr n l) e, ((my n l).flatMap fun x => next (gr n l) x e).eraseDups) := by
  unfold courses gr my courses
  rw [List.foldl_append]
  rfl
theorem gr_snoc (n : Nat) (l : List Went) (e : Went) : gr n (l ++ [e]) = after (gr n l) e := by
  show (courses n (l ++ [e])).1 = _
  rw [courses_snoc]
theorem my_snoc {n : Nat} {l : List Went} {e : Went} {y : List Nat} : y ∈ my n (l ++ [e]) ↔ ∃ x, x ∈ my n l ∧ y ∈ next (gr n l) x e := by
  show y ∈ (courses n (l ++ [e])).2 ↔ _
  rw [courses_snoc]
  show y ∈ List.eraseDups _ ↔ _
  rw [List.mem_eraseDups, List.mem_flatMap]
theorem gr_nil (n : Nat) : gr n [] = none_ n := rfl
theorem my_nil {n : Nat} {y : List Nat} : y ∈ my n [] ↔ y = none_ n := by
  show y ∈ [none_ n] ↔ _
  exact List.mem_singleton
theorem none_at (n t : Nat) : (none_ n).getD t 0 = 0 := by
  unfold none_
  rw [List.getD_eq_getElem?_getD, List.getElem?_replicate]
  by_cases h : t < n
  · rw [if_pos h]
    rfl
  · rw [if_neg h]
    rfl
theorem none_length (n : Nat) : (none_ n).length = n := List.length_replicate
/-- a coming in, a pouring that isn't refused -/
def okEv (n : Nat) (c : List Nat) : Went → Prop
  | .in_ t a lo hi => t < n ∧ lo ≤ hi ∧ hi ≤ a
  | .pour a b m => a < n ∧ b < n ∧ a ≠ b ∧ m ≤ c.getD a 0
inductive Ok (n : Nat) : List Went → Prop
  | nil : Ok n []
  | snoc {l e} : Ok n l → okEv n (gr n l) e → Ok n (l ++ [e])
theorem after_length (c : List Nat) (e : Went) : (after c e).length = c.length := by
  cases e with
  | in_ t a lo hi => exact add_length _ _ _
  | pour a b m => exact pour_length _ _ _ _
theorem gr_length (n : Nat) : ∀ l, (gr n l).length = n :=
  snoc_ind (none_length n) fun l e ih => by rw [gr_snoc, after_length, ih]
theorem next_in {c x : List Nat} {t a lo hi : Nat} {y : List Nat} (h : lo ≤ hi) : y ∈ next c x (.in_ t a lo hi) ↔ ∃ k, lo ≤ k ∧ k ≤ hi ∧ y = add x t k := by
  unfold next
  rw [List.mem_map]
  constructor
  · rintro ⟨k, hk, rfl⟩
    rw [List.mem_range] at hk
    exact ⟨lo + k, by omega, by omega, rfl⟩
  · rintro ⟨k, h1, h2, rfl⟩
    exact ⟨k - lo, List.mem_range.mpr (by omega), by rw [show lo + (k - lo) = k by omega]⟩
theorem next_pour {c x : List Nat} {a b n : Nat} {y : List Nat} : y ∈ next c x (.pour a b n) ↔ ∃ m, m ≤ n ∧ m ≤ x.getD a 0 ∧ n - m ≤ c.getD a 0 - x.getD a 0 ∧ y = add (less x a m) b m := by
  unfold next
  rw [List.mem_map]
  constructor
  · rintro ⟨m, hm, rfl⟩
    rw [List.mem_filter, List.mem_range, Bool.and_eq_true, decide_eq_true_eq, decide_eq_true_eq] at hm
    exact ⟨m, by omega, hm.2.1, hm.2.2, rfl⟩
  · rintro ⟨m, h1, h2, h3, rfl⟩
    refine ⟨m, ?_, rfl⟩
    rw [List.mem_filter, List.mem_range, Bool.and_eq_true, decide_eq_true_eq, decide_eq_true_eq]
    exact ⟨by omega, h2, h3⟩
/-- every course's numbers: as many as tanks; no more than grains -/
theorem my_ok {n : Nat} {l : List Went} (ok : Ok n l) : ∀ x, x ∈ my n l → x.length = n ∧ ∀ t, x.getD t 0 ≤ (gr n l).getD t 0 := by
  induction ok with
  | nil =>
    intro x hx
    rw [my_nil] at hx
    subst hx
    exact ⟨none_length n, fun t => by rw [none_at]; exact Nat.zero_le _⟩
  | @snoc l e ok he ih =>
    intro y hy
    obtain ⟨x, hx, hy⟩ := my_snoc.mp hy
    obtain ⟨hl, hle⟩ := ih x hx
    have gl := gr_length n l
    rw [gr_snoc]
    cases e with
    | in_ t a lo hi =>
      obtain ⟨ht, h1, h2⟩ := he
      obtain ⟨k, k1, k2, rfl⟩ := (next_in h1).mp hy
      refine ⟨by rw [add_length, hl], fun u => ?_⟩
      show (add x t k).getD u 0 ≤ (add (gr n l) t a).getD u 0
      rw [add_at k u (by omega), add_at a u (by omega)]
      have := hle u
      split <;> omega
    | pour a b m =>
      obtain ⟨ha, hb, ab, hm⟩ := he
      obtain ⟨k, k1, k2, k3, rfl⟩ := next_pour.mp hy
      refine ⟨by rw [pour_length, hl], fun u => ?_⟩
      show _ ≤ (add (less (gr n l) a m) b m).getD u 0
      rw [pour_at k u (by omega) (by omega) ab, pour_at m u (by omega) (by omega) ab]
      have := hle u
      have := hle a
      have := hle b
      split
      · omega
      · split <;> omega

/-! ### cuts: at each time i a set U i of tanks; what lies in the last one is no more than what the cut lets through -/
/-- which of its two numbers a coming in is held by -/
def capE (cap : Nat → Nat → Nat) : Went → Nat
  | .in_ _ _ lo hi => cap lo hi
  | .pour _ _ _ => 0
def loC (lo _hi : Nat) : Nat := lo
def hiC (_lo hi : Nat) : Nat := hi
/-- what goes through the cut at one step: U ahead of it, V behind it -/
def cost (cap : Nat → Nat → Nat) (c : List Nat) (U V : Nat → Bool) : Went → Nat
  | .in_ t _ lo hi => if V t then cap lo hi else 0
  | .pour a b n => (if !U a && V b then n else 0) + (if !U a && V a then c.getD a 0 - n else 0)
/-- the ways without a bound are not cut -/
def shut (U V : Nat → Bool) : Went → Prop
  | .in_ _ _ _ _ => ∀ t, V t = true → U t = true
  | .pour a _ _ => ∀ t, t ≠ a → V t = true → U t = true
inductive Cut (cap : Nat → Nat → Nat) (n : Nat) : List Went → (Nat → Bool) → Nat → Prop
  | nil (U) : Cut cap n [] U 0
  | snoc {l e U V c} : Cut cap n l U c → shut U V e → Cut cap n (l ++ [e]) V (c + cost cap (gr n l) U V e)
/-- the comings in together -/
def total (cap : Nat → Nat → Nat) (l : List Went) : Nat := (l.map (capE cap)).sum
theorem total_snoc (cap : Nat → Nat → Nat) (l : List Went) (e : Went) : total cap (l ++ [e]) = total cap l + capE cap e := by
  unfold total
  rw [List.map_append, List.sum_append]
  simp
theorem snoc_inj {α : Type} {l l' : List α} {e e' : α} (h : l ++ [e] = l' ++ [e']) : l = l' ∧ e = e' := by
  obtain ⟨h1, h2⟩ := List.append_inj' h rfl
  exact ⟨h1, (List.cons.inj h2).1⟩

theorem onP_none (n : Nat) (U : Nat → Bool) (m : Nat) : onP n U (none_ m) = 0 := by
  unfold onP
  rw [sumT_congr (g := fun _ => 0), sumT_zero]
  intro t _
  rw [none_at]
  split <;> rfl
theorem onP_add {n : Nat} {U : Nat → Bool} {x : List Nat} {t : Nat} (k : Nat) (hl : x.length = n) (ht : t < n) : onP n U (add x t k) = onP n U x + if U t then k else 0 := by
  unfold onP
  have e : sumT (fun u => if U u = true then (add x t k).getD u 0 else 0) n = sumT (fun u => (if U u = true then x.getD u 0 else 0) + (if u = t then (if U t then k else 0) else 0)) n := by
    refine sumT_congr fun u _ => ?_
    rw [add_at k u (by omega)]
    by_cases e : u = t
    · subst e
      rw [if_pos rfl, if_pos rfl]
      split <;> omega
    · rw [if_neg e, if_neg e]
      split <;> omega
  rw [e, sumT_add, sumT_single, if_pos ht]
/-- one place out of a sum -/
theorem onP_out {n : Nat} (U : Nat → Bool) (x : List Nat) {a : Nat} (ha : a < n) : onP n U x = onP n (fun t => U t && !decide (t = a)) x + if U a then x.getD a 0 else 0 := by
  unfold onP
  rw [show (if U a = true then x.getD a 0 else 0) = sumT (fun t => if t = a then (if U a = true then x.getD a 0 else 0) else 0) n by rw [sumT_single, if_pos ha], ← sumT_add]
  refine sumT_congr fun t _ => ?_
  by_cases e : t = a
  · subst e
    simp
  · simp [e]
theorem onP_congr {n : Nat} {U : Nat → Bool} {x y : List Nat} (h : ∀ t, t < n → U t = true → x.getD t 0 = y.getD t 0) : onP n U x = onP n U y := by
  unfold onP
  refine sumT_congr fun t ht => ?_
  cases e : U t with
  | true =>
    rw [if_pos rfl, if_pos rfl]
    exact h t ht e
  | false => rfl
theorem onP_mono {n : Nat} {U V : Nat → Bool} {x y : List Nat} (h : ∀ t, t < n → U t = true → V t = true ∧ x.getD t 0 ≤ y.getD t 0) : onP n U x ≤ onP n V y := by
  unfold onP
  refine sumT_le fun t ht => ?_
  cases e : U t with
  | true =>
    have := h t ht e
    rw [this.1]
    exact this.2
  | false => exact Nat.zero_le _
/-- all tanks -/
def allT : Nat → Bool := fun _ => true
/-- a pouring's worth in a set: without a and b, then a, then b -/
theorem onP_pour {n : Nat} {U : Nat → Bool} {x : List Nat} {a b : Nat} (m : Nat) (hl : x.length = n) (ha : a < n) (hb : b < n) (ab : a ≠ b) :
    onP n U (add (less x a m) b m) = onP n (fun t => (U t && !decide (t = a)) && !decide (t = b)) x + (if U b then x.getD b 0 + m else 0) + if U a then x.getD a 0 - m else 0 := by
  rw [onP_out U _ ha, onP_out (fun t => U t && !decide (t = a)) _ hb]
  rw [pour_at m a (by omega) (by omega) ab, if_pos rfl, pour_at m b (by omega) (by omega) ab, if_neg (Ne.symm ab), if_pos rfl]
  have e : (U b && !decide (b = a)) = U b := by simp [Ne.symm ab]
  rw [e]
  congr 2
  refine onP_congr fun t ht h => ?_
  rw [pour_at m t (by omega) (by omega) ab]
  simp at h
  rw [if_neg h.1.2, if_neg h.2]
theorem onP_two {n : Nat} {U : Nat → Bool} {x : List Nat} {a b : Nat} (ha : a < n) (hb : b < n) (ab : a ≠ b) :
    onP n U x = onP n (fun t => (U t && !decide (t = a)) && !decide (t = b)) x + (if U b then x.getD b 0 else 0) + if U a then x.getD a 0 else 0 := by
  rw [onP_out U _ ha, onP_out (fun t => U t && !decide (t = a)) _ hb]
  have e : (U b && !decide (b = a)) = U b := by simp [Ne.symm ab]
  rw [e]
theorem onP_all_pour {n : Nat} {x : List Nat} {a b : Nat} {m : Nat} (hl : x.length = n) (ha : a < n) (hb : b < n) (ab : a ≠ b) (hm : m ≤ x.getD a 0) :
    onP n allT (add (less x a m) b m) = onP n allT x := by
  rw [onP_pour m hl ha hb ab, onP_two (U := allT) (x := x) ha hb ab]
  simp only [allT, if_true]
  omega
/-- one pouring's step over the cut -/
theorem cut_pour {n : Nat} {U V : Nat → Bool} {x : List Nat} {a b : Nat} {k m ca : Nat} (hl : x.length = n) (ha : a < n) (hb : b < n) (ab : a ≠ b)
    (sh : ∀ t, t ≠ a → V t = true → U t = true) (k1 : k ≤ m) (k2 : k ≤ x.getD a 0) (k3 : x.getD a 0 - k ≤ ca - m) :
    onP n V (add (less x a k) b k) ≤ onP n U x + ((if !U a && V b then m else 0) + (if !U a && V a then ca - m else 0)) := by
  rw [onP_pour k hl ha hb ab, onP_two (U := U) ha hb ab]
  have h1 : onP n (fun t => (V t && !decide (t = a)) && !decide (t = b)) x ≤ onP n (fun t => (U t && !decide (t = a)) && !decide (t = b)) x := by
    refine onP_mono fun t _ h => ⟨?_, Nat.le_refl _⟩
    simp at h ⊢
    exact ⟨⟨sh t h.1.2 h.1.1, h.1.2⟩, h.2⟩
  have h2 : V b = true → U b = true := sh b (Ne.symm ab)
  generalize x.getD a 0 = xa at *
  generalize x.getD b 0 = xb at *
  cases e1 : V b <;> cases e2 : V a <;> cases e3 : U a <;> cases e4 : U b <;> simp [e1, e4] at h2 ⊢ <;> omega
theorem cut_le {cap : Nat → Nat → Nat} {n : Nat} {l : List Went} (ok : Ok n l) : ∀ {U c}, Cut cap n l U c → (∀ lo hi, cap lo hi = hi) → ∀ x, x ∈ my n l → onP n U x ≤ c := by
  induction ok with
  | nil =>
    intro U c _ _ x hx
    rw [my_nil] at hx
    subst hx
    rw [onP_none]
    exact Nat.zero_le _
  | @snoc l e ok he ih =>
    intro V c hc hcap y hy
    generalize hL : l ++ [e] = L at hc
    cases hc with
    | nil U => simp at hL
    | @snoc l' e' U V c hc sh =>
      obtain ⟨rfl, rfl⟩ := snoc_inj hL
      obtain ⟨x, hx, hy⟩ := my_snoc.mp hy
      have hx' := ih hc hcap x hx
      obtain ⟨hl, hle⟩ := my_ok ok x hx
      cases e with
      | in_ t a lo hi =>
        obtain ⟨ht, h1, h2⟩ := he
        obtain ⟨k, k1, k2, rfl⟩ := (next_in h1).mp hy
        rw [onP_add k hl ht]
        have h3 : onP n V x ≤ onP n U x := onP_mono fun t _ h => ⟨sh t h, Nat.le_refl _⟩
        show _ ≤ c + (if V t = true then cap lo hi else 0)
        rw [hcap]
        split <;> omega
      | pour a b m =>
        obtain ⟨ha, hb, ab, hm⟩ := he
        obtain ⟨k, k1, k2, k3, rfl⟩ := next_pour.mp hy
        have := hle a
        have := cut_pour (V := V) (U := U) (m := m) (ca := (gr n l).getD a 0) hl ha hb ab sh k1 k2 (by omega)
        show _ ≤ c + ((if (!U a && V b) = true then m else 0) + (if (!U a && V a) = true then (gr n l).getD a 0 - m else 0))
        omega
/-- the least: what is outside of the cut's last set, and what the cut lets through, are no less than the leasts together -/
theorem cut_ge {n : Nat} {l : List Went} (ok : Ok n l) : ∀ {U c}, Cut loC n l U c → ∀ x, x ∈ my n l → total loC l ≤ onP n (fun t => !U t) x + c := by
  induction ok with
  | nil =>
    intro U c _ x hx
    exact Nat.zero_le _
  | @snoc l e ok he ih =>
    intro V c hc y hy
    generalize hL : l ++ [e] = L at hc
    cases hc with
    | nil U => simp at hL
    | @snoc l' e' U V c hc sh =>
      obtain ⟨rfl, rfl⟩ := snoc_inj hL
      obtain ⟨x, hx, hy⟩ := my_snoc.mp hy
      have hx' := ih hc x hx
      obtain ⟨hl, hle⟩ := my_ok ok x hx
      rw [total_snoc]
      have s1 := onP_split n U x
      have s2 := onP_split n V y
      have eAll : ∀ z : List Nat, onP n allT z = sumT (fun t => z.getD t 0) n := fun z => rfl
      rw [← eAll] at s1 s2
      cases e with
      | in_ t a lo hi =>
        obtain ⟨ht, h1, h2⟩ := he
        obtain ⟨k, k1, k2, rfl⟩ := (next_in h1).mp hy
        rw [onP_add k hl ht, onP_add k hl ht] at s2
        have h3 : onP n V x ≤ onP n U x := onP_mono fun t _ h => ⟨sh t h, Nat.le_refl _⟩
        show _ + lo ≤ _ + (c + (if V t = true then lo else 0))
        rw [onP_add k hl ht]
        have s3 := onP_split n V x
        rw [← eAll] at s3
        cases e2 : V t <;> simp only [Bool.not_false, Bool.not_true, if_true, Bool.false_eq_true, if_false] <;> omega
      | pour a b m =>
        obtain ⟨ha, hb, ab, hm⟩ := he
        obtain ⟨k, k1, k2, k3, rfl⟩ := next_pour.mp hy
        have := hle a
        have q := cut_pour (V := V) (U := U) (m := m) (ca := (gr n l).getD a 0) hl ha hb ab sh k1 k2 (by omega)
        rw [onP_all_pour hl ha hb ab k2] at s2
        show _ + 0 ≤ _ + (c + ((if (!U a && V b) = true then m else 0) + (if (!U a && V a) = true then (gr n l).getD a 0 - m else 0)))
        omega

/-! ### subflows -/
/-- of each coming in no more than cap tells; of each pouring what the ways hold -/
inductive Sub (cap : Nat → Nat → Nat) (n : Nat) : List Went → List Nat → Prop
  | nil : Sub cap n [] (none_ n)
  | in_ {l y t a lo hi k} : Sub cap n l y → k ≤ cap lo hi → Sub cap n (l ++ [.in_ t a lo hi]) (add y t k)
  | pour {l y a b m k} : Sub cap n l y → k ≤ m → k ≤ y.getD a 0 → y.getD a 0 - k ≤ (gr n l).getD a 0 - m → Sub cap n (l ++ [.pour a b m]) (add (less y a k) b k)
theorem sub_length {cap : Nat → Nat → Nat} {n : Nat} {l : List Went} {y : List Nat} (h : Sub cap n l y) : y.length = n := by
  induction h with
  | nil => exact none_length n
  | in_ _ _ ih => rw [add_length, ih]
  | pour _ _ _ _ ih => rw [pour_length, ih]
/-- a subflow is within some course whose comings in are just what cap tells -/
theorem sub_ext {cap : Nat → Nat → Nat} {n : Nat} (hcap : ∀ lo hi, lo ≤ hi → lo ≤ cap lo hi ∧ cap lo hi ≤ hi) {l : List Went} (ok : Ok n l) :
    ∀ {y}, Sub cap n l y → ∃ x, x ∈ my n l ∧ (∀ t, y.getD t 0 ≤ x.getD t 0) ∧ onP n allT x = total cap l := by
  induction ok with
  | nil =>
    intro y hy
    generalize hL : ([] : List Went) = L at hy
    cases hy with
    | nil => exact ⟨_, my_nil.mpr rfl, fun t => Nat.le_refl _, onP_none _ _ _⟩
    | in_ => simp at hL
    | pour => simp at hL
  | @snoc l e ok he ih =>
    intro y hy
    generalize hL : l ++ [e] = L at hy
    cases hy with
    | nil => simp at hL
    | @in_ l' y t a lo hi k hs hk =>
      obtain ⟨rfl, rfl⟩ := snoc_inj hL
      obtain ⟨ht, h1, h2⟩ := he
      obtain ⟨x, hx, hle, htot⟩ := ih hs
      obtain ⟨hl, hxc⟩ := my_ok ok x hx
      have hy := sub_length hs
      obtain ⟨c1, c2⟩ := hcap lo hi h1
      refine ⟨add x t (cap lo hi), my_snoc.mpr ⟨x, hx, (next_in h1).mpr ⟨_, c1, c2, rfl⟩⟩, fun u => ?_, ?_⟩
      · rw [add_at k u (by omega), add_at _ u (by omega)]
        have := hle u
        split <;> omega
      · rw [onP_add _ hl ht, htot, total_snoc]
        rfl
    | @pour l' y a b m k hs k1 k2 k3 =>
      obtain ⟨rfl, rfl⟩ := snoc_inj hL
      obtain ⟨ha, hb, ab, hm⟩ := he
      obtain ⟨x, hx, hle, htot⟩ := ih hs
      obtain ⟨hl, hxc⟩ := my_ok ok x hx
      have hy := sub_length hs
      have ea := hle a
      have ec := hxc a
      refine ⟨add (less x a (max k (x.getD a 0 + m - (gr n l).getD a 0))) b (max k (x.getD a 0 + m - (gr n l).getD a 0)), my_snoc.mpr ⟨x, hx, next_pour.mpr ⟨_, by omega, by omega, by omega, rfl⟩⟩, fun u => ?_, ?_⟩
      · rw [pour_at _ u (by omega) (by omega) ab, pour_at _ u (by omega) (by omega) ab]
        have := hle u
        have := hle b
        split
        · omega
        · split <;> omega
      · rw [onP_all_pour hl ha hb ab (by omega), htot, total_snoc]
        rfl

/-! ### the greatest and the smallest -/
theorem foldl_max : ∀ (l : List Nat) (a : Nat), a ≤ l.foldl max a ∧ (∀ v, v ∈ l → v ≤ l.foldl max a) ∧ (l.foldl max a = a ∨ l.foldl max a ∈ l)
  | [], a => ⟨Nat.le_refl _, (fun v h => by cases h), Or.inl rfl⟩
  | x :: l, a => by
    obtain ⟨h1, h2, h3⟩ := foldl_max l (max a x)
    refine ⟨?_, fun v hv => ?_, ?_⟩
    · show a ≤ l.foldl max (max a x)
      omega
    · show v ≤ l.foldl max (max a x)
      cases hv with
      | head => omega
      | tail _ hv => exact h2 v hv
    · show l.foldl max (max a x) = a ∨ l.foldl max (max a x) ∈ x :: l
      rcases h3 with h3 | h3
      · rw [h3]
        by_cases h : x ≤ a
        · left
          omega
        · right
          rw [show max a x = x by omega]
          exact List.mem_cons_self
      · exact .inr (List.mem_cons_of_mem _ h3)
theorem foldl_min : ∀ (l : List Nat) (a : Nat), l.foldl min a ≤ a ∧ (∀ v, v ∈ l → l.foldl min a ≤ v) ∧ (l.foldl min a = a ∨ l.foldl min a ∈ l)
  | [], a => ⟨Nat.le_refl _, (fun v h => by cases h), Or.inl rfl⟩
  | x :: l, a => by
    obtain ⟨h1, h2, h3⟩ := foldl_min l (min a x)
    refine ⟨?_, fun v hv => ?_, ?_⟩
    · show l.foldl min (min a x) ≤ a
      omega
    · show l.foldl min (min a x) ≤ v
      cases hv with
      | head => omega
      | tail _ hv => exact h2 v hv
    · show l.foldl min (min a x) = a ∨ l.foldl min (min a x) ∈ x :: l
      rcases h3 with h3 | h3
      · rw [h3]
        by_cases h : a ≤ x
        · left
          omega
        · right
          rw [show min a x = x by omega]
          exact List.mem_cons_self
      · exact .inr (List.mem_cons_of_mem _ h3)
theorem greatest_eq {l : List Nat} {v : Nat} (h1 : v ∈ l) (h2 : ∀ w, w ∈ l → w ≤ v) : greatest l = v := by
  obtain ⟨_, a2, a3⟩ := foldl_max l 0
  have := a2 v h1
  unfold greatest
  rcases a3 with e | e
  · omega
  · have := h2 _ e
    omega
theorem smallest_eq {l : List Nat} {v : Nat} (h1 : v ∈ l) (h2 : ∀ w, w ∈ l → v ≤ w) : smallest l = v := by
  unfold smallest
  obtain ⟨_, a2, a3⟩ := foldl_min l (l.headD 0)
  have := a2 v h1
  rcases a3 with e | e
  · cases l with
    | nil => cases h1
    | cons x l =>
      have := h2 x List.mem_cons_self
      have e' : List.foldl min ((x :: l).headD 0) (x :: l) = x := e
      omega
  · have := h2 _ e
    omega
/-- a set of tanks as a number, and the other tanks -/
def bits (s : Nat) : Nat → Bool := fun t => s.testBit t
theorem my_len {n : Nat} {l : List Went} (ok : Ok n l) {x : List Nat} (hx : x ∈ my n l) : x.length = n := (my_ok ok x hx).1
/-- **the most**: a subflow and a cut that are worth the same -/
theorem most_eq {n : Nat} {l : List Went} (ok : Ok n l) {y : List Nat} (hy : Sub hiC n l y) {s : Nat} {U : Nat → Bool} {c : Nat} (hc : Cut hiC n l U c) (hU : ∀ t, t < n → s.testBit t = true → U t = true) (hv : c ≤ onP n (bits s) y) :
    (Abs.mk n l).most s = onP n (bits s) y := by
  obtain ⟨x, hx, hle, _⟩ := sub_ext (cap := hiC) (fun lo hi h => ⟨h, Nat.le_refl _⟩) ok hy
  have up : ∀ z, z ∈ my n l → on s z ≤ onP n (bits s) y := by
    intro z hz
    rw [on_eq, my_len ok hz]
    refine Nat.le_trans ?_ (Nat.le_trans (cut_le ok hc (fun _ _ => rfl) z hz) hv)
    exact onP_mono fun t ht h => ⟨hU t ht h, Nat.le_refl _⟩
  have e : on s x = onP n (bits s) y := by
    refine Nat.le_antisymm (up x hx) ?_
    rw [on_eq, my_len ok hx]
    exact onP_mono fun t _ h => ⟨h, hle t⟩
  refine greatest_eq (List.mem_map.mpr ⟨x, hx, e⟩) fun w hw => ?_
  obtain ⟨z, hz, rfl⟩ := List.mem_map.mp hw
  exact up z hz
/-- **the least**: a subflow into the other tanks, and a cut ahead of them, that are worth the same -/
theorem least_eq {n : Nat} {l : List Went} (ok : Ok n l) {y : List Nat} (hy : Sub loC n l y) {s : Nat} {U : Nat → Bool} {c : Nat} (hc : Cut loC n l U c) (hU : ∀ t, t < n → s.testBit t = false → U t = true) (hv : c ≤ onP n (fun t => !bits s t) y) :
    (Abs.mk n l).least s + onP n (fun t => !bits s t) y = total loC l := by
  obtain ⟨x, hx, hle, htot⟩ := sub_ext (cap := loC) (fun lo hi h => ⟨Nat.le_refl _, h⟩) ok hy
  have dn : ∀ z, z ∈ my n l → total loC l ≤ on s z + onP n (fun t => !bits s t) y := by
    intro z hz
    have h1 := cut_ge ok hc z hz
    have h2 : onP n (fun t => !U t) z ≤ onP n (bits s) z := onP_mono fun t ht h => by
      refine ⟨?_, Nat.le_refl _⟩
      cases e : bits s t with
      | true => rfl
      | false =>
        rw [hU t ht e] at h
        exact absurd h (by decide)
    rw [on_eq, my_len ok hz]
    show _ ≤ onP n (bits s) z + _
    omega
  have e1 := onP_split n (bits s) x
  have e2 : onP n (fun t => !bits s t) y ≤ onP n (fun t => !bits s t) x := onP_mono fun t _ h => ⟨h, hle t⟩
  have e3 : on s x = onP n (bits s) x := by rw [on_eq, my_len ok hx]; rfl
  have e4 : sumT (fun t => x.getD t 0) n = total loC l := htot
  have e5 := dn x hx
  have e : (Abs.mk n l).least s = on s x := by
    refine smallest_eq (List.mem_map.mpr ⟨x, hx, rfl⟩) fun w hw => ?_
    obtain ⟨z, hz, rfl⟩ := List.mem_map.mp hw
    have := dn z hz
    omega
  rw [e]
  omega
end MG

/-! Marked grains: the flat list of calls; what holds of every state that calls lead to. -/
namespace MG
open Ks175
/-- a call that may be handed in -/
inductive CallIs : List (List Int) → Prop
  | start (a : Nat) (ha : a < 4294967296) : CallIs [[0, (a : Int)]]
  | in_ (a b c d : Nat) (ha : a < 4294967296) (hb : b < 4294967296) (hc : c < 4294967296) (hd : d < 4294967296) : CallIs [[1, (a : Int), (b : Int), (c : Int), (d : Int)]]
  | pour (a b c : Nat) (ha : a < 4294967296) (hb : b < 4294967296) (hc : c < 4294967296) : CallIs [[2, (a : Int), (b : Int), (c : Int)]]
  | has (a : Nat) (ha : a < 4294967296) : CallIs [[3, (a : Int)]]
  | most (a : Nat) (ha : a < 4294967296) : CallIs [[4, (a : Int)]]
  | least (a : Nat) (ha : a < 4294967296) : CallIs [[5, (a : Int)]]
theorem natural_of {z : Int} (h : Ks175Neutral.natural z 32 = true) : ∃ a : Nat, z = (a : Int) ∧ a < 4294967296 := by
  unfold Ks175Neutral.natural at h
  rw [Bool.and_eq_true, decide_eq_true_eq, decide_eq_true_eq] at h
  refine ⟨z.toNat, by omega, ?_⟩
  have := h.2
  have e : ((2 : Int) ^ 32) = 4294967296 := by decide
  rw [e] at this
  omega
theorem callIs_of {c : List (List Int)} (h : Ks175Neutral.asked1 c = true) : CallIs c := by
  unfold Ks175Neutral.asked1 at h
  split at h
  · obtain ⟨a, rfl, ha⟩ := natural_of h
    exact .start a ha
  · simp only [Bool.and_eq_true] at h
    obtain ⟨⟨⟨h1, h2⟩, h3⟩, h4⟩ := h
    obtain ⟨a, rfl, ha⟩ := natural_of h1
    obtain ⟨b, rfl, hb⟩ := natural_of h2
    obtain ⟨c, rfl, hc⟩ := natural_of h3
    obtain ⟨d, rfl, hd⟩ := natural_of h4
    exact .in_ a b c d ha hb hc hd
  · simp only [Bool.and_eq_true] at h
    obtain ⟨⟨h1, h2⟩, h3⟩ := h
    obtain ⟨a, rfl, ha⟩ := natural_of h1
    obtain ⟨b, rfl, hb⟩ := natural_of h2
    obtain ⟨c, rfl, hc⟩ := natural_of h3
    exact .pour a b c ha hb hc
  · obtain ⟨a, rfl, ha⟩ := natural_of h
    exact .has a ha
  · obtain ⟨a, rfl, ha⟩ := natural_of h
    exact .most a ha
  · obtain ⟨a, rfl, ha⟩ := natural_of h
    exact .least a ha
  · cases h
theorem whole_id (c : List (List Int)) : PyKs175.whole c = c := by
  unfold PyKs175.whole
  split <;> rfl
/-- what is asked of a list, opened -/
theorem asked_open {l : List Int} (h : PyKs175.answers_asked l = true) : ∃ cs : List (List (List Int)), l = PyFlat.put cs ∧ (∀ c, c ∈ cs → CallIs c) ∧ cs.length ≤ 300 ∧ 1 ≤ cs.length ∧
    Ks175Neutral.askedFrom false Ks175Neutral.start cs = true ∧ PyKs175.answers l = PyFlat.told (PyFlat.played Ks175Neutral.step Ks175Neutral.start cs) := by
  have hw : ∀ cs : List (List (List Int)), cs.map PyKs175.whole = cs := fun cs => by
    rw [show PyKs175.whole = id from funext whole_id, List.map_id]
  unfold PyKs175.answers_asked at h
  unfold PyKs175.answers
  unfold PyKs175.calls at h ⊢
  cases e : PyFlat.calls PyKs175.shape l.length l with
  | none =>
    rw [e] at h
    cases h
  | some cs =>
    rw [e] at h
    simp only [hw] at h ⊢
    rw [Bool.and_eq_true] at h
    obtain ⟨h1, h2⟩ := h
    unfold Ks175Neutral.asked at h2
    simp only [Bool.and_eq_true, decide_eq_true_eq] at h2
    obtain ⟨⟨⟨⟨h2, h3⟩, h4⟩, h5⟩, h6⟩ := h2
    refine ⟨cs, (PyFlat.put_calls _ _ _ e).1, fun c hc => callIs_of (List.all_eq_true.mp h2 c hc), ?_, h3, h5, rfl⟩
    unfold PyFlat.atMost at h1
    exact of_decide_eq_true h1
/-- one call's numbers, one behind another -/
def flat1 (c : List (List Int)) : List Int := c.headD []
theorem put1_of {c : List (List Int)} (h : CallIs c) : PyFlat.put1 c = flat1 c := by
  cases h <;> rfl
/-! ### the steps -/
theorem toNat_cast (a : Nat) : ((a : Int)).toNat = a := rfl
theorem step_start (s : Abs) (a : Nat) : Ks175Neutral.step s [[0, (a : Int)]] = Ks175Neutral.sa (act s (.start a)) := rfl
theorem step_in (s : Abs) (a b c d : Nat) : Ks175Neutral.step s [[1, (a : Int), (b : Int), (c : Int), (d : Int)]] = Ks175Neutral.sa (act s (.in_ a b c d)) := rfl
theorem step_pour (s : Abs) (a b c : Nat) : Ks175Neutral.step s [[2, (a : Int), (b : Int), (c : Int)]] = Ks175Neutral.sa (act s (.pour a b c)) := rfl
theorem step_has (s : Abs) (a : Nat) : Ks175Neutral.step s [[3, (a : Int)]] = Ks175Neutral.sa (act s (.has a)) := rfl
theorem step_most (s : Abs) (a : Nat) : Ks175Neutral.step s [[4, (a : Int)]] = Ks175Neutral.sa (act s (.most a)) := rfl
theorem step_least (s : Abs) (a : Nat) : Ks175Neutral.step s [[5, (a : Int)]] = Ks175Neutral.sa (act s (.least a)) := rfl
/-! ### the states -/
/-- a step's own numbers -/
def smallEv : Went → Prop
  | .in_ _ a _ _ => a ≤ 1048576 ∧ 1 ≤ a
  | .pour _ _ m => 1 ≤ m
structure Good (s : Abs) : Prop where
  few : s.tanks ≤ 32
  ok : Ok s.tanks s.went
  len : s.went.length ≤ 256
  small : ∀ e, e ∈ s.went → smallEv e
theorem good_start : Good Ks175Neutral.start := ⟨by decide, .nil, by decide, fun e h => by cases h⟩
theorem good_new {n : Nat} (h : n ≤ 32) : Good (Ks175.start n) := ⟨h, .nil, Nat.zero_le _, fun e h => by cases h⟩
theorem good_goes {s : Abs} (g : Good s) {e : Went} (he : okEv s.tanks (gr s.tanks s.went) e) (hs : smallEv e) : Good (s.goes e).1 := by
  unfold Abs.goes
  by_cases h : MANY ≤ s.went.length
  · rw [if_pos h]
    exact g
  · rw [if_neg h]
    refine ⟨g.few, .snoc g.ok he, ?_, fun e' h' => ?_⟩
    · show (s.went ++ [e]).length ≤ 256
      rw [List.length_append]
      have : MANY = 256 := rfl
      simp
      omega
    · rcases List.mem_append.mp h' with h' | h'
      · exact g.small e' h'
      · rw [List.mem_singleton.mp h']
        exact hs
theorem act_start (s : Abs) (n : Nat) : act s (.start n) = if n = 0 ∨ TANKS < n then (s, say (-22)) else (Ks175.start n, say 0) := rfl
theorem act_in (s : Abs) (t n lo hi : Nat) : act s (.in_ t n lo hi) = if s.tanks ≤ t ∨ n = 0 ∨ AMOUNT < n ∨ hi < lo ∨ n < hi then (s, say (-22)) else s.goes (.in_ t n lo hi) := rfl
theorem act_pour (s : Abs) (f t n : Nat) : act s (.pour f t n) = if s.tanks ≤ f ∨ s.tanks ≤ t ∨ f = t ∨ n = 0 then (s, say (-22)) else if s.has f < n then (s, say (-33)) else s.goes (.pour f t n) := rfl
theorem good_act {s : Abs} (g : Good s) (c : Call) : Good (act s c).1 := by
  cases c with
  | start n =>
    rw [act_start]
    by_cases h : n = 0 ∨ TANKS < n
    · rw [if_pos h]
      exact g
    · rw [if_neg h]
      have : TANKS = 32 := rfl
      exact good_new (by omega)
  | in_ t n lo hi =>
    rw [act_in]
    by_cases h : s.tanks ≤ t ∨ n = 0 ∨ AMOUNT < n ∨ hi < lo ∨ n < hi
    · rw [if_pos h]
      exact g
    · rw [if_neg h]
      have : AMOUNT = 1048576 := rfl
      exact good_goes g ⟨by omega, by omega, by omega⟩ ⟨by omega, by omega⟩
  | pour f t n =>
    rw [act_pour]
    by_cases h : s.tanks ≤ f ∨ s.tanks ≤ t ∨ f = t ∨ n = 0
    · rw [if_pos h]
      exact g
    · rw [if_neg h]
      by_cases h2 : s.has f < n
      · rw [if_pos h2]
        exact g
      · rw [if_neg h2]
        have h3 : n ≤ (gr s.tanks s.went).getD f 0 := Nat.le_of_not_lt h2
        exact good_goes g ⟨by omega, by omega, by omega, h3⟩ (show 1 ≤ n by omega)
  | has t => exact g
  | most t => exact g
  | least t => exact g
/-- the grains together: no more than so many comings in may bring -/
theorem gr_total {n : Nat} {l : List Went} (ok : Ok n l) (h : ∀ e, e ∈ l → smallEv e) : onP n allT (gr n l) ≤ 1048576 * l.length := by
  induction ok with
  | nil =>
    rw [gr_nil, onP_none]
    exact Nat.zero_le _
  | @snoc l e ok he ih =>
    have h1 := ih fun e' h' => h e' (List.mem_append.mpr (.inl h'))
    have h2 := h e (List.mem_append.mpr (.inr (List.mem_singleton.mpr rfl)))
    have gl := gr_length n l
    rw [gr_snoc, List.length_append]
    cases e with
    | in_ t a lo hi =>
      show onP n allT (add (gr n l) t a) ≤ _
      rw [onP_add a gl he.1]
      have h3 : a ≤ 1048576 := h2.1
      show _ + a ≤ 1048576 * (l.length + 1)
      omega
    | pour a b m =>
      show onP n allT (add (less (gr n l) a m) b m) ≤ _
      obtain ⟨ha, hb, ab, hm⟩ := he
      rw [onP_all_pour gl ha hb ab hm]
      show _ ≤ 1048576 * (l.length + 1)
      omega
theorem le_onP {n : Nat} (x : List Nat) {t : Nat} (ht : t < n) : x.getD t 0 ≤ onP n allT x := by
  rw [onP_out allT x ht]
  show _ ≤ _ + x.getD t 0
  omega
theorem gr_le {s : Abs} (g : Good s) (t : Nat) : (gr s.tanks s.went).getD t 0 ≤ 268435456 := by
  by_cases ht : t < s.tanks
  · have h1 := le_onP (gr s.tanks s.went) ht
    have h2 := gr_total g.ok g.small
    have h3 := g.len
    omega
  · rw [List.getD_eq_getElem?_getD, List.getElem?_eq_none (by rw [gr_length]; omega)]
    exact Nat.zero_le _
/-! ### the order of calls -/
/-- of the calls that are still to come: they are asked; the first is start till one was answered 0 -/
theorem asked_cons {b : Bool} {s : Abs} {c : List (List Int)} {cs : List (List (List Int))} (h : Ks175Neutral.askedFrom b s (c :: cs) = true) :
    (b = false → Ks175Neutral.num c 0 0 = 0) ∧ Ks175Neutral.askedFrom (b || (Ks175Neutral.num c 0 0 == 0 && (Ks175Neutral.step s c).2.headD (-1) == 0)) (Ks175Neutral.step s c).1 cs = true := by
  unfold Ks175Neutral.askedFrom at h
  simp only [Bool.and_eq_true] at h
  obtain ⟨⟨h1, h2⟩, h3⟩ := h
  refine ⟨fun hb => ?_, h3⟩
  subst hb
  simpa using h2
/-! ### call by call -/
def runS (s : Abs) (cs : List (List (List Int))) : Abs := cs.foldl (fun s c => (Ks175Neutral.step s c).1) s
theorem runS_snoc (s : Abs) (cs : List (List (List Int))) (c : List (List Int)) : runS s (cs ++ [c]) = (Ks175Neutral.step (runS s cs) c).1 := by
  unfold runS
  rw [List.foldl_append]
  rfl
theorem played_snoc : ∀ (cs : List (List (List Int))) (s : Abs) (c : List (List Int)), PyFlat.played Ks175Neutral.step s (cs ++ [c]) = PyFlat.played Ks175Neutral.step s cs ++ [(Ks175Neutral.step (runS s cs) c).2]
  | [], s, c => rfl
  | d :: cs, s, c => by
    show _ :: PyFlat.played Ks175Neutral.step (Ks175Neutral.step s d).1 (cs ++ [c]) = _
    rw [played_snoc cs]
    rfl
theorem told_snoc (l : List (List Int)) (a : List Int) : PyFlat.told (l ++ [a]) = PyFlat.told l ++ (a.length : Int) :: a := by
  unfold PyFlat.told
  rw [List.flatMap_append]
  simp
/-- what is told of the calls so far -/
def said (cs : List (List (List Int))) : List Int := PyFlat.told (PyFlat.played Ks175Neutral.step Ks175Neutral.start cs)
theorem sa_snd (x : Abs × Ans) : (Ks175Neutral.sa x).2 = [x.2.ret] := rfl
theorem step_one {c : List (List Int)} (h : CallIs c) (s : Abs) : ∃ r : Int, (Ks175Neutral.step s c).2 = [r] := by
  cases h <;> exact ⟨_, rfl⟩
theorem said_snoc {cs : List (List (List Int))} {c : List (List Int)} {r : Int} (h : (Ks175Neutral.step (runS Ks175Neutral.start cs) c).2 = [r]) : said (cs ++ [c]) = said cs ++ [1, r] := by
  unfold said
  rw [played_snoc, told_snoc, h]
  rfl
theorem put_append : ∀ a b : List (List (List Int)), PyFlat.put (a ++ b) = PyFlat.put a ++ PyFlat.put b
  | [], b => rfl
  | c :: a, b => by
    show PyFlat.put1 c ++ PyFlat.put (a ++ b) = PyFlat.put1 c ++ PyFlat.put a ++ PyFlat.put b
    rw [put_append a b, List.append_assoc]
theorem said_length : ∀ (cs : List (List (List Int))), (∀ c, c ∈ cs → CallIs c) → (said cs).length = 2 * cs.length :=
  snoc_ind (fun _ => rfl) fun cs c ih h => by
    obtain ⟨r, hr⟩ := step_one (h c (List.mem_append.mpr (.inr (List.mem_singleton.mpr rfl)))) (runS Ks175Neutral.start cs)
    rw [said_snoc hr, List.length_append, List.length_append, ih fun d hd => h d (List.mem_append.mpr (.inl hd))]
    simp
    omega
/-- between two calls: those so far, those to come -/
structure Mid (l : List Int) (done todo : List (List (List Int))) : Prop where
  all : l = PyFlat.put done ++ PyFlat.put todo
  is : ∀ c, c ∈ done ++ todo → CallIs c
  few : (done ++ todo).length ≤ 300
  good : Good (runS Ks175Neutral.start done)
  ord : ∃ b, Ks175Neutral.askedFrom b (runS Ks175Neutral.start done) todo = true ∧ (b = true → 1 ≤ (runS Ks175Neutral.start done).tanks)
  due : PyKs175.answers l = said (done ++ todo)
theorem mid_start {l : List Int} (h : PyKs175.answers_asked l = true) : ∃ todo, Mid l [] todo := by
  obtain ⟨cs, h1, h2, h3, h4, h5, h6⟩ := asked_open h
  exact ⟨cs, ⟨h1, h2, h3, good_start, ⟨false, h5, fun z => by cases z⟩, h6⟩⟩
theorem good_step {c : List (List Int)} (h : CallIs c) {s : Abs} (g : Good s) : Good (Ks175Neutral.step s c).1 := by
  cases h with
  | start a ha => exact good_act g (.start a)
  | in_ a b c d => exact good_act g (.in_ a b c d)
  | pour a b c => exact good_act g (.pour a b c)
  | has a => exact good_act g (.has a)
  | most a => exact good_act g (.most a)
  | least a => exact good_act g (.least a)
theorem goes_tanks (s : Abs) (e : Went) : (s.goes e).1.tanks = s.tanks := by
  unfold Abs.goes
  split <;> rfl
theorem act_tanks (s : Abs) (c : Call) : (act s c).1.tanks = s.tanks ∨ 1 ≤ (act s c).1.tanks := by
  cases c with
  | start n =>
    rw [act_start]
    by_cases h : n = 0 ∨ TANKS < n
    · rw [if_pos h]
      exact .inl rfl
    · rw [if_neg h]
      right
      show 1 ≤ n
      omega
  | in_ t n lo hi =>
    rw [act_in]
    left
    split
    · rfl
    · exact goes_tanks _ _
  | pour f t n =>
    rw [act_pour]
    left
    split
    · rfl
    · split
      · rfl
      · exact goes_tanks _ _
  | has t => exact .inl rfl
  | most t => exact .inl rfl
  | least t => exact .inl rfl
theorem act_tanks1 {s : Abs} (c : Call) (h : 1 ≤ s.tanks) : 1 ≤ (act s c).1.tanks := by
  rcases act_tanks s c with q | q
  · rw [q]
    exact h
  · exact q
theorem start_tanks {s : Abs} {a : Nat} (h : (act s (.start a)).2.ret = 0) : 1 ≤ (act s (.start a)).1.tanks := by
  rw [act_start] at h ⊢
  by_cases c : a = 0 ∨ TANKS < a
  · rw [if_pos c] at h
    have h : (-22 : Int) = 0 := h
    exact absurd h (by decide)
  · rw [if_neg c]
    show 1 ≤ a
    omega
/-- a call more -/
theorem Mid.next {l : List Int} {done todo : List (List (List Int))} {c : List (List Int)} (m : Mid l done (c :: todo)) : Mid l (done ++ [c]) todo := by
  have ci : CallIs c := m.is c (List.mem_append.mpr (.inr List.mem_cons_self))
  have e : done ++ [c] ++ todo = done ++ c :: todo := by rw [List.append_assoc]; rfl
  obtain ⟨b, hb, hs⟩ := m.ord
  obtain ⟨h1, h2⟩ := asked_cons hb
  refine ⟨?_, by rw [e]; exact m.is, by rw [e]; exact m.few, by rw [runS_snoc]; exact good_step ci m.good, ⟨_, by rw [runS_snoc]; exact h2, fun z => ?_⟩, by rw [e]; exact m.due⟩
  · rw [m.all, put_append, List.append_assoc]
    show _ = _ ++ ((PyFlat.put1 c ++ []) ++ _)
    rw [List.append_nil]
    rfl
  · rw [runS_snoc]
    rw [Bool.or_eq_true] at z
    rcases z with z | z
    · have hs := hs z
      cases ci with
      | start a ha => exact act_tanks1 (.start a) hs
      | in_ a b c d => exact act_tanks1 (.in_ a b c d) hs
      | pour a b c => exact act_tanks1 (.pour a b c) hs
      | has a => exact hs
      | most a => exact hs
      | least a => exact hs
    · rw [Bool.and_eq_true] at z
      cases ci with
      | start a ha => exact start_tanks (eq_of_beq z.2)
      | in_ a b c d => exact absurd (show (1 : Nat) = 0 from eq_of_beq z.1) (by decide)
      | pour a b c => exact absurd (show (2 : Nat) = 0 from eq_of_beq z.1) (by decide)
      | has a => exact absurd (show (3 : Nat) = 0 from eq_of_beq z.1) (by decide)
      | most a => exact absurd (show (4 : Nat) = 0 from eq_of_beq z.1) (by decide)
      | least a => exact absurd (show (5 : Nat) = 0 from eq_of_beq z.1) (by decide)
/-- a call that isn't start comes behind a start that was answered 0 -/
theorem Mid.tanks {l : List Int} {done todo : List (List (List Int))} {c : List (List Int)} (m : Mid l done (c :: todo)) (h : Ks175Neutral.num c 0 0 ≠ 0) : 1 ≤ (runS Ks175Neutral.start done).tanks := by
  obtain ⟨b, hb, hs⟩ := m.ord
  obtain ⟨h1, _⟩ := asked_cons hb
  cases b with
  | true => exact hs rfl
  | false => exact absurd (h1 rfl) h
theorem Mid.done {l : List Int} {done : List (List (List Int))} (m : Mid l done []) : PyKs175.answers l = said done := by
  rw [m.due, List.append_nil]
end MG

/-! Ways with rests, each with its way back: what a push changes; where nothing more can be pushed, what went is worth the cut. -/
namespace MN
def sI (f : Nat → Int) : Nat → Int
  | 0 => 0
  | n + 1 => sI f n + f n
theorem sI_congr {f g : Nat → Int} : ∀ {n : Nat}, (∀ t, t < n → f t = g t) → sI f n = sI g n
  | 0, _ => rfl
  | n + 1, h => by
    show sI f n + f n = sI g n + g n
    rw [sI_congr fun t ht => h t (Nat.lt_succ_of_lt ht), h n (Nat.lt_succ_self n)]
theorem sI_add (f g : Nat → Int) : ∀ n : Nat, sI (fun t => f t + g t) n = sI f n + sI g n
  | 0 => rfl
  | n + 1 => by
    show sI (fun t => f t + g t) n + (f n + g n) = (sI f n + f n) + (sI g n + g n)
    rw [sI_add f g n]
    omega
theorem sI_sub (f g : Nat → Int) : ∀ n : Nat, sI (fun t => f t - g t) n = sI f n - sI g n
  | 0 => rfl
  | n + 1 => by
    show sI (fun t => f t - g t) n + (f n - g n) = (sI f n + f n) - (sI g n + g n)
    rw [sI_sub f g n]
    omega
theorem sI_zero : ∀ n : Nat, sI (fun _ => 0) n = 0
  | 0 => rfl
  | n + 1 => by
    show sI (fun _ => 0) n + 0 = 0
    rw [sI_zero n]
    rfl
theorem sI_nonneg {f : Nat → Int} : ∀ {n : Nat}, (∀ t, t < n → 0 ≤ f t) → 0 ≤ sI f n
  | 0, _ => Int.le_refl 0
  | n + 1, h => by
    have h1 := sI_nonneg (n := n) fun t ht => h t (Nat.lt_succ_of_lt ht)
    have h2 := h n (Nat.lt_succ_self n)
    show 0 ≤ sI f n + f n
    omega
theorem sI_single (a : Nat) (v : Int) : ∀ n : Nat, sI (fun t => if t = a then v else 0) n = if a < n then v else 0
  | 0 => by
    show 0 = _
    rw [if_neg (Nat.not_lt_zero a)]
  | n + 1 => by
    show sI (fun t => if t = a then v else 0) n + (if n = a then v else 0) = _
    rw [sI_single a v n]
    by_cases h1 : a < n
    · rw [if_pos h1, if_neg (by omega), if_pos (by omega)]
      omega
    · by_cases h2 : n = a
      · rw [if_neg h1, if_pos h2, if_pos (by omega)]
        omega
      · rw [if_neg h1, if_neg h2, if_neg (by omega)]
        rfl
theorem sI_swap (f : Nat → Nat → Int) (m : Nat) : ∀ n : Nat, sI (fun i => sI (fun j => f i j) m) n = sI (fun j => sI (fun i => f i j) n) m
  | 0 => (sI_zero m).symm
  | n + 1 => by
    show sI (fun i => sI (fun j => f i j) m) n + sI (fun j => f n j) m = sI (fun j => sI (fun i => f i j) n + f n j) m
    rw [sI_add, sI_swap f m n]
/-- a sum gone through by the ways back -/
theorem sI_twin {tw : Nat → Nat} {m : Nat} (h1 : ∀ e, e < m → tw e < m) (h2 : ∀ e, e < m → tw (tw e) = e) (g : Nat → Int) : sI (fun e => g (tw e)) m = sI g m := by
  have a : sI (fun e => g (tw e)) m = sI (fun e => sI (fun e' => if e' = tw e then g e' else 0) m) m := by
    refine sI_congr fun e he => ?_
    have q : sI (fun e' => if e' = tw e then g e' else 0) m = sI (fun e' => if e' = tw e then g (tw e) else 0) m := sI_congr fun e' _ => by
      by_cases c : e' = tw e
      · rw [if_pos c, if_pos c, c]
      · rw [if_neg c, if_neg c]
    rw [q, sI_single, if_pos (h1 e he)]
  have b : sI g m = sI (fun e' => sI (fun e => if e' = tw e then g e' else 0) m) m := by
    refine sI_congr fun e' he' => ?_
    have q : sI (fun e => if e' = tw e then g e' else 0) m = sI (fun e => if e = tw e' then g e' else 0) m := sI_congr fun e he => by
      by_cases c : e' = tw e
      · rw [if_pos c, if_pos (by rw [c, h2 e he])]
      · rw [if_neg c, if_neg (fun d => c (by rw [d, h2 e' he']))]
    rw [q, sI_single, if_pos (h1 e' he')]
  rw [a, b, sI_swap]
/-- m ways; each from src to dst; its way back tw -/
structure Net (m : Nat) (src dst tw : Nat → Nat) : Prop where
  lt : ∀ e, e < m → tw e < m
  back : ∀ e, e < m → tw (tw e) = e
  bsrc : ∀ e, e < m → src (tw e) = dst e
  bdst : ∀ e, e < m → dst (tw e) = src e
/-- the rests of the ways out of v, together -/
def out (m : Nat) (src : Nat → Nat) (r : Nat → Int) (v : Nat) : Int := sI (fun e => if src e = v then r e else 0) m
/-- what is pushed lies on the way and its way back alone -/
structure Even (m : Nat) (tw : Nat → Nat) (cap r : Nat → Int) : Prop where
  pos : ∀ e, e < m → 0 ≤ r e
  pair : ∀ e, e < m → r e + r (tw e) = cap e + cap (tw e)
theorem out_set {m : Nat} {src : Nat → Nat} {r : Nat → Int} {e : Nat} (he : e < m) (d : Int) (v : Nat) : out m src (fun x => if x = e then r e + d else r x) v = out m src r v + if src e = v then d else 0 := by
  unfold out
  have q : sI (fun x => if src x = v then (if x = e then r e + d else r x) else 0) m = sI (fun x => (if src x = v then r x else 0) + (if x = e then (if src e = v then d else 0) else 0)) m := sI_congr fun x _ => by
    by_cases c : x = e
    · subst c
      rw [if_pos rfl, if_pos rfl]
      by_cases z : src x = v
      · rw [if_pos z, if_pos z, if_pos z]
      · rw [if_neg z, if_neg z, if_neg z]
        rfl
    · rw [if_neg c, if_neg c]
      omega
  rw [q, sI_add, sI_single, if_pos he]
/-- one push of d over e -/
def push (tw : Nat → Nat) (e : Nat) (d : Int) (r : Nat → Int) : Nat → Int := fun x => if x = tw e then r (tw e) + d else if x = e then r e - d else r x
theorem out_push {m : Nat} {src dst tw : Nat → Nat} (N : Net m src dst tw) {r : Nat → Int} {e : Nat} (he : e < m) (hne : tw e ≠ e) (d : Int) (v : Nat) :
    out m src (push tw e d r) v = out m src r v - (if src e = v then d else 0) + if dst e = v then d else 0 := by
  have a := out_set (src := src) (r := r) he (-d) v
  have b := out_set (src := src) (r := fun x => if x = e then r e + -d else r x) (N.lt e he) d v
  rw [a, N.bsrc e he] at b
  have c : push tw e d r = fun x => if x = tw e then (fun x => if x = e then r e + -d else r x) (tw e) + d else (fun x => if x = e then r e + -d else r x) x := by
    funext x
    unfold push
    show _ = if x = tw e then (if tw e = e then r e + -d else r (tw e)) + d else (if x = e then r e + -d else r x)
    rw [if_neg hne]
    rfl
  rw [c, b]
  by_cases z : src e = v
  · rw [if_pos z, if_pos z]
    omega
  · rw [if_neg z, if_neg z]
    omega
theorem push_even {m : Nat} {src dst tw : Nat → Nat} (N : Net m src dst tw) {cap r : Nat → Int} (h : Even m tw cap r) {e : Nat} (he : e < m) (hne : tw e ≠ e) {d : Int} (h0 : 0 ≤ d) (hd : d ≤ r e) : Even m tw cap (push tw e d r) := by
  refine ⟨fun x hx => ?_, fun x hx => ?_⟩
  · unfold push
    have := h.pos x hx
    have := h.pos _ (N.lt e he)
    split
    · omega
    · split <;> omega
  · have p := h.pair x hx
    have bx := N.back x hx
    have be := N.back e he
    unfold push
    by_cases c1 : x = tw e
    · subst c1
      rw [if_pos rfl, be, if_neg (fun q => hne q.symm), if_pos rfl]
      rw [be] at p
      omega
    · by_cases c2 : x = e
      · subst c2
        rw [if_neg c1, if_pos rfl, if_pos rfl]
        omega
      · have c3 : tw x ≠ tw e := fun q => c2 (by rw [← bx, q, be])
        have c4 : tw x ≠ e := fun q => c1 (by rw [← bx, q])
        rw [if_neg c1, if_neg c2, if_neg c3, if_neg c4]
        exact p
/-- over all nodes of a set -/
theorem out_over {m n : Nat} {src : Nat → Nat} (r : Nat → Int) (R : Nat → Bool) (hs : ∀ e, e < m → src e < n) : sI (fun v => if R v then out m src r v else 0) n = sI (fun e => if R (src e) then r e else 0) m := by
  have a : sI (fun v => if R v then out m src r v else 0) n = sI (fun v => sI (fun e => if src e = v then (if R v then r e else 0) else 0) m) n := sI_congr fun v _ => by
    unfold out
    cases R v with
    | true => rfl
    | false =>
      rw [if_neg (by decide)]
      refine Eq.trans (sI_zero m).symm (sI_congr fun e _ => ?_)
      split <;> rfl
  rw [a, sI_swap]
  refine sI_congr fun e he => ?_
  have b : sI (fun v => if src e = v then (if R v then r e else 0) else 0) n = sI (fun v => if v = src e then (if R (src e) then r e else 0) else 0) n := sI_congr fun v _ => by
    by_cases c : src e = v
    · rw [if_pos c, if_pos c.symm, c]
    · rw [if_neg c, if_neg (fun q => c q.symm)]
  rw [b, sI_single, if_pos (hs e he)]
/-- **the cut**: no rest leads out of R; then what went out of R's nodes together is what its ways out hold -/
theorem cut_eq {m n : Nat} {src dst tw : Nat → Nat} (N : Net m src dst tw) {cap r : Nat → Int} (h : Even m tw cap r) (R : Nat → Bool) (hs : ∀ e, e < m → src e < n)
    (cl : ∀ e, e < m → R (src e) = true → R (dst e) = false → r e = 0) :
    sI (fun v => if R v then out m src cap v - out m src r v else 0) n = sI (fun e => if R (src e) && !R (dst e) then cap e else 0) m := by
  have e1 : sI (fun v => if R v then out m src cap v - out m src r v else 0) n = sI (fun v => (if R v then out m src cap v else 0) - (if R v then out m src r v else 0)) n := sI_congr fun v _ => by
    cases R v <;> simp
  rw [e1, sI_sub, out_over cap R hs, out_over r R hs]
  have inn : ∀ g : Nat → Int, sI (fun e => if R (src e) then g e else 0) m = sI (fun e => if R (src e) && R (dst e) then g e else 0) m + sI (fun e => if R (src e) && !R (dst e) then g e else 0) m := fun g => by
    rw [← sI_add]
    refine sI_congr fun e _ => ?_
    cases R (src e) <;> cases R (dst e) <;> simp
  have z : sI (fun e => if R (src e) && !R (dst e) then r e else 0) m = 0 := by
    refine Eq.trans (sI_congr fun e he => ?_) (sI_zero m)
    cases c1 : R (src e) with
    | false => rfl
    | true =>
      cases c2 : R (dst e) with
      | true => rfl
      | false => exact cl e he c1 c2
  have tw2 : ∀ g : Nat → Int, sI (fun e => if R (src e) && R (dst e) then g (tw e) else 0) m = sI (fun e => if R (src e) && R (dst e) then g e else 0) m := fun g => by
    have q := sI_twin N.lt N.back (fun e => if R (src e) && R (dst e) then g e else 0)
    rw [← q]
    refine sI_congr fun e he => ?_
    show _ = if R (src (tw e)) && R (dst (tw e)) then g (tw e) else 0
    rw [N.bsrc e he, N.bdst e he, Bool.and_comm]
  have same : sI (fun e => if R (src e) && R (dst e) then r e else 0) m = sI (fun e => if R (src e) && R (dst e) then cap e else 0) m := by
    have a1 := tw2 r
    have a2 := tw2 cap
    have s1 : sI (fun e => (if R (src e) && R (dst e) then r e else 0) + (if R (src e) && R (dst e) then r (tw e) else 0)) m = sI (fun e => (if R (src e) && R (dst e) then cap e else 0) + (if R (src e) && R (dst e) then cap (tw e) else 0)) m := sI_congr fun e he => by
      have := h.pair e he
      cases (R (src e) && R (dst e))
      · rfl
      · exact this
    rw [sI_add, sI_add] at s1
    omega
  rw [inn cap, inn r, z, same]
  omega
end MN

/-! Lots: a tank between two pourings out of it. A flow over the lots is a subflow; a set of lots is a cut. -/
namespace MG
open Ks175
abbrev Way := Nat × Nat × Nat
def wAt (ws : List Way) (i : Nat) : Way := ws.getD i (0, 0, 0)
theorem wAt_left {ws : List Way} (vs : List Way) {i : Nat} (h : i < ws.length) : wAt (ws ++ vs) i = wAt ws i := by
  unfold wAt
  rw [List.getD_eq_getElem?_getD, List.getD_eq_getElem?_getD, List.getElem?_append_left h]
theorem wAt_right (ws vs : List Way) (i : Nat) : wAt (ws ++ vs) (ws.length + i) = wAt vs i := by
  unfold wAt
  rw [List.getD_eq_getElem?_getD, List.getD_eq_getElem?_getD, List.getElem?_append_right (Nat.le_add_right _ _), Nat.add_sub_cancel_left]
/-- what stands of each lot: which lot is in which tank; the marked of what came in; the ways -/
inductive LotsOf (cap : Nat → Nat → Nat) (n : Nat) : List Went → List Nat → List Nat → List Way → Prop
  | nil : LotsOf cap n [] (List.range n) (none_ n) []
  | in_ {l now mk ws} (t a lo hi : Nat) : LotsOf cap n l now mk ws → LotsOf cap n (l ++ [.in_ t a lo hi]) now (add mk (now.getD t 0) (cap lo hi)) ws
  | pour {l now mk ws} (a b m : Nat) : LotsOf cap n l now mk ws → LotsOf cap n (l ++ [.pour a b m]) (now.set a mk.length) (mk ++ [0]) (ws ++ [(now.getD a 0, now.getD b 0, m), (now.getD a 0, mk.length, (gr n l).getD a 0 - m)])
theorem ok_snoc {n : Nat} {l : List Went} {e : Went} (h : Ok n (l ++ [e])) : Ok n l ∧ okEv n (gr n l) e := by
  generalize hL : l ++ [e] = L at h
  cases h with
  | nil => simp at hL
  | snoc h1 h2 =>
    obtain ⟨rfl, rfl⟩ := snoc_inj hL
    exact ⟨h1, h2⟩
structure LInv (n : Nat) (now mk : List Nat) (ws : List Way) : Prop where
  nlen : now.length = n
  lt : ∀ t, t < n → now.getD t 0 < mk.length
  inj : ∀ t u, t < n → u < n → now.getD t 0 = now.getD u 0 → t = u
  many : n ≤ mk.length
  wlt : ∀ i, i < ws.length → (wAt ws i).1 < mk.length ∧ (wAt ws i).2.1 < mk.length
  open_ : ∀ i t, i < ws.length → t < n → (wAt ws i).1 ≠ now.getD t 0
theorem range_at {n t : Nat} (h : t < n) : (List.range n).getD t 0 = t := by
  rw [List.getD_eq_getElem?_getD, List.getElem?_range h]
  rfl
theorem linv {cap : Nat → Nat → Nat} {n : Nat} {l : List Went} {now mk : List Nat} {ws : List Way} (h : LotsOf cap n l now mk ws) : Ok n l → LInv n now mk ws := by
  induction h with
  | nil =>
    intro _
    refine ⟨List.length_range, fun t ht => ?_, fun t u ht hu e => ?_, ?_, fun i hi => ?_, fun i t hi => ?_⟩
    · rw [range_at ht, none_length]
      exact ht
    · rw [range_at ht, range_at hu] at e
      exact e
    · rw [none_length]
      exact Nat.le_refl _
    · cases hi
    · cases hi
  | in_ t a lo hi h ih =>
    intro ok
    obtain ⟨ok, he⟩ := ok_snoc ok
    have I := ih ok
    refine ⟨I.nlen, fun u hu => ?_, I.inj, ?_, fun i hi => ?_, I.open_⟩
    · rw [add_length]
      exact I.lt u hu
    · rw [add_length]
      exact I.many
    · rw [add_length]
      exact I.wlt i hi
  | @pour l now mk ws a b m h ih =>
    intro ok
    obtain ⟨ok, ha, hb, ab, hm⟩ := ok_snoc ok
    have I := ih ok
    have hn := I.nlen
    have at_ : ∀ t, (now.set a mk.length).getD t 0 = if t = a then mk.length else now.getD t 0 := fun t => by
      rw [getD_set]
      by_cases e : t = a
      · rw [if_pos ⟨e, by omega⟩, if_pos e]
      · rw [if_neg (fun z => e z.1), if_neg e]
    have la := I.lt a ha
    have lb := I.lt b hb
    have ll : (mk ++ [0]).length = mk.length + 1 := by simp
    refine ⟨by rw [List.length_set]; exact hn, fun t ht => ?_, fun t u ht hu e => ?_, ?_, fun i hi => ?_, fun i t hi ht => ?_⟩
    · have := I.lt t ht
      rw [at_, ll]
      split <;> omega
    · have h1 := I.lt t ht
      have h2 := I.lt u hu
      rw [at_, at_] at e
      by_cases c1 : t = a
      · by_cases c2 : u = a
        · omega
        · rw [if_pos c1, if_neg c2] at e
          omega
      · by_cases c2 : u = a
        · rw [if_neg c1, if_pos c2] at e
          omega
        · rw [if_neg c1, if_neg c2] at e
          exact I.inj t u ht hu e
    · have := I.many
      omega
    · rw [ll]
      by_cases c : i < ws.length
      · rw [wAt_left _ c]
        have := I.wlt i c
        omega
      · obtain ⟨j, rfl⟩ : ∃ j, i = ws.length + j := ⟨i - ws.length, by omega⟩
        rw [List.length_append] at hi
        simp at hi
        rw [wAt_right]
        match j, hi with
        | 0, _ =>
          show now.getD a 0 < _ ∧ now.getD b 0 < _
          omega
        | 1, _ =>
          show now.getD a 0 < _ ∧ mk.length < _
          omega
    · rw [at_]
      by_cases c : i < ws.length
      · rw [wAt_left _ c]
        by_cases e : t = a
        · rw [if_pos e]
          have := I.wlt i c
          omega
        · rw [if_neg e]
          exact I.open_ i t c ht
      · obtain ⟨j, rfl⟩ : ∃ j, i = ws.length + j := ⟨i - ws.length, by omega⟩
        rw [List.length_append] at hi
        simp at hi
        rw [wAt_right]
        have key : now.getD a 0 ≠ if t = a then mk.length else now.getD t 0 := by
          by_cases e : t = a
          · rw [if_pos e]
            omega
          · rw [if_neg e]
            exact fun z => e (I.inj t a ht ha z.symm)
        match j, hi with
        | 0, _ => exact key
        | 1, _ => exact key
theorem mk_app (mk : List Nat) (k : Nat) : (mk ++ [0]).getD k 0 = mk.getD k 0 := by
  by_cases h : k < mk.length
  · rw [List.getD_eq_getElem?_getD, List.getD_eq_getElem?_getD, List.getElem?_append_left h]
  · rw [List.getD_eq_getElem?_getD, List.getD_eq_getElem?_getD, List.getElem?_eq_none (show mk.length ≤ k by omega)]
    by_cases e : k = mk.length
    · subst e
      simp
    · rw [List.getElem?_eq_none (by simp; omega)]
theorem mk_end (mk : List Nat) : (mk ++ [0]).getD mk.length 0 = 0 := by
  rw [mk_app, List.getD_eq_getElem?_getD, List.getElem?_eq_none (Nat.le_refl _)]
  rfl
theorem mk_total {cap : Nat → Nat → Nat} {n : Nat} {l : List Went} {now mk : List Nat} {ws : List Way} (h : LotsOf cap n l now mk ws) : Ok n l → onP mk.length allT mk = total cap l := by
  induction h with
  | nil =>
    intro _
    exact onP_none _ _ _
  | in_ t a lo hi h ih =>
    intro ok
    obtain ⟨ok, he⟩ := ok_snoc ok
    rw [add_length, onP_add _ rfl ((linv h ok).lt t he.1), ih ok, total_snoc]
    rfl
  | @pour l now mk ws a b m h ih =>
    intro ok
    obtain ⟨ok, he⟩ := ok_snoc ok
    rw [total_snoc, ← ih ok, List.length_append]
    show onP mk.length allT (mk ++ [0]) + (if allT mk.length = true then (mk ++ [0]).getD mk.length 0 else 0) = _ + 0
    rw [mk_end]
    refine Nat.add_right_cancel_iff.mpr (onP_congr fun t ht _ => ?_)
    rw [List.getD_eq_getElem?_getD, List.getD_eq_getElem?_getD, List.getElem?_append_left ht]
theorem mk_many {cap : Nat → Nat → Nat} {n : Nat} {l : List Went} {now mk : List Nat} {ws : List Way} (h : LotsOf cap n l now mk ws) : mk.length ≤ n + l.length ∧ ws.length ≤ 2 * l.length := by
  induction h with
  | nil =>
    rw [none_length]
    exact ⟨Nat.le_refl _, Nat.le_refl _⟩
  | in_ t a lo hi h ih =>
    rw [add_length, List.length_append]
    show _ ≤ n + (_ + 1) ∧ _ ≤ 2 * (_ + 1)
    omega
  | pour a b m h ih =>
    rw [List.length_append, List.length_append, List.length_append]
    show _ + 1 ≤ n + (_ + 1) ∧ _ + 2 ≤ 2 * (_ + 1)
    omega
/-! ### flows -/
/-- what goes into a lot, out of a lot, by the ways -/
def inW (ws : List Way) (f : Nat → Nat) (k : Nat) : Nat := sumT (fun i => if (wAt ws i).2.1 = k then f i else 0) ws.length
def outW (ws : List Way) (f : Nat → Nat) (k : Nat) : Nat := sumT (fun i => if (wAt ws i).1 = k then f i else 0) ws.length
theorem inW_two (ws : List Way) (w1 w2 : Way) (f : Nat → Nat) (k : Nat) : inW (ws ++ [w1, w2]) f k = inW ws f k + (if w1.2.1 = k then f ws.length else 0) + (if w2.2.1 = k then f (ws.length + 1) else 0) := by
  unfold inW
  rw [List.length_append]
  show sumT _ ws.length + (if (wAt (ws ++ [w1, w2]) (ws.length + 0)).2.1 = k then f (ws.length + 0) else 0) + (if (wAt (ws ++ [w1, w2]) (ws.length + 1)).2.1 = k then f (ws.length + 1) else 0) = _
  rw [wAt_right, wAt_right]
  congr 2
  exact sumT_congr fun i hi => by rw [wAt_left _ hi]
theorem outW_two (ws : List Way) (w1 w2 : Way) (f : Nat → Nat) (k : Nat) : outW (ws ++ [w1, w2]) f k = outW ws f k + (if w1.1 = k then f ws.length else 0) + (if w2.1 = k then f (ws.length + 1) else 0) := by
  unfold outW
  rw [List.length_append]
  show sumT _ ws.length + (if (wAt (ws ++ [w1, w2]) (ws.length + 0)).1 = k then f (ws.length + 0) else 0) + (if (wAt (ws ++ [w1, w2]) (ws.length + 1)).1 = k then f (ws.length + 1) else 0) = _
  rw [wAt_right, wAt_right]
  congr 2
  exact sumT_congr fun i hi => by rw [wAt_left _ hi]
theorem sumT_none {f : Nat → Nat} {n : Nat} (h : ∀ t, t < n → f t = 0) : sumT f n = 0 := by
  rw [sumT_congr (g := fun _ => 0) h, sumT_zero]
/-- nothing goes out of what is in a tank now -/
theorem outW_now {n : Nat} {now mk : List Nat} {ws : List Way} (I : LInv n now mk ws) (f : Nat → Nat) {t : Nat} (ht : t < n) : outW ws f (now.getD t 0) = 0 :=
  sumT_none fun i hi => by rw [if_neg (I.open_ i t hi ht)]
/-- nothing goes by a lot that isn't yet -/
theorem outW_far {n : Nat} {now mk : List Nat} {ws : List Way} (I : LInv n now mk ws) (f : Nat → Nat) {k : Nat} (hk : mk.length ≤ k) : outW ws f k = 0 :=
  sumT_none fun i hi => by rw [if_neg (by have := I.wlt i hi; omega)]
theorem inW_far {n : Nat} {now mk : List Nat} {ws : List Way} (I : LInv n now mk ws) (f : Nat → Nat) {k : Nat} (hk : mk.length ≤ k) : inW ws f k = 0 :=
  sumT_none fun i hi => by rw [if_neg (by have := I.wlt i hi; omega)]
theorem inW_congr {ws : List Way} {f g : Nat → Nat} {k : Nat} (h : ∀ i, i < ws.length → f i = g i) : inW ws f k = inW ws g k :=
  sumT_congr fun i hi => by rw [h i hi]
/-- **a flow over the lots is a subflow** -/
theorem sub_flow {cap : Nat → Nat → Nat} {n : Nat} {l : List Went} {now mk : List Nat} {ws : List Way} (h : LotsOf cap n l now mk ws) : Ok n l → ∀ (fs fw : Nat → Nat),
    (∀ k, k < mk.length → fs k ≤ mk.getD k 0) → (∀ i, i < ws.length → fw i ≤ (wAt ws i).2.2) → (∀ k, k < mk.length → (∀ t, t < n → now.getD t 0 ≠ k) → fs k + inW ws fw k = outW ws fw k) →
    ∃ y, Sub cap n l y ∧ ∀ t, t < n → y.getD t 0 = fs (now.getD t 0) + inW ws fw (now.getD t 0) := by
  induction h with
  | nil =>
    intro _ fs fw h1 _ _
    refine ⟨_, .nil, fun t ht => ?_⟩
    have := h1 t (by rw [none_length]; exact ht)
    rw [none_at] at this
    rw [none_at, range_at ht]
    show 0 = fs t + 0
    omega
  | @in_ l now mk ws t a lo hi h ih =>
    intro ok fs fw h1 h2 h3
    obtain ⟨ok, he⟩ := ok_snoc ok
    have I := linv h ok
    have ht : t < n := he.1
    have lt := I.lt t he.1
    have am : ∀ k, (add mk (now.getD t 0) (cap lo hi)).getD k 0 = mk.getD k 0 + if k = now.getD t 0 then cap lo hi else 0 := fun k => add_at _ k lt
    obtain ⟨y, hy, e⟩ := ih ok (fun k => min (fs k) (mk.getD k 0)) fw (fun k _ => Nat.min_le_right _ _) h2 (fun k hk hn => by
      have q := h1 k (by rw [add_length]; exact hk)
      rw [am, if_neg (fun z => hn t he.1 z.symm)] at q
      have := h3 k (by rw [add_length]; exact hk) hn
      rw [show min (fs k) (mk.getD k 0) = fs k by omega]
      exact this)
    have hl := sub_length hy
    have q := h1 (now.getD t 0) (by rw [add_length]; exact lt)
    rw [am, if_pos rfl] at q
    refine ⟨_, .in_ hy (k := fs (now.getD t 0) - mk.getD (now.getD t 0) 0) (by omega), fun u hu => ?_⟩
    rw [add_at _ u (by omega), e u hu]
    by_cases c : u = t
    · subst c
      rw [if_pos rfl]
      omega
    · rw [if_neg c]
      have q := h1 (now.getD u 0) (by rw [add_length]; exact I.lt u hu)
      rw [am, if_neg (fun z => c (I.inj u t hu he.1 z))] at q
      omega
  | @pour l now mk ws a b m h ih =>
    intro ok fs fw h1 h2 h3
    obtain ⟨ok, ha, hb, ab, hm⟩ := ok_snoc ok
    have I := linv h ok
    have hn := I.nlen
    have at_ : ∀ t, (now.set a mk.length).getD t 0 = if t = a then mk.length else now.getD t 0 := fun t => by
      rw [getD_set]
      by_cases e : t = a
      · rw [if_pos ⟨e, by omega⟩, if_pos e]
      · rw [if_neg (fun z => e z.1), if_neg e]
    have ll : (mk ++ [0]).length = mk.length + 1 := by simp
    have wl : (ws ++ [(now.getD a 0, now.getD b 0, m), (now.getD a 0, mk.length, (gr n l).getD a 0 - m)]).length = ws.length + 2 := by simp
    have la := I.lt a ha
    have lb := I.lt b hb
    have nab : now.getD a 0 ≠ now.getD b 0 := fun z => ab (I.inj a b ha hb z)
    have f1 := h2 ws.length (by omega)
    have f2 := h2 (ws.length + 1) (by omega)
    rw [show ws.length = ws.length + 0 from rfl, wAt_right] at f1
    rw [wAt_right] at f2
    have f1 : fw ws.length ≤ m := f1
    have f2 : fw (ws.length + 1) ≤ (gr n l).getD a 0 - m := f2
    have cons : ∀ k, k < mk.length → (∀ t, t < n → t ≠ a → now.getD t 0 ≠ k) → fs k + inW ws fw k = outW ws fw k + (if now.getD a 0 = k then fw ws.length + fw (ws.length + 1) else 0) := fun k hk hnk => by
      have q := h3 k (by omega) (fun t ht => by
        rw [at_]
        by_cases e : t = a
        · rw [if_pos e]
          omega
        · rw [if_neg e]
          exact hnk t ht e)
      rw [inW_two, outW_two] at q
      dsimp only at q
      rw [if_neg (hnk b hb (Ne.symm ab)), if_neg (show mk.length ≠ k by omega)] at q
      by_cases e : now.getD a 0 = k
      · rw [if_pos e, if_pos e] at q
        rw [if_pos e]
        omega
      · rw [if_neg e, if_neg e] at q
        rw [if_neg e]
        omega
    obtain ⟨y, hy, e⟩ := ih ok fs fw (fun k hk => by
      have q := h1 k (by omega)
      rw [mk_app] at q
      exact q) (fun i hi => by
      have q := h2 i (by omega)
      rw [wAt_left _ hi] at q
      exact q) (fun k hk hnk => by
      have q := cons k hk (fun t ht _ => hnk t ht)
      rw [if_neg (hnk a ha)] at q
      omega)
    have hl := sub_length hy
    have ea := e a ha
    have eb := e b hb
    have q := cons (now.getD a 0) la (fun t ht hta z => hta (I.inj t a ht ha z))
    rw [if_pos rfl, outW_now I fw ha] at q
    refine ⟨_, .pour hy (k := fw ws.length) (b := b) f1 (by omega) (by omega), fun u hu => ?_⟩
    rw [pour_at _ u (by omega) (by omega) ab, at_, inW_two]
    dsimp only
    by_cases c1 : u = a
    · rw [if_pos c1, if_pos c1, if_pos rfl, if_neg (by omega), inW_far I fw (Nat.le_refl _)]
      have q0 := h1 mk.length (by omega)
      rw [mk_app] at q0
      have q1 : mk.getD mk.length 0 = 0 := by
        rw [List.getD_eq_getElem?_getD, List.getElem?_eq_none (Nat.le_refl _)]
        rfl
      omega
    · rw [if_neg c1, if_neg c1]
      have := I.lt u hu
      rw [if_neg (show mk.length ≠ now.getD u 0 by omega)]
      by_cases c2 : u = b
      · subst c2
        rw [if_pos rfl, if_pos rfl]
        omega
      · rw [if_neg c2, if_neg (fun z => c2 (I.inj b u hb hu z).symm), e u hu]
        omega
/-! ### cuts -/
def cutW (R : Nat → Bool) (ws : List Way) : Nat := sumT (fun i => if !R (wAt ws i).1 && R (wAt ws i).2.1 then (wAt ws i).2.2 else 0) ws.length
theorem cutW_two (R : Nat → Bool) (ws : List Way) (w1 w2 : Way) : cutW R (ws ++ [w1, w2]) = cutW R ws + (if !R w1.1 && R w1.2.1 then w1.2.2 else 0) + (if !R w2.1 && R w2.2.1 then w2.2.2 else 0) := by
  unfold cutW
  rw [List.length_append]
  show sumT _ ws.length + (if !R (wAt (ws ++ [w1, w2]) (ws.length + 0)).1 && R (wAt (ws ++ [w1, w2]) (ws.length + 0)).2.1 then (wAt (ws ++ [w1, w2]) (ws.length + 0)).2.2 else 0) + (if !R (wAt (ws ++ [w1, w2]) (ws.length + 1)).1 && R (wAt (ws ++ [w1, w2]) (ws.length + 1)).2.1 then (wAt (ws ++ [w1, w2]) (ws.length + 1)).2.2 else 0) = _
  rw [wAt_right, wAt_right]
  congr 2
  exact sumT_congr fun i hi => by rw [wAt_left _ hi]
/-- **a set of lots is a cut** -/
theorem cut_set {cap : Nat → Nat → Nat} {n : Nat} {l : List Went} {now mk : List Nat} {ws : List Way} (h : LotsOf cap n l now mk ws) (R : Nat → Bool) : Ok n l → Cut cap n l (fun t => R (now.getD t 0)) (onP mk.length R mk + cutW R ws) := by
  induction h with
  | nil =>
    intro _
    rw [none_length, onP_none]
    exact .nil _
  | @in_ l now mk ws t a lo hi h ih =>
    intro ok
    obtain ⟨ok, he⟩ := ok_snoc ok
    have q := Cut.snoc (V := fun t => R (now.getD t 0)) (e := .in_ t a lo hi) (ih ok) (fun _ z => z)
    have e : onP mk.length R mk + cutW R ws + cost cap (gr n l) (fun t => R (now.getD t 0)) (fun t => R (now.getD t 0)) (.in_ t a lo hi) = onP (add mk (now.getD t 0) (cap lo hi)).length R (add mk (now.getD t 0) (cap lo hi)) + cutW R ws := by
      rw [add_length, onP_add _ rfl ((linv h ok).lt t he.1)]
      show _ + _ + (if R (now.getD t 0) = true then cap lo hi else 0) = _
      omega
    rw [← e]
    exact q
  | @pour l now mk ws a b m h ih =>
    intro ok
    obtain ⟨ok, ha, hb, ab, hm⟩ := ok_snoc ok
    have I := linv h ok
    have hn := I.nlen
    have at_ : ∀ t, (now.set a mk.length).getD t 0 = if t = a then mk.length else now.getD t 0 := fun t => by
      rw [getD_set]
      by_cases e : t = a
      · rw [if_pos ⟨e, by omega⟩, if_pos e]
      · rw [if_neg (fun z => e z.1), if_neg e]
    have q := Cut.snoc (V := fun t => R ((now.set a mk.length).getD t 0)) (e := .pour a b m) (ih ok) (fun t ht z => by
      dsimp only at z
      rw [at_, if_neg ht] at z
      exact z)
    have e : onP mk.length R mk + cutW R ws + cost cap (gr n l) (fun t => R (now.getD t 0)) (fun t => R ((now.set a mk.length).getD t 0)) (.pour a b m) = onP (mk ++ [0]).length R (mk ++ [0]) + cutW R (ws ++ [(now.getD a 0, now.getD b 0, m), (now.getD a 0, mk.length, (gr n l).getD a 0 - m)]) := by
      have e1 : onP (mk ++ [0]).length R (mk ++ [0]) = onP mk.length R mk := by
        rw [List.length_append]
        show onP mk.length R (mk ++ [0]) + (if R mk.length = true then (mk ++ [0]).getD mk.length 0 else 0) = _
        rw [mk_end, show onP mk.length R (mk ++ [0]) = onP mk.length R mk from onP_congr fun t _ _ => mk_app _ _]
        split <;> rfl
      rw [e1, cutW_two]
      show _ + _ + ((if !R (now.getD a 0) && R ((now.set a mk.length).getD b 0) then m else 0) + (if !R (now.getD a 0) && R ((now.set a mk.length).getD a 0) then (gr n l).getD a 0 - m else 0)) = _
      rw [at_, at_, if_neg (Ne.symm ab), if_pos rfl]
      dsimp only
      omega
    rw [← e]
    exact q
end MG

/-! The net of a list of ways, each with its twin; what a flow with a closed set tells; most and least by it. -/
namespace MD
open MG MN Ks175
def src (W : List Way) (e : Nat) : Nat := if e % 2 = 0 then (wAt W (e / 2)).1 else (wAt W (e / 2)).2.1
def dst (W : List Way) (e : Nat) : Nat := if e % 2 = 0 then (wAt W (e / 2)).2.1 else (wAt W (e / 2)).1
def capW (W : List Way) (e : Nat) : Int := if e % 2 = 0 then ((wAt W (e / 2)).2.2 : Int) else 0
def tw (e : Nat) : Nat := if e % 2 = 0 then e + 1 else e - 1
theorem tw_even {e : Nat} (h : e % 2 = 0) : tw e = e + 1 := if_pos h
theorem tw_odd {e : Nat} (h : e % 2 = 1) : tw e = e - 1 := if_neg (by omega)
theorem tw_ne (e : Nat) : tw e ≠ e := by
  rcases Nat.mod_two_eq_zero_or_one e with h | h
  · rw [tw_even h]
    omega
  · rw [tw_odd h]
    omega
theorem tw_lt {e k : Nat} (h : e < 2 * k) : tw e < 2 * k := by
  rcases Nat.mod_two_eq_zero_or_one e with c | c
  · rw [tw_even c]
    omega
  · rw [tw_odd c]
    omega
theorem tw_tw (e : Nat) : tw (tw e) = e := by
  rcases Nat.mod_two_eq_zero_or_one e with c | c
  · rw [tw_even c, tw_odd (by omega)]
    omega
  · rw [tw_odd c, tw_even (by omega)]
    omega
theorem src_tw (W : List Way) (e : Nat) : src W (tw e) = dst W e := by
  unfold src dst
  rcases Nat.mod_two_eq_zero_or_one e with c | c
  · rw [tw_even c, if_neg (by omega), if_pos c, show (e + 1) / 2 = e / 2 by omega]
  · rw [tw_odd c, if_pos (by omega), if_neg (by omega), show (e - 1) / 2 = e / 2 by omega]
theorem dst_tw (W : List Way) (e : Nat) : dst W (tw e) = src W e := by
  rw [← src_tw, tw_tw]
theorem net (W : List Way) : Net (2 * W.length) (src W) (dst W) tw := ⟨fun _ h => tw_lt h, fun e _ => tw_tw e, fun e _ => src_tw W e, fun e _ => dst_tw W e⟩
theorem sI_two (g : Nat → Int) : ∀ k : Nat, sI g (2 * k) = sI (fun i => g (2 * i) + g (2 * i + 1)) k
  | 0 => rfl
  | k + 1 => by
    show sI g (2 * k) + g (2 * k) + g (2 * k + 1) = sI _ k + (g (2 * k) + g (2 * k + 1))
    rw [sI_two g k]
    omega
theorem sI_nat (f : Nat → Nat) : ∀ k : Nat, sI (fun i => (f i : Int)) k = ((sumT f k : Nat) : Int)
  | 0 => rfl
  | k + 1 => by
    show sI _ k + (f k : Int) = ((sumT f k + f k : Nat) : Int)
    rw [sI_nat f k]
    omega
theorem src_e (W : List Way) (i : Nat) : src W (2 * i) = (wAt W i).1 := by
  unfold src
  rw [if_pos (by omega), show 2 * i / 2 = i by omega]
theorem src_o (W : List Way) (i : Nat) : src W (2 * i + 1) = (wAt W i).2.1 := by
  unfold src
  rw [if_neg (by omega), show (2 * i + 1) / 2 = i by omega]
theorem dst_e (W : List Way) (i : Nat) : dst W (2 * i) = (wAt W i).2.1 := by
  unfold dst
  rw [if_pos (by omega), show 2 * i / 2 = i by omega]
theorem cap_e (W : List Way) (i : Nat) : capW W (2 * i) = ((wAt W i).2.2 : Int) := by
  unfold capW
  rw [if_pos (by omega), show 2 * i / 2 = i by omega]
theorem cap_o (W : List Way) (i : Nat) : capW W (2 * i + 1) = 0 := by
  unfold capW
  rw [if_neg (by omega)]
theorem tw_e (i : Nat) : tw (2 * i) = 2 * i + 1 := tw_even (by omega)
/-- the rests at an end: what went from s to t is F; R is what still leads to t -/
structure Max (W : List Way) (s t : Nat) (r : Nat → Int) (F : Int) (R : Nat → Bool) : Prop where
  even : Even (2 * W.length) tw (capW W) r
  outs : ∀ v, out (2 * W.length) (src W) r v = out (2 * W.length) (src W) (capW W) v - (if v = s then F else 0) + (if v = t then F else 0)
  rs : R s = false
  rt : R t = true
  cl : ∀ e, e < 2 * W.length → 0 < r e → R (dst W e) = true → R (src W e) = true
def fl (r : Nat → Int) (i : Nat) : Nat := (r (2 * i + 1)).toNat
section
variable {W : List Way} {s t : Nat} {r : Nat → Int} {F : Int} {R : Nat → Bool}
theorem fl_eq (E : Even (2 * W.length) tw (capW W) r) {i : Nat} (h : i < W.length) : r (2 * i + 1) = (fl r i : Int) ∧ r (2 * i) = ((wAt W i).2.2 : Int) - (fl r i : Int) := by
  have h1 := E.pos (2 * i + 1) (by omega)
  have h2 := E.pair (2 * i) (by omega)
  rw [tw_e, cap_e, cap_o] at h2
  unfold fl
  omega
theorem fl_le (E : Even (2 * W.length) tw (capW W) r) {i : Nat} (h : i < W.length) : fl r i ≤ (wAt W i).2.2 := by
  have h1 := E.pos (2 * i) (by omega)
  have h2 := fl_eq E h
  omega
theorem fl_bal (E : Even (2 * W.length) tw (capW W) r) (v : Nat) : out (2 * W.length) (src W) r v - out (2 * W.length) (src W) (capW W) v = ((inW W (fl r) v : Nat) : Int) - ((outW W (fl r) v : Nat) : Int) := by
  unfold out inW outW
  rw [sI_two, sI_two, ← sI_nat, ← sI_nat, ← sI_sub, ← sI_sub]
  refine sI_congr fun i hi => ?_
  obtain ⟨h1, h2⟩ := fl_eq E hi
  rw [src_e, src_o, cap_e, cap_o, h1, h2]
  by_cases c1 : (wAt W i).1 = v
  · by_cases c2 : (wAt W i).2.1 = v
    · rw [if_pos c1, if_pos c2, if_pos c1, if_pos c2, if_pos c2, if_pos c1]
      omega
    · rw [if_pos c1, if_neg c2, if_pos c1, if_neg c2, if_neg c2, if_pos c1]
      omega
  · by_cases c2 : (wAt W i).2.1 = v
    · rw [if_neg c1, if_pos c2, if_neg c1, if_pos c2, if_pos c2, if_neg c1]
      omega
    · rw [if_neg c1, if_neg c2, if_neg c1, if_neg c2, if_neg c2, if_neg c1]
      omega
theorem Max.bal (M : Max W s t r F R) (v : Nat) : ((inW W (fl r) v : Nat) : Int) - ((outW W (fl r) v : Nat) : Int) = (if v = t then F else 0) - (if v = s then F else 0) := by
  have h := fl_bal M.even v
  rw [M.outs v] at h
  omega
theorem Max.cut (M : Max W s t r F R) (n : Nat) (hs : s < n) (hn : ∀ i, i < W.length → (wAt W i).1 < n ∧ (wAt W i).2.1 < n) : ((cutW R W : Nat) : Int) = F := by
  have hsn : ∀ e, e < 2 * W.length → src W e < n := fun e he => by
    have := hn (e / 2) (by omega)
    unfold src
    split <;> omega
  have q := cut_eq (net W) M.even (fun v => !R v) hsn (fun e he h1 h2 => by
    have p := M.even.pos e he
    have c := M.cl e he
    simp at h1 h2
    by_cases z : 0 < r e
    · rw [c z h2] at h1
      cases h1
    · omega)
  have L : sI (fun v => if (!R v) = true then out (2 * W.length) (src W) (capW W) v - out (2 * W.length) (src W) r v else 0) n = sI (fun v => if v = s then F else 0) n := by
    refine sI_congr fun v _ => ?_
    rw [M.outs v]
    by_cases c1 : v = s
    · subst c1
      have : v ≠ t := fun z => by
        have h1 := M.rs
        rw [z, M.rt] at h1
        cases h1
      rw [M.rs, if_pos rfl, if_neg this]
      simp
      omega
    · rw [if_neg c1]
      by_cases c2 : v = t
      · subst c2
        rw [M.rt]
        simp
      · rw [if_neg c2]
        cases R v <;> simp
  rw [L, sI_single, if_pos hs, sI_two] at q
  rw [q]
  unfold cutW
  rw [← sI_nat]
  refine sI_congr fun i hi => ?_
  rw [src_e, src_o, dst_e, cap_e, cap_o]
  cases R (wAt W i).1 <;> cases R (wAt W i).2.1 <;> simp
end
theorem sumT_app (f : Nat → Nat) (a : Nat) : ∀ b : Nat, sumT f (a + b) = sumT f a + sumT (fun i => f (a + i)) b
  | 0 => rfl
  | b + 1 => by
    show sumT f (a + b) + f (a + b) = sumT f a + (sumT (fun i => f (a + i)) b + f (a + b))
    rw [sumT_app f a b]
    omega
theorem inW_app (A B : List Way) (f : Nat → Nat) (k : Nat) : inW (A ++ B) f k = inW A f k + inW B (fun i => f (A.length + i)) k := by
  unfold inW
  rw [List.length_append, sumT_app]
  congr 1
  · exact sumT_congr fun i hi => by rw [wAt_left _ hi]
  · exact sumT_congr fun i hi => by rw [wAt_right]
theorem outW_app (A B : List Way) (f : Nat → Nat) (k : Nat) : outW (A ++ B) f k = outW A f k + outW B (fun i => f (A.length + i)) k := by
  unfold outW
  rw [List.length_append, sumT_app]
  congr 1
  · exact sumT_congr fun i hi => by rw [wAt_left _ hi]
  · exact sumT_congr fun i hi => by rw [wAt_right]
theorem cutW_app (R : Nat → Bool) (A B : List Way) : cutW R (A ++ B) = cutW R A + cutW R B := by
  unfold cutW
  rw [List.length_append, sumT_app]
  congr 1
  · exact sumT_congr fun i hi => by rw [wAt_left _ hi]
  · exact sumT_congr fun i hi => by rw [wAt_right]
/-- the ways from the source: into each lot -/
def wS (mk : List Nat) : List Way := (List.range mk.length).map fun k => (mk.length, k, mk.getD k 0)
/-- the ways to the sink: out of each of these tanks -/
def wT (mk now tanks : List Nat) : List Way := tanks.map fun t => (now.getD t 0, mk.length + 1, onP mk.length allT mk)
def wAll (mk now : List Nat) (ws : List Way) (tanks : List Nat) : List Way := wS mk ++ ws ++ wT mk now tanks
theorem wS_len (mk : List Nat) : (wS mk).length = mk.length := by simp [wS]
theorem wT_len (mk now tanks : List Nat) : (wT mk now tanks).length = tanks.length := by simp [wT]
theorem wS_at {mk : List Nat} {k : Nat} (h : k < mk.length) : wAt (wS mk) k = (mk.length, k, mk.getD k 0) := by
  unfold wAt wS
  rw [List.getD_eq_getElem?_getD, List.getElem?_map, List.getElem?_range h]
  rfl
theorem wT_at {mk now tanks : List Nat} {j : Nat} (h : j < tanks.length) : wAt (wT mk now tanks) j = (now.getD (tanks.getD j 0) 0, mk.length + 1, onP mk.length allT mk) := by
  unfold wAt wT
  rw [List.getD_eq_getElem?_getD, List.getElem?_map, List.getD_eq_getElem?_getD (l := tanks), List.getElem?_eq_getElem h]
  rfl
theorem inS (mk : List Nat) (f : Nat → Nat) (k : Nat) : inW (wS mk) f k = if k < mk.length then f k else 0 := by
  unfold inW
  rw [wS_len, sumT_congr (g := fun i => if i = k then f k else 0), sumT_single]
  intro i hi
  rw [wS_at hi]
  by_cases c : i = k
  · subst c
    rw [if_pos rfl]
  · rw [if_neg c]
    exact (if_neg c).symm
theorem outS {mk : List Nat} (f : Nat → Nat) {k : Nat} (h : k ≠ mk.length) : outW (wS mk) f k = 0 := by
  unfold outW
  rw [wS_len]
  exact sumT_none fun i hi => by rw [wS_at hi, if_neg (Ne.symm h)]
theorem inT {mk now tanks : List Nat} (f : Nat → Nat) {k : Nat} (h : k ≠ mk.length + 1) : inW (wT mk now tanks) f k = 0 := by
  unfold inW
  rw [wT_len]
  exact sumT_none fun i hi => by rw [wT_at hi, if_neg (Ne.symm h)]
theorem inT1 {mk now tanks : List Nat} (f : Nat → Nat) : inW (wT mk now tanks) f (mk.length + 1) = sumT f tanks.length := by
  unfold inW
  rw [wT_len]
  exact sumT_congr fun i hi => by rw [wT_at hi, if_pos rfl]
theorem sumT_swap (f : Nat → Nat → Nat) (m : Nat) : ∀ n : Nat, sumT (fun i => sumT (fun j => f i j) m) n = sumT (fun j => sumT (fun i => f i j) n) m
  | 0 => (sumT_zero m).symm
  | n + 1 => by
    show sumT (fun i => sumT (fun j => f i j) m) n + sumT (fun j => f n j) m = sumT (fun j => sumT (fun i => f i j) n + f n j) m
    rw [sumT_add, sumT_swap f m n]
theorem sumT_ge {f : Nat → Nat} : ∀ {n j : Nat}, j < n → f j ≤ sumT f n
  | n + 1, j, h => by
    show _ ≤ sumT f n + f n
    by_cases c : j = n
    · subst c
      omega
    · have := sumT_ge (f := f) (n := n) (j := j) (by omega)
      omega
/-- **what a greatest flow tells** -/
theorem max_due {cap : Nat → Nat → Nat} {n : Nat} {l : List Went} {now mk : List Nat} {ws : List Way} (h : LotsOf cap n l now mk ws) (ok : Ok n l) {tanks : List Nat} {B : Nat → Bool} (hB : ∀ t, t ∈ tanks ↔ t < n ∧ B t = true)
    {r : Nat → Int} {F : Int} {R : Nat → Bool} (M : Max (wAll mk now ws tanks) mk.length (mk.length + 1) r F R) :
    ∃ y U c, Sub cap n l y ∧ Cut cap n l U c ∧ (∀ t, t < n → B t = true → U t = true) ∧ c ≤ onP n B y ∧ ((onP n B y : Nat) : Int) = F := by
  have I := linv h ok
  have hAl : (wAll mk now ws tanks).length = mk.length + ws.length + tanks.length := by
    unfold wAll
    rw [List.length_append, List.length_append, wS_len, wT_len]
  have aS : ∀ k, k < mk.length → wAt (wAll mk now ws tanks) k = (mk.length, k, mk.getD k 0) := fun k hk => by
    unfold wAll
    rw [List.append_assoc, wAt_left _ (by rw [wS_len]; exact hk), wS_at hk]
  have aW : ∀ i, i < ws.length → wAt (wAll mk now ws tanks) (mk.length + i) = wAt ws i := fun i hi => by
    unfold wAll
    have := wAt_right (wS mk) (ws ++ wT mk now tanks) i
    rw [wS_len] at this
    rw [List.append_assoc, this, wAt_left _ hi]
  have aT : ∀ j, j < tanks.length → wAt (wAll mk now ws tanks) (mk.length + ws.length + j) = (now.getD (tanks.getD j 0) 0, mk.length + 1, onP mk.length allT mk) := fun j hj => by
    unfold wAll
    have := wAt_right (wS mk ++ ws) (wT mk now tanks) j
    rw [List.length_append, wS_len] at this
    rw [this, wT_at hj]
  have mem : ∀ j, j < tanks.length → tanks.getD j 0 < n ∧ B (tanks.getD j 0) = true := fun j hj => by
    refine (hB _).mp ?_
    rw [List.getD_eq_getElem?_getD, List.getElem?_eq_getElem hj]
    exact List.getElem_mem hj
  have fLe : ∀ i, i < mk.length + ws.length + tanks.length → fl r i ≤ (wAt (wAll mk now ws tanks) i).2.2 := fun i hi => fl_le M.even (by rw [hAl]; exact hi)
  -- the flow's parts
  have inA : ∀ k, inW (wAll mk now ws tanks) (fl r) k = inW (wS mk) (fl r) k + inW ws (fun i => fl r (mk.length + i)) k + inW (wT mk now tanks) (fun j => fl r (mk.length + ws.length + j)) k := fun k => by
    unfold wAll
    rw [inW_app, inW_app, List.length_append, wS_len]
  have outA : ∀ k, outW (wAll mk now ws tanks) (fl r) k = outW (wS mk) (fl r) k + outW ws (fun i => fl r (mk.length + i)) k + outW (wT mk now tanks) (fun j => fl r (mk.length + ws.length + j)) k := fun k => by
    unfold wAll
    rw [outW_app, outW_app, List.length_append, wS_len]
  have bal : ∀ k, k < mk.length → fl r k + inW ws (fun i => fl r (mk.length + i)) k = outW ws (fun i => fl r (mk.length + i)) k + outW (wT mk now tanks) (fun j => fl r (mk.length + ws.length + j)) k := fun k hk => by
    have q := M.bal k
    rw [if_neg (by omega), if_neg (by omega), inA, outA, inS, if_pos hk, inT _ (by omega), outS _ (by omega)] at q
    omega
  have oT : ∀ k, outW (wT mk now tanks) (fun j => fl r (mk.length + ws.length + j)) k = sumT (fun j => if now.getD (tanks.getD j 0) 0 = k then fl r (mk.length + ws.length + j) else 0) tanks.length := fun k => by
    unfold outW
    rw [wT_len]
    exact sumT_congr fun j hj => by rw [wT_at hj]
  have tot : ((sumT (fun j => fl r (mk.length + ws.length + j)) tanks.length : Nat) : Int) = F := by
    have q := M.bal (mk.length + 1)
    rw [if_pos rfl, if_neg (by omega), inA, outA, inS, if_neg (by omega), inW_far I _ (by omega), inT1, outS _ (by omega), outW_far I _ (by omega), oT,
      sumT_none (f := fun j => if now.getD (tanks.getD j 0) 0 = mk.length + 1 then fl r (mk.length + ws.length + j) else 0) (fun j hj => by
        have := I.lt _ (mem j hj).1
        exact if_neg (by omega))] at q
    omega
  obtain ⟨y, hy, ey⟩ := sub_flow h ok (fl r) (fun i => fl r (mk.length + i)) (fun k hk => by
      have q := fLe k (by omega)
      rw [aS k hk] at q
      exact q) (fun i hi => by
      have q := fLe (mk.length + i) (by omega)
      rw [aW i hi] at q
      exact q) (fun k hk hn => by
      rw [bal k hk, oT, sumT_none (fun j hj => by rw [if_neg (hn _ (mem j hj).1)])]
      rfl)
  have val : onP n B y = sumT (fun j => fl r (mk.length + ws.length + j)) tanks.length := by
    have e1 : onP n B y = sumT (fun t => sumT (fun j => if tanks.getD j 0 = t then fl r (mk.length + ws.length + j) else 0) tanks.length) n := by
      unfold onP
      refine sumT_congr fun t ht => ?_
      cases c : B t with
      | true =>
        rw [if_pos rfl, ey t ht, bal _ (I.lt t ht), outW_now I _ ht, oT, Nat.zero_add]
        refine sumT_congr fun j hj => ?_
        by_cases z : tanks.getD j 0 = t
        · rw [if_pos z, if_pos (by rw [z])]
        · rw [if_neg z, if_neg (fun w => z (I.inj _ _ (mem j hj).1 ht w))]
      | false =>
        rw [if_neg (by decide), sumT_none fun j hj => if_neg (fun z => by
          have := (mem j hj).2
          rw [z, c] at this
          cases this)]
    rw [e1, sumT_swap]
    refine sumT_congr fun j hj => ?_
    rw [sumT_congr (g := fun t => if t = tanks.getD j 0 then fl r (mk.length + ws.length + j) else 0) (fun t _ => by
      by_cases z : t = tanks.getD j 0
      · rw [if_pos z, if_pos z.symm]
      · rw [if_neg z, if_neg (Ne.symm z)]), sumT_single, if_pos (mem j hj).1]
  by_cases all : ∀ t, t < n → B t = true → R (now.getD t 0) = true
  · refine ⟨y, _, _, hy, cut_set h R ok, all, ?_, by rw [val]; exact tot⟩
    have q := M.cut (mk.length + 2) (by omega) (fun i hi => by
      rw [hAl] at hi
      by_cases c1 : i < mk.length
      · rw [aS i c1]
        show mk.length < _ ∧ i < _
        omega
      · by_cases c2 : i < mk.length + ws.length
        · obtain ⟨j, rfl⟩ : ∃ j, i = mk.length + j := ⟨i - mk.length, by omega⟩
          rw [aW j (by omega)]
          have := I.wlt j (by omega)
          omega
        · obtain ⟨j, rfl⟩ : ∃ j, i = mk.length + ws.length + j := ⟨i - (mk.length + ws.length), by omega⟩
          rw [aT j (by omega)]
          have := I.lt _ (mem j (by omega)).1
          show now.getD _ 0 < _ ∧ mk.length + 1 < _
          omega)
    unfold wAll at q
    rw [cutW_app, cutW_app] at q
    have s1 : cutW R (wS mk) = onP mk.length R mk := by
      unfold cutW onP
      rw [wS_len]
      refine sumT_congr fun k hk => ?_
      rw [wS_at hk]
      dsimp only
      rw [M.rs]
      rfl
    rw [val]
    omega
  · obtain ⟨t0, h1, h2, h3⟩ : ∃ t, t < n ∧ B t = true ∧ R (now.getD t 0) = false := by
      refine Classical.byContradiction fun z => all fun t ht hb => ?_
      cases c : R (now.getD t 0) with
      | true => rfl
      | false => exact absurd ⟨t, ht, hb, c⟩ z
    obtain ⟨j, hj, ej⟩ := List.getElem_of_mem ((hB t0).mpr ⟨h1, h2⟩)
    have ej : tanks.getD j 0 = t0 := by
      rw [List.getD_eq_getElem?_getD, List.getElem?_eq_getElem hj]
      exact ej
    refine ⟨y, _, _, hy, cut_set h allT ok, fun _ _ _ => rfl, ?_, by rw [val]; exact tot⟩
    have c0 : cutW allT ws = 0 := sumT_none fun i _ => rfl
    rw [c0, val]
    have w := aT j hj
    have q := M.cl (2 * (mk.length + ws.length + j)) (by rw [hAl]; omega)
    rw [dst_e, src_e, w] at q
    dsimp only at q
    rw [ej, h3] at q
    have p := M.even.pos (2 * (mk.length + ws.length + j)) (by rw [hAl]; omega)
    have e2 := (fl_eq M.even (i := mk.length + ws.length + j) (by rw [hAl]; omega)).2
    rw [w] at e2
    have z : ¬ 0 < r (2 * (mk.length + ws.length + j)) := fun z => by
      have := q z M.rt
      cases this
    have g := sumT_ge (f := fun j => fl r (mk.length + ws.length + j)) hj
    dsimp only at e2 g
    omega
theorem most_due {n : Nat} {l : List Went} {now mk : List Nat} {ws : List Way} (h : LotsOf hiC n l now mk ws) (ok : Ok n l) {tanks : List Nat} {s : Nat} (hB : ∀ t, t ∈ tanks ↔ t < n ∧ s.testBit t = true)
    {r : Nat → Int} {F : Int} {R : Nat → Bool} (M : Max (wAll mk now ws tanks) mk.length (mk.length + 1) r F R) : (((Abs.mk n l).most s : Nat) : Int) = F := by
  obtain ⟨y, U, c, h1, h2, h3, h4, h5⟩ := max_due h ok (B := bits s) hB M
  rw [most_eq ok h1 h2 h3 h4]
  exact h5
theorem least_due {n : Nat} {l : List Went} {now mk : List Nat} {ws : List Way} (h : LotsOf loC n l now mk ws) (ok : Ok n l) {tanks : List Nat} {s : Nat} (hB : ∀ t, t ∈ tanks ↔ t < n ∧ s.testBit t = false)
    {r : Nat → Int} {F : Int} {R : Nat → Bool} (M : Max (wAll mk now ws tanks) mk.length (mk.length + 1) r F R) : (((Abs.mk n l).least s : Nat) : Int) = ((onP mk.length allT mk : Nat) : Int) - F := by
  obtain ⟨y, U, c, h1, h2, h3, h4, h5⟩ := max_due h ok (B := fun t => !bits s t) (fun t => by
    rw [hB]
    unfold bits
    cases s.testBit t <;> simp) M
  have q := least_eq ok h1 h2 (fun t ht z => h3 t ht (by unfold bits; rw [z]; rfl)) h4
  rw [mk_total h ok]
  omega
end MD

/-! The search for steps, and the sending along shortest paths: what holds between two turns. -/
namespace MD
open MG MN
def iAt (l : List Int) (i : Nat) : Int := l.getD i 0
def nAt (l : List Nat) (i : Nat) : Nat := l.getD i 0
def lAt (l : List (List Nat)) (i : Nat) : List Nat := l.getD i []
theorem iAt_set (l : List Int) (t : Nat) (v : Int) (u : Nat) : iAt (l.set t v) u = if u = t ∧ t < l.length then v else iAt l u := by
  unfold iAt
  rw [List.getD_eq_getElem?_getD, List.getElem?_set, List.getD_eq_getElem?_getD]
  by_cases h1 : t = u
  · subst h1
    rw [if_pos rfl]
    by_cases h2 : t < l.length
    · rw [if_pos h2, if_pos ⟨rfl, h2⟩]
      rfl
    · rw [if_neg h2, if_neg (fun h => h2 h.2), List.getElem?_eq_none (by omega)]
  · rw [if_neg h1, if_neg (fun h => h1 h.1.symm)]
theorem nAt_set (l : List Nat) (t v u : Nat) : nAt (l.set t v) u = if u = t ∧ t < l.length then v else nAt l u := getD_set l t v u
theorem lAt_set (l : List (List Nat)) (t : Nat) (v : List Nat) (u : Nat) : lAt (l.set t v) u = if u = t ∧ t < l.length then v else lAt l u := by
  unfold lAt
  rw [List.getD_eq_getElem?_getD, List.getElem?_set, List.getD_eq_getElem?_getD]
  by_cases h1 : t = u
  · subst h1
    rw [if_pos rfl]
    by_cases h2 : t < l.length
    · rw [if_pos h2, if_pos ⟨rfl, h2⟩]
      rfl
    · rw [if_neg h2, if_neg (fun h => h2 h.2), List.getElem?_eq_none (by omega)]
  · rw [if_neg h1, if_neg (fun h => h1 h.1.symm)]
theorem iAt_far {l : List Int} {i : Nat} (h : l.length ≤ i) : iAt l i = 0 := by
  unfold iAt
  rw [List.getD_eq_getElem?_getD, List.getElem?_eq_none h]
  rfl
/-! ### the net -/
structure Lv (N : Nat) (W : List Way) (lv : List (List Nat)) : Prop where
  len : lv.length = N
  ends : ∀ i, i < W.length → (wAt W i).1 < N ∧ (wAt W i).2.1 < N
  mem : ∀ v, v < N → ∀ e, e ∈ lAt lv v ↔ e < 2 * W.length ∧ src W e = v
theorem Lv.src_lt {N : Nat} {W : List Way} {lv : List (List Nat)} (L : Lv N W lv) {e : Nat} (he : e < 2 * W.length) : src W e < N := by
  have := L.ends (e / 2) (by omega)
  unfold src
  split <;> omega
theorem Lv.dst_lt {N : Nat} {W : List Way} {lv : List (List Nat)} (L : Lv N W lv) {e : Nat} (he : e < 2 * W.length) : dst W e < N := by
  have := L.ends (e / 2) (by omega)
  unfold dst
  split <;> omega
theorem lv_nil (N : Nat) : Lv N [] (List.replicate N []) := by
  refine ⟨List.length_replicate, fun i hi => (by cases hi), fun v hv e => ?_⟩
  unfold lAt
  rw [List.getD_eq_getElem?_getD, List.getElem?_replicate, if_pos hv]
  constructor
  · intro h
    cases h
  · intro h
    exact absurd h.1 (Nat.not_lt_zero _)
def apd (lv : List (List Nat)) (v e : Nat) : List (List Nat) := lv.set v (lAt lv v ++ [e])
theorem apd_len (lv : List (List Nat)) (v e : Nat) : (apd lv v e).length = lv.length := List.length_set
theorem lAt_apd {lv : List (List Nat)} {v : Nat} (e u : Nat) (h : v < lv.length) : lAt (apd lv v e) u = if u = v then lAt lv v ++ [e] else lAt lv u := by
  unfold apd
  rw [lAt_set]
  by_cases c : u = v
  · rw [if_pos ⟨c, h⟩, if_pos c]
  · rw [if_neg (fun z => c z.1), if_neg c]
theorem mem_apd {lv : List (List Nat)} {v : Nat} {e u x : Nat} (h : v < lv.length) : x ∈ lAt (apd lv v e) u ↔ x ∈ lAt lv u ∨ (x = e ∧ u = v) := by
  rw [lAt_apd e u h]
  by_cases c : u = v
  · rw [if_pos c, List.mem_append, List.mem_singleton, c]
    simp
  · rw [if_neg c]
    simp [c]
theorem src_app (W : List Way) (w : Way) {e : Nat} (he : e < 2 * W.length) : src (W ++ [w]) e = src W e := by
  unfold src
  rw [wAt_left _ (by omega)]
theorem lv_add {N : Nat} {W : List Way} {lv : List (List Nat)} (L : Lv N W lv) {a b : Nat} (c : Nat) (ha : a < N) (hb : b < N) : Lv N (W ++ [(a, b, c)]) (apd (apd lv a (2 * W.length)) b (2 * W.length + 1)) := by
  have hl := L.len
  have wl : (W ++ [(a, b, c)]).length = W.length + 1 := by simp
  have wlast : wAt (W ++ [(a, b, c)]) W.length = (a, b, c) := wAt_right W [(a, b, c)] 0
  refine ⟨by rw [apd_len, apd_len, hl], fun i hi => ?_, fun v hv e => ?_⟩
  · rw [wl] at hi
    by_cases q : i < W.length
    · rw [wAt_left _ q]
      exact L.ends i q
    · rw [show i = W.length by omega, wlast]
      exact ⟨ha, hb⟩
  · rw [mem_apd (by rw [apd_len]; omega), mem_apd (by omega), L.mem v hv e, wl]
    have s1 : src (W ++ [(a, b, c)]) (2 * W.length) = a := by rw [src_e, wlast]
    have s2 : src (W ++ [(a, b, c)]) (2 * W.length + 1) = b := by rw [src_o, wlast]
    constructor
    · rintro ((⟨h1, h2⟩ | ⟨rfl, rfl⟩) | ⟨rfl, rfl⟩)
      · exact ⟨by omega, by rw [src_app W _ h1]; exact h2⟩
      · exact ⟨by omega, s1⟩
      · exact ⟨by omega, s2⟩
    · rintro ⟨h1, h2⟩
      by_cases q : e < 2 * W.length
      · rw [src_app W _ q] at h2
        exact .inl (.inl ⟨q, h2⟩)
      · by_cases q2 : e = 2 * W.length
        · subst q2
          exact .inl (.inr ⟨rfl, by rw [← h2, s1]⟩)
        · have : e = 2 * W.length + 1 := by omega
          subst this
          exact .inr ⟨rfl, by rw [← h2, s2]⟩
def gl (W : List Way) : List Nat := W.flatMap fun w => [w.2.1, w.1]
def rl (W : List Way) : List Int := W.flatMap fun w => [(w.2.2 : Int), 0]
theorem gl_snoc (W : List Way) (w : Way) : gl (W ++ [w]) = gl W ++ [w.2.1] ++ [w.1] := by
  unfold gl
  rw [List.flatMap_append]
  simp
theorem rl_snoc (W : List Way) (w : Way) : rl (W ++ [w]) = rl W ++ [(w.2.2 : Int)] ++ [0] := by
  unfold rl
  rw [List.flatMap_append]
  simp
theorem gl_len : ∀ W : List Way, (gl W).length = 2 * W.length := snoc_ind rfl fun W w ih => by
  rw [gl_snoc]
  simp [ih]
  omega
theorem rl_len : ∀ W : List Way, (rl W).length = 2 * W.length := snoc_ind rfl fun W w ih => by
  rw [rl_snoc]
  simp [ih]
  omega
theorem snoc_two {α : Type} {l : List α} {x y : α} {k : Nat} (hl : l.length = 2 * k) {e : Nat} (he : e < 2 * k + 2) : (l ++ [x] ++ [y])[e]? = if e < 2 * k then l[e]? else if e = 2 * k then some x else some y := by
  by_cases c1 : e < 2 * k
  · rw [if_pos c1, List.append_assoc, List.getElem?_append_left (by omega)]
  · rw [if_neg c1, List.append_assoc, List.getElem?_append_right (by omega), hl]
    by_cases c2 : e = 2 * k
    · rw [if_pos c2, c2]
      simp
    · rw [if_neg c2, show e - 2 * k = 1 by omega]
      rfl
theorem gl_at : ∀ (W : List Way) (e : Nat), e < 2 * W.length → (gl W)[e]? = some (dst W e) := snoc_ind (fun e h => absurd h (Nat.not_lt_zero _)) fun W w ih e he => by
  have wl : (W ++ [w]).length = W.length + 1 := by simp
  have wlast : wAt (W ++ [w]) W.length = w := wAt_right W [w] 0
  rw [wl] at he
  rw [gl_snoc, snoc_two (gl_len W) (by omega)]
  unfold dst
  by_cases c1 : e < 2 * W.length
  · rw [if_pos c1, ih e c1, wAt_left _ (by omega)]
    rfl
  · rw [if_neg c1]
    by_cases c2 : e = 2 * W.length
    · rw [if_pos c2, if_pos (by omega), show e / 2 = W.length by omega, wlast]
    · rw [if_neg c2, if_neg (by omega), show e / 2 = W.length by omega, wlast]
theorem rl_at : ∀ (W : List Way) (e : Nat), e < 2 * W.length → (rl W)[e]? = some (capW W e) := snoc_ind (fun e h => absurd h (Nat.not_lt_zero _)) fun W w ih e he => by
  have wl : (W ++ [w]).length = W.length + 1 := by simp
  have wlast : wAt (W ++ [w]) W.length = w := wAt_right W [w] 0
  rw [wl] at he
  rw [rl_snoc, snoc_two (rl_len W) (by omega)]
  unfold capW
  by_cases c1 : e < 2 * W.length
  · rw [if_pos c1, ih e c1, wAt_left _ (by omega)]
    rfl
  · rw [if_neg c1]
    by_cases c2 : e = 2 * W.length
    · rw [if_pos c2, if_pos (by omega), show e / 2 = W.length by omega, wlast]
    · rw [if_neg c2, if_neg (by omega)]
theorem rl_iAt {W : List Way} {e : Nat} (h : e < 2 * W.length) : iAt (rl W) e = capW W e := by
  unfold iAt
  rw [List.getD_eq_getElem?_getD, rl_at W e h]
  rfl
theorem rl_even (W : List Way) : Even (2 * W.length) tw (capW W) (iAt (rl W)) := by
  refine ⟨fun e he => ?_, fun e he => ?_⟩
  · rw [rl_iAt he]
    unfold capW
    split <;> omega
  · rw [rl_iAt he, rl_iAt (tw_lt he)]
theorem rl_out (W : List Way) (v : Nat) : out (2 * W.length) (src W) (iAt (rl W)) v = out (2 * W.length) (src W) (capW W) v := by
  unfold out
  exact sI_congr fun e he => by rw [rl_iAt he]
/-! ### the steps -/
section
variable {N : Nat} {W : List Way} {lv : List (List Nat)} {t : Nat} {rm : List Int}
structure Steps (N : Nat) (W : List Way) (t : Nat) (rm st : List Int) : Prop where
  len : st.length = N
  t0 : iAt st t = 0
  z : ∀ v, v < N → iAt st v = 0 → v = t
  step : ∀ v, v < N → 0 < iAt st v → ∃ e, e < 2 * W.length ∧ src W e = v ∧ 0 < iAt rm e ∧ iAt st (dst W e) = iAt st v - 1
  cl : ∀ e, e < 2 * W.length → 0 < iAt rm e → 0 ≤ iAt st (dst W e) → 0 ≤ iAt st (src W e)
  top : ∀ v, v < N → iAt st v < (N : Int)
def neg (st : List Int) (N : Nat) : Nat := sumT (fun v => if iAt st v < 0 then 1 else 0) N
structure Bfs (N : Nat) (W : List Way) (lv : List (List Nat)) (t : Nat) (rm : List Int) (st : List Int) (rc : List Nat) (pl : Nat) : Prop where
  len : st.length = N
  t0 : iAt st t = 0
  z : ∀ v, v < N → iAt st v = 0 → v = t
  step : ∀ v, v < N → 0 < iAt st v → ∃ e, e < 2 * W.length ∧ src W e = v ∧ 0 < iAt rm e ∧ iAt st (dst W e) = iAt st v - 1
  rlt : ∀ v, v ∈ rc → v < N
  inr : ∀ v, v < N → (0 ≤ iAt st v ↔ v ∈ rc)
  cnt : neg st N + rc.length = N
  fin : ∀ j v, j < pl → rc[j]? = some v → ∀ e, e ∈ lAt lv v → 0 ≤ iAt st (dst W e) ∨ iAt rm (tw e) ≤ 0
  top : ∀ v, v < N → iAt st v < (rc.length : Int)
theorem neg_set {st : List Int} {N v : Nat} {x : Int} (hl : st.length = N) (hv : v < N) (h : iAt st v < 0) (hx : 0 ≤ x) : neg (st.set v x) N + 1 = neg st N := by
  unfold neg
  have e : sumT (fun u => if iAt st u < 0 then 1 else 0) N = sumT (fun u => (if iAt (st.set v x) u < 0 then 1 else 0) + (if u = v then 1 else 0)) N := sumT_congr fun u _ => by
    rw [iAt_set]
    by_cases c : u = v
    · subst c
      have e1 : (if u = u ∧ u < st.length then x else iAt st u) = x := if_pos ⟨rfl, by omega⟩
      rw [e1, if_pos h, if_neg (by omega), if_pos rfl]
    · have e1 : (if u = v ∧ v < st.length then x else iAt st u) = iAt st u := if_neg fun z => c z.1
      rw [e1, if_neg c]
      rfl
  rw [e, sumT_add, sumT_single, if_pos hv]
theorem rep_at {N v : Nat} (x : Int) (h : v < N) : iAt (List.replicate N x) v = x := by
  unfold iAt
  rw [List.getD_eq_getElem?_getD, List.getElem?_replicate, if_pos h]
  rfl
theorem neg_rep (N : Nat) : neg (List.replicate N (-1)) N = N := by
  have key : ∀ k, k ≤ N → sumT (fun v => if iAt (List.replicate N (-1)) v < 0 then 1 else 0) k = k := by
    intro k
    induction k with
    | zero => exact fun _ => rfl
    | succ k ih =>
      intro h
      show sumT _ k + (if iAt (List.replicate N (-1)) k < 0 then 1 else 0) = k + 1
      rw [ih (by omega), rep_at _ (by omega), if_pos (by decide)]
  exact key N (Nat.le_refl _)
theorem bfs_start (ht : t < N) : Bfs N W lv t rm ((List.replicate N (-1)).set t 0) [t] 0 := by
  have hl : (List.replicate N (-1 : Int)).length = N := List.length_replicate
  have at_ : ∀ v, v < N → iAt ((List.replicate N (-1)).set t 0) v = if v = t then 0 else -1 := fun v hv => by
    rw [iAt_set, hl, rep_at _ hv]
    by_cases c : v = t
    · rw [if_pos ⟨c, ht⟩, if_pos c]
    · rw [if_neg (fun z => c z.1), if_neg c]
  refine ⟨by rw [List.length_set, hl], by rw [at_ t ht, if_pos rfl], fun v hv h => ?_, fun v hv h => ?_, fun v hv => ?_, fun v hv => ?_, ?_, fun j v hj => absurd hj (Nat.not_lt_zero _), fun v hv => ?_⟩
  · rw [at_ v hv] at h
    by_cases c : v = t
    · exact c
    · rw [if_neg c] at h
      exact absurd h (by decide)
  · rw [at_ v hv] at h
    split at h
    · exact absurd h (by decide)
    · exact absurd h (by decide)
  · rw [List.mem_singleton.mp hv]
    exact ht
  · rw [at_ v hv, List.mem_singleton]
    by_cases c : v = t
    · rw [if_pos c]
      exact ⟨fun _ => c, fun _ => Int.le_refl 0⟩
    · rw [if_neg c]
      exact ⟨fun h => absurd h (by decide), fun h => absurd h c⟩
  · have := neg_set (v := t) (x := 0) hl ht (by rw [rep_at _ ht]; decide) (Int.le_refl 0)
    rw [neg_rep] at this
    exact this
  · rw [at_ v hv]
    split
    · exact Int.zero_lt_one
    · show (-1 : Int) < 1
      decide
variable {st : List Int} {rc : List Nat} {pl : Nat}
theorem bfs_add (L : Lv N W lv) (B : Bfs N W lv t rm st rc pl) {node e : Nat} (hn : node ∈ rc) (he : e ∈ lAt lv node) (h1 : iAt st (dst W e) < 0) (h2 : 0 < iAt rm (tw e)) (hpl : pl ≤ rc.length) :
    Bfs N W lv t rm (st.set (dst W e) (iAt st node + 1)) (rc ++ [dst W e]) pl ∧ (∀ v, 0 ≤ iAt st v → 0 ≤ iAt (st.set (dst W e) (iAt st node + 1)) v) ∧ 0 ≤ iAt (st.set (dst W e) (iAt st node + 1)) (dst W e) := by
  have nlt := B.rlt node hn
  obtain ⟨em, es⟩ := (L.mem node nlt e).mp he
  have dl := L.dst_lt em
  have n0 := (B.inr node nlt).mpr hn
  have hl := B.len
  have at_ : ∀ v, iAt (st.set (dst W e) (iAt st node + 1)) v = if v = dst W e then iAt st node + 1 else iAt st v := fun v => by
    rw [iAt_set, hl]
    by_cases c : v = dst W e
    · rw [if_pos ⟨c, dl⟩, if_pos c]
    · rw [if_neg (fun z => c z.1), if_neg c]
  have mono : ∀ v, 0 ≤ iAt st v → 0 ≤ iAt (st.set (dst W e) (iAt st node + 1)) v := fun v hv => by
    rw [at_]
    split <;> omega
  refine ⟨⟨by rw [List.length_set, hl], ?_, fun v hv h => ?_, fun v hv h => ?_, fun v hv => ?_, fun v hv => ?_, ?_, fun j v hj hv x hx => ?_, fun v hv => ?_⟩, mono, by rw [at_, if_pos rfl]; omega⟩
  · rw [at_, if_neg (fun z => by rw [← z, B.t0] at h1; exact absurd h1 (by decide))]
    exact B.t0
  · rw [at_] at h
    by_cases c : v = dst W e
    · rw [if_pos c] at h
      omega
    · rw [if_neg c] at h
      exact B.z v hv h
  · rw [at_] at h
    by_cases c : v = dst W e
    · refine ⟨tw e, tw_lt em, by rw [src_tw, c], h2, ?_⟩
      rw [dst_tw, es, at_, at_, if_pos c, if_neg (fun z => by rw [← z] at h1; omega)]
      omega
    · rw [if_neg c] at h
      obtain ⟨x, x1, x2, x3, x4⟩ := B.step v hv h
      refine ⟨x, x1, x2, x3, ?_⟩
      rw [at_, at_, if_neg c, if_neg (fun z => by rw [← z] at h1; omega)]
      exact x4
  · rcases List.mem_append.mp hv with q | q
    · exact B.rlt v q
    · rw [List.mem_singleton.mp q]
      exact dl
  · rw [at_, List.mem_append, List.mem_singleton]
    by_cases c : v = dst W e
    · rw [if_pos c]
      exact ⟨fun _ => .inr c, fun _ => by omega⟩
    · rw [if_neg c, B.inr v hv]
      exact ⟨fun h => .inl h, fun h => h.resolve_right c⟩
  · have := neg_set (v := dst W e) (x := iAt st node + 1) hl dl h1 (by omega)
    have := B.cnt
    rw [List.length_append]
    simp
    omega
  · rw [List.getElem?_append_left (by omega)] at hv
    rcases B.fin j v hj hv x hx with q | q
    · exact .inl (mono _ q)
    · exact .inr q
  · have a := B.top v hv
    have b := B.top node nlt
    rw [at_, List.length_append]
    show _ < ((rc.length + 1 : Nat) : Int)
    split <;> omega
theorem bfs_next (B : Bfs N W lv t rm st rc pl) {node : Nat} (hn : rc[pl]? = some node) (h : ∀ e, e ∈ lAt lv node → 0 ≤ iAt st (dst W e) ∨ iAt rm (tw e) ≤ 0) : Bfs N W lv t rm st rc (pl + 1) := by
  refine ⟨B.len, B.t0, B.z, B.step, B.rlt, B.inr, B.cnt, fun j v hj hv => ?_, B.top⟩
  by_cases c : j = pl
  · subst c
    rw [hn] at hv
    cases hv
    exact h
  · exact B.fin j v (by omega) hv
theorem bfs_le (B : Bfs N W lv t rm st rc pl) : rc.length ≤ N := by
  have := B.cnt
  omega
theorem bfs_done (L : Lv N W lv) (B : Bfs N W lv t rm st rc rc.length) : Steps N W t rm st := by
  have hle := bfs_le B
  refine ⟨B.len, B.t0, B.z, B.step, fun e he h1 h2 => ?_, fun v hv => by have := B.top v hv; omega⟩
  have hm := (B.inr _ (L.dst_lt he)).mp h2
  obtain ⟨j, hj, ej⟩ := List.getElem_of_mem hm
  have q := B.fin j (dst W e) hj (by rw [List.getElem?_eq_getElem hj, ej]) (tw e) ((L.mem _ (L.dst_lt he) _).mpr ⟨tw_lt he, src_tw W e⟩)
  rw [dst_tw, tw_tw] at q
  rcases q with q | q
  · exact q
  · omega
end
/-! ### paths -/
section
variable {N : Nat} {W : List Way} {lv : List (List Nat)} {s t : Nat} {st rm : List Int}
inductive Chain (W : List Way) (st rm : List Int) (s : Nat) : List Nat → Nat → Prop
  | nil : Chain W st rm s [] s
  | snoc {p v} (e : Nat) : Chain W st rm s p v → src W e = v → e < 2 * W.length → 0 < iAt rm e → iAt st (dst W e) = iAt st v - 1 → Chain W st rm s (p ++ [e]) (dst W e)
theorem chain_inv {p : List Nat} {e v : Nat} (h : Chain W st rm s (p ++ [e]) v) : v = dst W e ∧ Chain W st rm s p (src W e) ∧ e < 2 * W.length ∧ 0 < iAt rm e ∧ iAt st (dst W e) = iAt st (src W e) - 1 := by
  generalize hp : p ++ [e] = q at h
  cases h with
  | nil => simp at hp
  | snoc x h1 h2 h3 h4 h5 =>
    obtain ⟨rfl, rfl⟩ := snoc_inj hp
    subst h2
    exact ⟨rfl, h1, h3, h4, h5⟩
theorem chain_nil {v : Nat} (h : Chain W st rm s [] v) : v = s := by
  generalize hp : ([] : List Nat) = q at h
  cases h with
  | nil => rfl
  | snoc => simp at hp
theorem chain_len {p : List Nat} {v : Nat} (h : Chain W st rm s p v) : iAt st v = iAt st s - (p.length : Int) := by
  induction h with
  | nil => simp
  | snoc e h1 h2 h3 h4 h5 ih =>
    rw [h5, ih, List.length_append]
    simp
    omega
theorem chain_gt {p : List Nat} {v : Nat} (h : Chain W st rm s p v) : ∀ e, e ∈ p → iAt st v < iAt st (src W e) := by
  induction h with
  | nil =>
    intro e he
    cases he
  | snoc x h1 h2 h3 h4 h5 ih =>
    intro e he
    rcases List.mem_append.mp he with q | q
    · have := ih e q
      omega
    · rw [List.mem_singleton.mp q, h2]
      omega
theorem chain_all {p : List Nat} {v : Nat} (h : Chain W st rm s p v) : ∀ e, e ∈ p → e < 2 * W.length ∧ 0 < iAt rm e := by
  induction h with
  | nil =>
    intro e he
    cases he
  | snoc x h1 h2 h3 h4 h5 ih =>
    intro e he
    rcases List.mem_append.mp he with q | q
    · exact ih e q
    · rw [List.mem_singleton.mp q]
      exact ⟨h3, h4⟩
theorem chain_rm {rm' : List Int} {p : List Nat} {v : Nat} (h : Chain W st rm s p v) : (∀ e, e ∈ p → 0 < iAt rm' e) → Chain W st rm' s p v := by
  induction h with
  | nil => exact fun _ => .nil
  | snoc x h1 h2 h3 h4 h5 ih =>
    intro hp
    exact .snoc x (ih fun e he => hp e (List.mem_append.mpr (.inl he))) h2 h3 (hp x (List.mem_append.mpr (.inr (List.mem_singleton.mpr rfl)))) h5
theorem chain_pre {p : List Nat} : ∀ (q : List Nat) {v : Nat}, Chain W st rm s (p ++ q) v → ∃ u, Chain W st rm s p u ∧ iAt st v ≤ iAt st u :=
  snoc_ind (fun {v} h => ⟨v, by rw [List.append_nil] at h; exact h, Int.le_refl _⟩) fun q e ih v h => by
    rw [← List.append_assoc] at h
    obtain ⟨rfl, h1, _, _, h5⟩ := chain_inv h
    obtain ⟨u, hu, hle⟩ := ih h1
    exact ⟨u, hu, by omega⟩
theorem chain_lt (L : Lv N W lv) (hs : s < N) {p : List Nat} {v : Nat} (h : Chain W st rm s p v) : v < N := by
  cases h with
  | nil => exact hs
  | snoc e h1 h2 h3 h4 h5 => exact L.dst_lt h3
/-- one way's room less, its twin's more -/
def pushL (d : Int) (rm : List Int) (e : Nat) : List Int := (rm.set e (iAt rm e - d)).set (tw e) (iAt (rm.set e (iAt rm e - d)) (tw e) + d)
theorem pushL_len (d : Int) (rm : List Int) (e : Nat) : (pushL d rm e).length = rm.length := by
  unfold pushL
  rw [List.length_set, List.length_set]
theorem pushL_at {d : Int} {rm : List Int} {e k : Nat} (hl : rm.length = 2 * k) (he : e < 2 * k) : iAt (pushL d rm e) = push tw e d (iAt rm) := by
  funext x
  have ht := tw_lt he
  have ne := tw_ne e
  unfold pushL push
  rw [iAt_set, iAt_set, iAt_set, List.length_set, hl]
  by_cases c1 : x = tw e
  · rw [if_pos ⟨c1, ht⟩, if_pos c1, if_neg (fun z => ne z.1)]
  · rw [if_neg (fun z => c1 z.1), if_neg c1]
    by_cases c2 : x = e
    · rw [if_pos ⟨c2, he⟩, if_pos c2]
    · rw [if_neg (fun z => c2 z.1), if_neg c2]
def pushAll (d : Int) (rm : List Int) (p : List Nat) : List Int := p.foldl (pushL d) rm
theorem pushAll_snoc (d : Int) (rm : List Int) (p : List Nat) (e : Nat) : pushAll d rm (p ++ [e]) = pushL d (pushAll d rm p) e := by
  unfold pushAll
  rw [List.foldl_append]
  rfl
/-- what a path's sending changes -/
theorem push_chain (hl : rm.length = 2 * W.length) (E : Even (2 * W.length) tw (capW W) (iAt rm)) {d : Int} (hd : 0 ≤ d) {p : List Nat} {v : Nat} (h : Chain W st rm s p v) : (∀ e, e ∈ p → d ≤ iAt rm e) →
    (pushAll d rm p).length = 2 * W.length ∧ Even (2 * W.length) tw (capW W) (iAt (pushAll d rm p)) ∧ (∀ x, x ∉ p → iAt rm x ≤ iAt (pushAll d rm p) x) ∧
    ∀ x, out (2 * W.length) (src W) (iAt (pushAll d rm p)) x = out (2 * W.length) (src W) (iAt rm) x - (if x = s then d else 0) + (if x = v then d else 0) := by
  induction h with
  | nil =>
    intro _
    refine ⟨hl, E, fun x _ => Int.le_refl _, fun x => ?_⟩
    show out _ _ (iAt rm) x = _
    split <;> omega
  | @snoc p u e h1 h2 h3 h4 h5 ih =>
    intro hp
    obtain ⟨i1, i2, i3, i4⟩ := ih fun x hx => hp x (List.mem_append.mpr (.inl hx))
    have hne : e ∉ p := fun z => by
      have := chain_gt h1 e z
      rw [h2] at this
      omega
    have q := hp e (List.mem_append.mpr (.inr (List.mem_singleton.mpr rfl)))
    have q2 := i3 e hne
    have at_ := pushL_at (d := d) i1 h3
    refine ⟨by rw [pushAll_snoc, pushL_len, i1], ?_, fun x hx => ?_, fun x => ?_⟩
    · rw [pushAll_snoc, at_]
      exact push_even (net W) i2 h3 (tw_ne e) hd (by omega)
    · rw [pushAll_snoc, at_]
      have hx1 : x ∉ p := fun z => hx (List.mem_append.mpr (.inl z))
      have hx2 : x ≠ e := fun z => hx (List.mem_append.mpr (.inr (List.mem_singleton.mpr z)))
      have := i3 x hx1
      unfold push
      split
      · rename_i c
        rw [← c]
        omega
      · first
        | exact this
        | (rw [if_neg hx2]; exact this)
    · rw [pushAll_snoc, at_, out_push (net W) h3 (tw_ne e), i4 x, h2]
      have f : ∀ a b : Nat, (if a = b then d else 0) = if b = a then d else 0 := fun a b => by
        by_cases c : a = b
        · rw [if_pos c, if_pos c.symm]
        · rw [if_neg c, if_neg (Ne.symm c)]
      rw [f u x, f (dst W e) x]
      omega
/-! ### sending along the shortest paths -/
structure Dfs (N : Nat) (W : List Way) (lv : List (List Nat)) (st : List Int) (s t : Nat) (o0 : Nat → Int) (rm : List Int) (tr : List Nat) (sent : Int) (path : List Nat) (node : Nat) : Prop where
  rlen : rm.length = 2 * W.length
  even : Even (2 * W.length) tw (capW W) (iAt rm)
  outs : ∀ v, out (2 * W.length) (src W) (iAt rm) v = o0 v - (if v = s then sent else 0) + (if v = t then sent else 0)
  tlen : tr.length = N
  tle : ∀ v, v < N → nAt tr v ≤ (lAt lv v).length
  chain : Chain W st rm s path node
  ptr : ∀ e, e ∈ path → nAt tr (src W e) < (lAt lv (src W e)).length
  nn : 0 ≤ iAt st node
  pos : 0 ≤ sent
  adm : sent = 0 → ∀ v, v < N → 0 < iAt st v → ∃ j e, nAt tr v ≤ j ∧ (lAt lv v)[j]? = some e ∧ 0 < iAt rm e ∧ iAt st (dst W e) = iAt st v - 1
def left (N : Nat) (lv : List (List Nat)) (tr : List Nat) : Nat := sumT (fun v => (lAt lv v).length - nAt tr v) N
def mu (N : Nat) (W : List Way) (lv : List (List Nat)) (st : List Int) (s : Nat) (rm : List Int) (tr path : List Nat) : Nat :=
  (out (2 * W.length) (src W) (iAt rm) s).toNat * ((sumT (fun v => (lAt lv v).length) N + 1) * ((iAt st s).toNat + 1)) + left N lv tr * ((iAt st s).toNat + 1) + ((iAt st s).toNat - path.length)
variable {o0 : Nat → Int} {tr : List Nat} {sent : Int} {path : List Nat} {node : Nat}
theorem dfs_start (L : Lv N W lv) (hl : rm.length = 2 * W.length) (E : Even (2 * W.length) tw (capW W) (iAt rm)) (S : Steps N W t rm st) (h0 : 0 ≤ iAt st s) :
    Dfs N W lv st s t (out (2 * W.length) (src W) (iAt rm)) rm (List.replicate N 0) 0 [] s := by
  have at_ : ∀ v, nAt (List.replicate N 0) v = 0 := fun v => none_at N v
  refine ⟨hl, E, fun v => ?_, List.length_replicate, fun v hv => by rw [at_]; exact Nat.zero_le _, .nil, fun e he => (by cases he), h0, Int.le_refl 0, fun _ v hv h => ?_⟩
  · split <;> split <;> omega
  · obtain ⟨e, e1, e2, e3, e4⟩ := S.step v hv h
    obtain ⟨j, hj, ej⟩ := List.getElem_of_mem ((L.mem v hv e).mpr ⟨e1, e2⟩)
    exact ⟨j, e, by rw [at_]; exact Nat.zero_le _, by rw [List.getElem?_eq_getElem hj, ej], e3, e4⟩
theorem dfs_len (D : Dfs N W lv st s t o0 rm tr sent path node) : (path.length : Int) ≤ iAt st s := by
  have := chain_len D.chain
  have := D.nn
  omega
theorem out_pos (E : Even (2 * W.length) tw (capW W) (iAt rm)) (v : Nat) : 0 ≤ out (2 * W.length) (src W) (iAt rm) v := by
  unfold out
  refine sI_nonneg fun e he => ?_
  have := E.pos e he
  split <;> omega
/-- the node's next way is of no use -/
theorem left_inc (D : Dfs N W lv st s t o0 rm tr sent path node) {v : Nat} (hv : v < N) (h : nAt tr v < (lAt lv v).length) : left N lv (tr.set v (nAt tr v + 1)) + 1 = left N lv tr := by
  unfold left
  have hl := D.tlen
  have e : sumT (fun u => (lAt lv u).length - nAt tr u) N = sumT (fun u => ((lAt lv u).length - nAt (tr.set v (nAt tr v + 1)) u) + (if u = v then 1 else 0)) N := sumT_congr fun u _ => by
    rw [nAt_set, hl]
    by_cases c : u = v
    · subst c
      rw [if_pos ⟨rfl, hv⟩, if_pos rfl]
      omega
    · rw [if_neg (fun z => c z.1), if_neg c]
      rfl
  rw [e, sumT_add, sumT_single, if_pos hv]
theorem mu_tr {tr' path' : List Nat} (h : left N lv tr' + 1 = left N lv tr) : mu N W lv st s rm tr' path' < mu N W lv st s rm tr path := by
  unfold mu
  rw [← h, Nat.add_mul (left N lv tr') 1, Nat.one_mul]
  omega
theorem dfs_skip (L : Lv N W lv) (D : Dfs N W lv st s t o0 rm tr sent path node) (hs : s < N) {e : Nat} (he : (lAt lv node)[nAt tr node]? = some e) (hno : ¬ (0 < iAt rm e ∧ iAt st (dst W e) = iAt st node - 1)) :
    Dfs N W lv st s t o0 rm (tr.set node (nAt tr node + 1)) sent path node ∧ mu N W lv st s rm (tr.set node (nAt tr node + 1)) path < mu N W lv st s rm tr path := by
  have nl := chain_lt L hs D.chain
  have hl := D.tlen
  have lt : nAt tr node < (lAt lv node).length := by
    obtain ⟨q, _⟩ := List.getElem?_eq_some_iff.mp he
    exact q
  have at_ : ∀ v, nAt (tr.set node (nAt tr node + 1)) v = if v = node then nAt tr node + 1 else nAt tr v := fun v => by
    rw [nAt_set, hl]
    by_cases c : v = node
    · rw [if_pos ⟨c, nl⟩, if_pos c]
    · rw [if_neg (fun z => c z.1), if_neg c]
  refine ⟨⟨D.rlen, D.even, D.outs, by rw [List.length_set, hl], fun v hv => ?_, D.chain, fun x hx => ?_, D.nn, D.pos, fun h0 v hv h => ?_⟩, mu_tr (left_inc D nl lt)⟩
  · have := D.tle v hv
    rw [at_]
    by_cases c : v = node
    · rw [if_pos c, c]
      omega
    · rw [if_neg c]
      exact this
  · have := chain_gt D.chain x hx
    rw [at_, if_neg (fun z => by rw [z] at this; omega)]
    exact D.ptr x hx
  · obtain ⟨j, x, x1, x2, x3, x4⟩ := D.adm h0 v hv h
    refine ⟨j, x, ?_, x2, x3, x4⟩
    rw [at_]
    by_cases c : v = node
    · rw [if_pos c]
      subst c
      by_cases q : j = nAt tr v
      · subst q
        rw [he] at x2
        cases x2
        exact absurd ⟨x3, x4⟩ hno
      · omega
    · rw [if_neg c]
      exact x1
theorem dfs_on (L : Lv N W lv) (D : Dfs N W lv st s t o0 rm tr sent path node) (hs : s < N) (S0 : ∀ v, v < N → iAt st v = 0 → v = t) (hnt : node ≠ t) {e : Nat} (he : (lAt lv node)[nAt tr node]? = some e) (h1 : 0 < iAt rm e) (h2 : iAt st (dst W e) = iAt st node - 1) :
    Dfs N W lv st s t o0 rm tr sent (path ++ [e]) (dst W e) ∧ mu N W lv st s rm tr (path ++ [e]) < mu N W lv st s rm tr path := by
  have nl := chain_lt L hs D.chain
  obtain ⟨lt, ee⟩ := List.getElem?_eq_some_iff.mp he
  obtain ⟨em, es⟩ := (L.mem node nl e).mp (by rw [← ee]; exact List.getElem_mem lt)
  have n1 : 1 ≤ iAt st node := by
    have := D.nn
    have : iAt st node ≠ 0 := fun z => hnt (S0 node nl z)
    omega
  refine ⟨⟨D.rlen, D.even, D.outs, D.tlen, D.tle, .snoc e D.chain es em h1 h2, fun x hx => ?_, by omega, D.pos, D.adm⟩, ?_⟩
  · rcases List.mem_append.mp hx with q | q
    · exact D.ptr x q
    · rw [List.mem_singleton.mp q, es]
      exact lt
  · have a1 := chain_len D.chain
    unfold mu
    rw [List.length_append]
    simp
    omega
theorem dfs_back (L : Lv N W lv) (D : Dfs N W lv st s t o0 rm tr sent path node) (hs : s < N) (S0 : ∀ v, v < N → iAt st v = 0 → v = t) (hnt : node ≠ t) (hful : nAt tr node = (lAt lv node).length) (hsr : nAt tr s < (lAt lv s).length) :
    ∃ p e, path = p ++ [e] ∧ e < 2 * W.length ∧ src W e < N ∧ Dfs N W lv st s t o0 rm (tr.set (src W e) (nAt tr (src W e) + 1)) sent p (src W e) ∧ mu N W lv st s rm (tr.set (src W e) (nAt tr (src W e) + 1)) p < mu N W lv st s rm tr path := by
  have nl := chain_lt L hs D.chain
  have hl := D.tlen
  rcases List.eq_nil_or_concat path with rfl | ⟨p, e, rfl⟩
  · have := chain_nil D.chain
    subst this
    omega
  · rw [List.concat_eq_append] at D ⊢
    obtain ⟨rfl, c1, c2, c3, c4⟩ := chain_inv D.chain
    have sl := L.src_lt c2
    have lt := D.ptr e (List.mem_append.mpr (.inr (List.mem_singleton.mpr rfl)))
    have at_ : ∀ v, nAt (tr.set (src W e) (nAt tr (src W e) + 1)) v = if v = src W e then nAt tr (src W e) + 1 else nAt tr v := fun v => by
      rw [nAt_set, hl]
      by_cases c : v = src W e
      · rw [if_pos ⟨c, sl⟩, if_pos c]
      · rw [if_neg (fun z => c z.1), if_neg c]
    have n0 := D.nn
    have n1 : 1 ≤ iAt st (dst W e) := by
      have : iAt st (dst W e) ≠ 0 := fun z => hnt (S0 _ nl z)
      omega
    have s0 : sent ≠ 0 := fun z => by
      obtain ⟨j, x, x1, x2, _⟩ := D.adm z _ nl (by omega)
      obtain ⟨q, _⟩ := List.getElem?_eq_some_iff.mp x2
      omega
    refine ⟨p, e, rfl, c2, sl, ⟨D.rlen, D.even, D.outs, by rw [List.length_set, hl], fun v hv => ?_, c1, fun x hx => ?_, by omega, D.pos, fun z => absurd z s0⟩, mu_tr (left_inc D sl lt)⟩
    · have := D.tle v hv
      rw [at_]
      by_cases c : v = src W e
      · rw [if_pos c, c]
        omega
      · rw [if_neg c]
        exact this
    · have := chain_gt c1 x hx
      rw [at_, if_neg (fun z => by rw [z] at this; omega)]
      exact D.ptr x (List.mem_append.mpr (.inl hx))
theorem left_le (N : Nat) (lv : List (List Nat)) (tr : List Nat) : left N lv tr ≤ sumT (fun v => (lAt lv v).length) N := sumT_le fun v _ => Nat.sub_le _ _
theorem mu_send {rm' : List Int} {path' : List Nat} (h : (out (2 * W.length) (src W) (iAt rm') s).toNat + 1 ≤ (out (2 * W.length) (src W) (iAt rm) s).toNat) : mu N W lv st s rm' tr path' < mu N W lv st s rm tr path := by
  unfold mu
  have a := left_le N lv tr
  generalize (out (2 * W.length) (src W) (iAt rm') s).toNat = o' at *
  generalize (out (2 * W.length) (src W) (iAt rm) s).toNat = o at *
  generalize left N lv tr = A at *
  generalize sumT (fun v => (lAt lv v).length) N = T at *
  generalize (iAt st s).toNat = S at *
  have m1 : (o' + 1) * ((T + 1) * (S + 1)) ≤ o * ((T + 1) * (S + 1)) := Nat.mul_le_mul_right _ h
  have m2 : A * (S + 1) ≤ T * (S + 1) := Nat.mul_le_mul_right _ a
  have m3 : (o' + 1) * ((T + 1) * (S + 1)) = o' * ((T + 1) * (S + 1)) + (T * (S + 1) + (S + 1)) := by
    rw [Nat.add_mul o' 1, Nat.one_mul, Nat.add_mul T 1 (S + 1), Nat.one_mul]
  omega
theorem dfs_send (D : Dfs N W lv st s t o0 rm tr sent path node) (hst : s ≠ t) (hn : node = t) {d : Int} (hd : 1 ≤ d) (hle : ∀ e, e ∈ path → d ≤ iAt rm e) {q rest : List Nat} (hq : path = q ++ rest) (hpos : ∀ e, e ∈ q → iAt (pushAll d rm path) e ≠ 0) :
    ∃ u, Dfs N W lv st s t o0 (pushAll d rm path) tr (sent + d) q u ∧ mu N W lv st s (pushAll d rm path) tr q < mu N W lv st s rm tr path := by
  subst hn
  obtain ⟨i1, i2, i3, i4⟩ := push_chain D.rlen D.even (by omega) D.chain hle
  have ch := D.chain
  rw [hq] at ch
  obtain ⟨u, hu, hge⟩ := chain_pre rest ch
  have n0 := D.nn
  have s0 := D.pos
  have hsub : ∀ e, e ∈ q → e ∈ path := fun e he => by
    rw [hq]
    exact List.mem_append.mpr (.inl he)
  refine ⟨u, ⟨i1, i2, fun v => ?_, D.tlen, D.tle, chain_rm hu fun e he => ?_, fun e he => D.ptr e (hsub e he), by omega, by omega, fun z => by omega⟩, mu_send ?_⟩
  · rw [i4 v, D.outs v]
    by_cases c1 : v = s
    · by_cases c2 : v = node
      · omega
      · rw [if_pos c1, if_neg c2, if_pos c1, if_neg c2, if_pos c1, if_neg c2]
        omega
    · by_cases c2 : v = node
      · rw [if_neg c1, if_pos c2, if_neg c1, if_pos c2, if_neg c1, if_pos c2]
        omega
      · rw [if_neg c1, if_neg c2, if_neg c1, if_neg c2, if_neg c1, if_neg c2]
        omega
  · have a := i2.pos e (chain_all D.chain e (hsub e he)).1
    have b := hpos e he
    omega
  · have a := i4 s
    rw [if_pos rfl, if_neg hst] at a
    have b := out_pos i2 s
    omega
theorem dfs_end (D : Dfs N W lv st s t o0 rm tr sent path node) (hs : s < N) (S0 : ∀ v, v < N → iAt st v = 0 → v = t) (hst : s ≠ t) (h0 : 0 ≤ iAt st s) (h : ¬ nAt tr s < (lAt lv s).length) : 1 ≤ sent := by
  have p := D.pos
  have : sent ≠ 0 := fun z => by
    have : iAt st s ≠ 0 := fun z => hst (S0 s hs z)
    obtain ⟨j, x, x1, x2, _⟩ := D.adm z s hs (by omega)
    obtain ⟨q, _⟩ := List.getElem?_eq_some_iff.mp x2
    omega
  omega
theorem max_end (hl : rm.length = 2 * W.length) (E : Even (2 * W.length) tw (capW W) (iAt rm)) (S : Steps N W t rm st) {F : Int}
    (o : ∀ v, out (2 * W.length) (src W) (iAt rm) v = out (2 * W.length) (src W) (capW W) v - (if v = s then F else 0) + (if v = t then F else 0)) (h : ¬ 0 ≤ iAt st s) : Max W s t (iAt rm) F (fun v => decide (0 ≤ iAt st v)) := by
  refine ⟨E, o, decide_eq_false h, ?_, fun e he h1 h2 => ?_⟩
  · rw [S.t0]
    rfl
  · rw [decide_eq_true_eq] at h2 ⊢
    exact S.cl e he h1 h2
end
end MD

set_option Elab.async false
set_option linter.all false
set_option maxRecDepth 100000
set_option maxHeartbeats 2000000
namespace L2
open PySem PySem.Spec PyProof.Rows
section
variable {X : Cx}
theorem get_list : PGet X (rIxL X.K) := by
  intro pins s σ H x y v u Q I rx ry h
  obtain ⟨p, xs, i, z, rfl, rfl, hq, he, q⟩ := h
  cases rx
  obtain ⟨t, rfl⟩ := ry
  obtain ⟨its, r, pl, hz⟩ := I.list hq
  obtain ⟨j, h1, h2, h3, h4, h5⟩ := atI_get he
  obtain ⟨w, ew, rw'⟩ := r.get h2
  have hl := r.length
  have hn := line63
  have fin : EP X pins σ Q w s := ⟨z, H, I, rw', q⟩
  by_cases h0 : 0 ≤ i
  · have hj : i.toNat = j := by
      rw [seqIndex_of h0 h5] at h1
      exact Option.some.inj h1
    exact wpAny_getItem_list pl.isList h0 (by omega) (by rw [hj]; simpa using ew) fin
  · have hj : (i + (its.toArray.size : Int)).toNat = j := by
      rw [seqIndex_neg (by omega) h4] at h1
      rw [List.size_toArray, ← hl]
      exact Option.some.inj h1
    exact wpAny_getItem_list_neg pl.isList (by omega) (by rw [List.size_toArray] <;> omega) (by omega) (by rw [hj]; simpa using ew) fin
/-- list(range(n)) -/
def tLR (ta : TA) : TE := fun σ H Q => ta σ H fun vs H1 => ∃ n : Nat, vs = [.int (n : Int)] ∧ n ≤ 1000000 ∧ ∀ l, H1 l = none → Q (.ref l) (upd H1 l (.lst ((List.range n).map fun (k : Nat) => V.int (k : Int))))
theorem pe_listRange {a : Expr} {ta : TA} {p p2 pos pos2 : Pos} (hc : X.calm = true) (hg : Gl X "range") (hm : X.mg "range" = none) (hgl : Gl X "list") (hml : X.mg "list" = none) (ha : PA X [a] ta) (hs : starEach [a] X.env = [(false, eval a X.env)] := by rfl)
    (hs2 : starEach [Expr.Call (.Name "range" p2) [a] [] pos2] X.env = (false, eval (Expr.Call (.Name "range" p2) [a] [] pos2) X.env) :: starEach [] X.env := by rfl) :
    PE X (.Call (.Name "list" p) [.Call (.Name "range" p2) [a] [] pos2] [] pos) (tLR ta) := by
  intro pins s σ H Q I h
  refine wpAny_Call_Name_kw (ld_blt I hgl hml boot_list ?_ (by decide) (by decide))
  refine PyProof.Rows.callWith_type1 ?_ hs2 rfl
  rw [hs2]
  show wpAny _ _ (spliced ((false, eval _ X.env) :: backTo pos (starEach [] X.env))) _ _ s
  refine Calls.spliced_cons ?_
  refine Call_ (ld_blt I hg hm boot_range (PyProof.Rows.callWith_type1 (thn (ha pos2 pins s σ H _ I h) fun us s1 ⟨vs, H1, I1, r1, q1⟩ => ?_) hs rfl))
  obtain ⟨n, e, hn, q⟩ := q1
  subst e
  cases r1 with
  | cons r rr =>
    cases rr
    obtain ⟨t, rfl⟩ := r
    refine call_range_1 ?_
    refine Calls.spliced_nil ?_
    have I2 : Inv X pins σ H1 { s1 with heap := s1.heap.push { cls := .type "range", data := .fields #[.int 0 s1.toks, .int (n : Int) t, .int 1 (s1.toks + 1)] }, toks := s1.toks + 1 + 1 } := I1.kept fun b o e => Heap.get?_push_of_some _ e
    refine call_list_range (n := n) (I1.ok.hd hc) (IsRange.new ..) (small_one (by decide) (by decide) (by omega) (by omega)) (by rw [rangeSize_one]; split <;> omega) (by omega) fun h' tk acc' c' hk hS' hacc => ?_
    have hlen : acc'.toList.length = n := by rw [Array.length_toList]; exact hacc.1
    have rv : Vals ((List.range n).map fun (k : Nat) => V.int (k : Int)) acc'.toList := by
      have key : ∀ (l : List Value) (m : Nat), (∀ i v, l[i]? = some v → ∃ t, v = Value.int ((m + i : Nat) : Int) t) → Vals ((List.range' m l.length).map fun (k : Nat) => V.int (k : Int)) l := by
        intro l
        induction l with
        | nil => exact fun _ _ => .nil
        | cons x l ih =>
          intro m hm
          refine .cons ?_ (ih (m + 1) fun i v hv => ?_)
          · obtain ⟨t, e⟩ := hm 0 x rfl
            exact ⟨t, e⟩
          · obtain ⟨t, e⟩ := hm (i + 1) v hv
            exact ⟨t, by rw [e, show m + (i + 1) = m + 1 + i by omega]⟩
      have := key acc'.toList 0 fun i v hv => by
        obtain ⟨t, e⟩ := hacc.2 i v (by simpa using hv)
        exact ⟨t, by rw [e]; simp⟩
      rw [hlen, ← List.range_eq_range'] at this
      exact this
    have hz : ((List.range n).map fun (k : Nat) => V.int (k : Int)).length ≤ sizeLine := by
      rw [List.length_map, List.length_range]
      exact Nat.le_trans hn (by decide)
    refine ⟨.ref _, upd H1 _ (.lst _), I2.laid (t' := tk) hk (Nat.le_refl _) (show ObjOk X.prog X.w _ h' _ (.lst _) from ⟨hz, acc'.toList, c', rv, by simpa using hS'⟩), rfl, q _ (I2.hok.fresh (Nat.le_refl _))⟩
end
end L2
namespace Mg
open PySem PySem.Spec PyProof.Rows L2
open PySem.W (Codec)
open Ks175 (Went Abs)
open MG MD MN
def top (i : Nat) : Stmt := PySem.Challenge.pw_markedgrains_s01_answers.main.body.getD i (.Pass ⟨0, 0, 0, 0⟩)
def nats (l : List Nat) : List V := l.map fun (n : Nat) => V.int (n : Int)
theorem nats_length (l : List Nat) : (nats l).length = l.length := List.length_map _
theorem nats_get {cs : List Nat} {t : Nat} (h : t < cs.length) : (nats cs)[t]? = some (V.int ((cs.getD t 0 : Nat) : Int)) := by
  unfold nats
  rw [List.getElem?_map, List.getD_eq_getElem?_getD, List.getElem?_eq_getElem h]
  rfl
theorem nats_at {cs : List Nat} {t x : Nat} (h : cs[t]? = some x) : (nats cs)[t]? = some (V.int (x : Int)) := by
  unfold nats
  rw [List.getElem?_map, h]
  rfl
theorem nats_of {cs : List Nat} {t : Nat} {x : V} (h : (nats cs)[t]? = some x) : ∃ n : Nat, cs[t]? = some n ∧ x = V.int (n : Int) := by
  unfold nats at h
  rw [List.getElem?_map] at h
  cases e : cs[t]? with
  | none =>
    rw [e] at h
    cases h
  | some n =>
    rw [e] at h
    cases h
    exact ⟨n, rfl, rfl⟩
theorem nats_set (cs : List Nat) (t v : Nat) : (nats cs).set t (V.int (v : Int)) = nats (cs.set t v) := by
  unfold nats
  rw [List.map_set]
theorem nats_snoc (cs : List Nat) (v : Nat) : nats cs ++ [V.int (v : Int)] = nats (cs ++ [v]) := by
  unfold nats
  rw [List.map_append]
  rfl
abbrev vints (l : List Int) : List V := l.map V.int
theorem vints_length (l : List Int) : (vints l).length = l.length := List.length_map _
theorem vints_get {cs : List Int} {t : Nat} (h : t < cs.length) : (vints cs)[t]? = some (V.int (iAt cs t)) := by
  unfold vints iAt
  rw [List.getElem?_map, List.getD_eq_getElem?_getD, List.getElem?_eq_getElem h]
  rfl
theorem vints_set (cs : List Int) (t : Nat) (v : Int) : (vints cs).set t (V.int v) = vints (cs.set t v) := by
  unfold vints
  rw [List.map_set]
theorem vints_snoc (cs : List Int) (v : Int) : vints cs ++ [V.int v] = vints (cs ++ [v]) := by
  unfold vints
  rw [List.map_append]
  rfl
theorem nats_ints (l : List Nat) : nats l = vints (l.map fun (n : Nat) => (n : Int)) := by
  unfold nats vints
  rw [List.map_map]
  rfl
theorem ixN_nat {n t : Nat} (h : t < n) : ixN n (t : Int) = some t := by
  unfold ixN
  rw [if_pos (by omega), if_pos (by omega)]
  rfl
theorem v_int_eq (a b : Int) : decide (V.int a = V.int b) = decide (a = b) := decide_eq_decide.mpr ⟨fun h => V.int.inj h, fun h => by rw [h]⟩
theorem iteP {c A B : Prop} [Decidable c] (hc : c) (h : A) : if c then A else B := by
  rw [if_pos hc]
  exact h
theorem iteN {c A B : Prop} [Decidable c] (hc : ¬ c) (h : B) : if c then A else B := by
  rw [if_neg hc]
  exact h
theorem xor_one (e : Nat) : Builtin.bitXor (e : Int) 1 = ((tw e : Nat) : Int) := by
  rw [PyProof.Rows.bitXor_and, PyProof.Rows.bitAnd_m1]
  rcases Nat.mod_two_eq_zero_or_one e with c | c
  · rw [tw_even c]
    omega
  · rw [tw_odd c]
    omega
theorem Same.new {H H' : Hp} {a : Addr} {o : HO} (s : Same H H') (h : H' a = none) : Same H (upd H' a o) := fun b u e => by
  rw [upd_ne (ne_of_none (s b u e) h)]
  exact s b u e
theorem Same.put {H H' : Hp} {a : Addr} {o : HO} (s : Same H H') (h : H a = none) : Same H (upd H' a o) := fun b u e => by
  rw [upd_ne (ne_of_none e h)]
  exact s b u e
end Mg

set_option Elab.async false
set_option linter.all false
set_option maxRecDepth 100000
set_option maxHeartbeats 2000000
namespace Mg
open PySem PySem.Spec PyProof.Rows L2
open PySem.W (Codec)
open Ks175 (Went Abs)
open MG MD MN
abbrev nInit : Stmt := inClass (top 13) 0
abbrev nWay : Stmt := inClass (top 13) 1
abbrev nHalf : Stmt := inClass (top 13) 2
abbrev nAll : Stmt := inClass (top 13) 3
abbrev nSteps : Stmt := inClass (top 13) 4
abbrev nShort : Stmt := inClass (top 13) 5
abbrev nAlong : Stmt := inClass (top 13) 6
abbrev nRoom : Stmt := inClass (top 13) 7
def nf (l g r : Addr) : List (Str × V) := putF "rooms" (.ref r) (putF "goals" (.ref g) (putF "leaving" (.ref l) []))
theorem s1 : ¬ ("leaving" : Str) = "goals" := by decide +kernel
theorem s2 : ¬ ("leaving" : Str) = "rooms" := by decide +kernel
theorem s3 : ¬ ("goals" : Str) = "rooms" := by decide +kernel
theorem nf_l (l g r : Addr) : (nf l g r).lookup ("leaving" : Str) = some (.ref l) := by
  unfold nf
  rw [lookup_putF, if_neg s2, lookup_putF, if_neg s1, lookup_putF, if_pos rfl]
theorem nf_g (l g r : Addr) : (nf l g r).lookup ("goals" : Str) = some (.ref g) := by
  unfold nf
  rw [lookup_putF, if_neg s3, lookup_putF, if_pos rfl]
theorem nf_r (l g r : Addr) : (nf l g r).lookup ("rooms" : Str) = some (.ref r) := by
  unfold nf
  rw [lookup_putF, if_pos rfl]
theorem nf_no (l g r : Addr) {m : Str} (h1 : ¬ m = "leaving") (h2 : ¬ m = "goals") (h3 : ¬ m = "rooms") : (nf l g r).lookup m = none := by
  unfold nf
  rw [lookup_putF, if_neg h3, lookup_putF, if_neg h2, lookup_putF, if_neg h1]
  all_goals rfl
structure TxN (K : PySem.W.Frag) (mg : Str → Option Value) (C : Addr) : Prop where
  cl : Cls K C
  nL : NoAttr K C "leaving"
  nG : NoAttr K C "goals"
  nR : NoAttr K C "rooms"
  len : mg "len" = none
  range : mg "range" = none
  min : mg "min" = none
/-- the Net at p -/
structure NtAt (C : Addr) (H : Hp) (p lA gA rA : Addr) (N : Nat) (W : List Way) (la : List Addr) (lv : List (List Nat)) (rm : List Int) : Prop where
  ins : ∃ dx, H p = some (.ins C dx (nf lA gA rA))
  lea : H lA = some (.lst (la.map V.ref))
  goa : H gA = some (.lst (nats (gl W)))
  roo : H rA = some (.lst (vints rm))
  lal : la.length = N
  each : ∀ (v : Nat) (a : Addr), la[v]? = some a → H a = some (.lst (nats (lAt lv v)))
  lvv : Lv N W lv
  rl : rm.length = 2 * W.length
  gr : gA ≠ rA
  lg : lA ≠ gA
  lr : lA ≠ rA
  apart : ∀ (v : Nat) (a : Addr), la[v]? = some a → a ≠ lA ∧ a ≠ gA ∧ a ≠ rA
  inj : ∀ (u v : Nat) (a : Addr), la[u]? = some a → la[v]? = some a → u = v
theorem NtAt.move {C : Addr} {H H' : Hp} {p lA gA rA : Addr} {N : Nat} {W : List Way} {la : List Addr} {lv : List (List Nat)} {rm rm' : List Int} (n : NtAt C H p lA gA rA N W la lv rm)
    (k : ∀ b o, H b = some o → b ≠ rA → H' b = some o) (hr : H' rA = some (.lst (vints rm'))) (hl : rm'.length = 2 * W.length) : NtAt C H' p lA gA rA N W la lv rm' := by
  obtain ⟨dx, hp⟩ := n.ins
  exact ⟨⟨dx, k _ _ hp (ne_of hp n.roo (by intro z; cases z))⟩, k _ _ n.lea n.lr, k _ _ n.goa n.gr, hr, n.lal, fun v a h => k _ _ (n.each v a h) (n.apart v a h).2.2, n.lvv, hl, n.gr, n.lg, n.lr, n.apart, n.inj⟩
theorem NtAt.keep {C : Addr} {H H' : Hp} {p lA gA rA : Addr} {N : Nat} {W : List Way} {la : List Addr} {lv : List (List Nat)} {rm : List Int} (n : NtAt C H p lA gA rA N W la lv rm)
    (k : Same H H') : NtAt C H' p lA gA rA N W la lv rm := n.move (fun b o h _ => k b o h) (k _ _ n.roo) n.rl
theorem NtAt.addr {C : Addr} {H : Hp} {p lA gA rA : Addr} {N : Nat} {W : List Way} {la : List Addr} {lv : List (List Nat)} {rm : List Int} (n : NtAt C H p lA gA rA N W la lv rm) {v : Nat} (h : v < N) : ∃ a, la[v]? = some a ∧ H a = some (.lst (nats (lAt lv v))) := by
  have hl := n.lal
  have e : la[v]? = some la[v] := List.getElem?_eq_getElem (by omega)
  exact ⟨_, e, n.each v _ e⟩
theorem refs_at {la : List Addr} {v : Nat} {a : Addr} (h : la[v]? = some a) : (la.map V.ref)[v]? = some (V.ref a) := by
  rw [List.getElem?_map, h]
  rfl
section
variable {P : Program} {w : World} {K : PySem.W.Frag} {mg : Str → Option Value} {base : Heap}
/-! ### add_half, add_way -/
def spHalf (C : Addr) : Sp := fun vs H Q _ => ∃ (p lA gA rA dx aS : Addr) (la : List Addr) (src goal : Nat) (room : Int) (xs gs : List Nat) (rs : List Int), vs = [.ref p, .int (src : Int), .int (goal : Int), .int room] ∧ H p = some (.ins C dx (nf lA gA rA)) ∧ H lA = some (.lst (la.map V.ref)) ∧ la[src]? = some aS ∧
  H aS = some (.lst (nats xs)) ∧ H gA = some (.lst (nats gs)) ∧ H rA = some (.lst (vints rs)) ∧ aS ≠ gA ∧ aS ≠ rA ∧ gA ≠ rA ∧ xs.length < 100000 ∧ gs.length < 100000 ∧ rs.length < 100000 ∧
  Q .non (upd (upd (upd H aS (.lst (nats (xs ++ [gs.length])))) gA (.lst (nats (gs ++ [goal])))) rA (.lst (vints (rs ++ [room]))))
theorem sc_half : FnScope ["self", "source", "goal", "room"] ["self", "source", "goal", "room"] (defScope nHalf) := ⟨rfl, rfl, rfl, by decide +kernel, rfl, by decide +kernel, by decide +kernel⟩
theorem small5 {n : Nat} (h : n < 100000) : n < sizeLine := Nat.lt_of_lt_of_le h (by decide)
theorem ok_half {f C : Addr} {fd : FuncData} (F : Fun K "add_half" "Net.add_half" nHalf f fd) (T : TxN K mg C) : FnOk P w K mg base CX0 1 f fd ["self", "source", "goal", "room"] (spHalf C) := by
  refine F.ok sc_half (fun vs H Q E h => ?_) (fun cdv A outer s H vs Q E hr h => ?_)
  · obtain ⟨p, lA, gA, rA, dx, aS, la, src, goal, room, xs, gs, rs, rfl, _⟩ := h
    rfl
  · obtain ⟨p, lA, gA, rA, dx, aS, la, src, goal, room, xs, gs, rs, rfl, hp, hl, hS, ha, hg, hr', n1, n2, n3, z1, z2, z3, k⟩ := h
    refine ⟨_, (pss_cons (ps_expr (pe_bm PySem.F.plainAttrs_list PySem.F.slot_list_append PySem.F.type_list_append mt_append (pe_ix ix_list (pe_fld (pv 0) rfl) (pv 1) (fun _ _ => rfl)) (pa_cons (pe_callB call_len_seq (by rfl) T.len PySem.boot_len (pa_cons (pe_fld (pv 0) rfl) pa_nil)) pa_nil)))
      (pss_cons (ps_expr (pe_bm PySem.F.plainAttrs_list PySem.F.slot_list_append PySem.F.type_list_append mt_append (pe_fld (pv 0) rfl) (pa_cons (pv 2) pa_nil)))
      (pss_one (ps_expr (pe_bm PySem.F.plainAttrs_list PySem.F.slot_list_append PySem.F.type_list_append mt_append (pe_fld (pv 0) rfl) (pa_cons (pv 3) pa_nil)))))), ?_⟩
    refine ⟨_, rfl, p, C, dx, _, _, rfl, hp, T.cl, T.nL, nf_l lA gA rA, _, rfl, lA, _, _, _, rfl, rfl, SqL.of hl, atI_nat (refs_at hS), .inl ⟨rfl, _, SqL.of ha⟩, ?_⟩
    refine ⟨_, rfl, p, C, dx, _, _, rfl, hp, T.cl, T.nG, nf_g lA gA rA, gA, _, rfl, .inl (SqL.of hg), aS, _, _, rfl, rfl, ha, (by rw [nats_length]; exact small5 z1), ?_⟩
    have hp1 : upd H aS (.lst (nats xs ++ [.int ((nats gs).length : Int)])) p = some (.ins C dx (nf lA gA rA)) := by
      rw [upd_ne (ne_of hp ha (by intro z; cases z))]
      exact hp
    have hg1 : upd H aS (.lst (nats xs ++ [.int ((nats gs).length : Int)])) gA = some (.lst (nats gs)) := by
      rw [upd_ne n1.symm]
      exact hg
    refine ⟨_, rfl, p, C, dx, _, _, rfl, hp1, T.cl, T.nG, nf_g lA gA rA, .inl ⟨rfl, _, SqL.of hg1⟩, _, rfl, gA, _, _, rfl, rfl, hg1, (by rw [nats_length]; exact small5 z2), ?_⟩
    have hp2 : upd (upd H aS (.lst (nats xs ++ [.int ((nats gs).length : Int)]))) gA (.lst (nats gs ++ [.int (goal : Int)])) p = some (.ins C dx (nf lA gA rA)) := by
      rw [upd_ne (ne_of hp hg (by intro z; cases z))]
      exact hp1
    have hr2 : upd (upd H aS (.lst (nats xs ++ [.int ((nats gs).length : Int)]))) gA (.lst (nats gs ++ [.int (goal : Int)])) rA = some (.lst (vints rs)) := by
      rw [upd_ne n3.symm, upd_ne n2.symm]
      exact hr'
    refine ⟨_, rfl, p, C, dx, _, _, rfl, hp2, T.cl, T.nR, nf_r lA gA rA, .inl ⟨rfl, _, SqL.of hr2⟩, _, rfl, rA, _, _, rfl, rfl, hr2, (by rw [vints_length]; exact small5 z3), ?_⟩
    rw [nats_length, nats_snoc, nats_snoc, vints_snoc]
    exact k
/-- a way more -/
def spWay (C : Addr) : Sp := fun vs H Q _ => ∃ (p lA gA rA : Addr) (N : Nat) (W : List Way) (la : List Addr) (lv : List (List Nat)) (a b c : Nat), vs = [.ref p, .int (a : Int), .int (b : Int), .int (c : Int)] ∧ NtAt C H p lA gA rA N W la lv (rl W) ∧ a < N ∧ b < N ∧ W.length < 10000 ∧ (∀ v, (lAt lv v).length ≤ 2 * W.length) ∧
  ∀ (H' : Hp) (lv' : List (List Nat)), NtAt C H' p lA gA rA N (W ++ [(a, b, c)]) la lv' (rl (W ++ [(a, b, c)])) → (∀ v, (lAt lv' v).length ≤ 2 * (W ++ [(a, b, c)]).length) → (∀ x o, H x = some o → x ≠ gA → x ≠ rA → x ∉ la → H' x = some o) → Q .non H'
theorem sc_way : FnScope ["self", "source", "goal", "room"] ["self", "source", "goal", "room"] (defScope nWay) := ⟨rfl, rfl, rfl, by decide +kernel, rfl, by decide +kernel, by decide +kernel⟩
theorem mem_of {la : List Addr} {v : Nat} {a : Addr} (h : la[v]? = some a) : a ∈ la := List.mem_of_getElem? h
theorem ok_way {f C fH : Addr} {fd fdH : FuncData} (F : Fun K "add_way" "Net.add_way" nWay f fd) (T : TxN K mg C) (FH : Fun K "add_half" "Net.add_half" nHalf fH fdH) (bH : Binds K fdH ["self", "source", "goal", "room"] []) (mH : Meth K C "add_half" fH) :
    FnOk P w K mg base CX0 2 f fd ["self", "source", "goal", "room"] (spWay C) := by
  have GH : FnOk P w K mg base CX0 1 fH fdH ["self", "source", "goal", "room"] (spHalf C) := ok_half FH T
  refine F.ok sc_way (fun vs H Q E h => ?_) (fun cdv A outer s H vs Q E hr h => ?_)
  · obtain ⟨p, lA, gA, rA, N, W, la, lv, a, b, c, rfl, _⟩ := h
    rfl
  · obtain ⟨p, lA, gA, rA, N, W, la, lv, a, b, c, rfl, n, ha, hb, hW, hlv, k⟩ := h
    obtain ⟨dx, hp⟩ := n.ins
    obtain ⟨aA, eA, hA⟩ := n.addr ha
    obtain ⟨aB, eB, hB⟩ := n.addr hb
    obtain ⟨a1, a2, a3⟩ := n.apart a aA eA
    obtain ⟨b1, b2, b3⟩ := n.apart b aB eB
    have no : (nf lA gA rA).lookup ("add_half" : Str) = none := nf_no _ _ _ (by decide +kernel) (by decide +kernel) (by decide +kernel)
    refine ⟨_, (pss_cons (ps_expr (pe_meth (pv 0) T.cl mH GH hr bH .nil pass0 (pa_cons (pv 1) (pa_cons (pv 2) (pa_cons (pv 3) pa_nil)))))
      (pss_one (ps_expr (pe_meth (pv 0) T.cl mH GH hr bH .nil pass0 (pa_cons (pv 2) (pa_cons (pv 1) (pa_cons pe_int pa_nil))))))), ?_⟩
    have l1 := hlv a
    have l2 := hlv b
    have gll := gl_len W
    have rll := rl_len W
    refine ⟨_, rfl, p, dx, _, rfl, hp, no, _, rfl, _, rfl, _, rfl, p, lA, gA, rA, dx, aA, la, a, b, (c : Int), _, _, _, rfl, hp, n.lea, eA, hA, n.goa, n.roo, a2, a3, n.gr, by omega, by omega, by omega, ?_⟩
    -- behind the first half
    generalize hH1 : upd (upd (upd H aA (.lst (nats (lAt lv a ++ [(gl W).length])))) gA (.lst (nats (gl W ++ [b])))) rA (.lst (vints (rl W ++ [(c : Int)]))) = H1
    have at1 : ∀ x o, H x = some o → x ≠ gA → x ≠ rA → x ≠ aA → H1 x = some o := fun x o hx x1 x2 x3 => by
      rw [← hH1, upd_ne x2, upd_ne x1, upd_ne x3]
      exact hx
    have hp1 : H1 p = some (.ins C dx (nf lA gA rA)) := at1 _ _ hp (ne_of hp n.goa (by intro z; cases z)) (ne_of hp n.roo (by intro z; cases z)) (ne_of hp hA (by intro z; cases z))
    have hl1 : H1 lA = some (.lst (la.map V.ref)) := at1 _ _ n.lea n.lg n.lr (Ne.symm a1)
    have hg1 : H1 gA = some (.lst (nats (gl W ++ [b]))) := by rw [← hH1, upd_ne n.gr, upd_same]
    have hr1 : H1 rA = some (.lst (vints (rl W ++ [(c : Int)]))) := by rw [← hH1, upd_same]
    have hln := n.lvv.len
    have hB1 : H1 aB = some (.lst (nats (lAt (apd lv a (2 * W.length)) b))) := by
      rw [lAt_apd _ _ (by omega)]
      by_cases q : b = a
      · subst q
        rw [eA] at eB
        cases eB
        rw [if_pos rfl, ← hH1, upd_ne a3, upd_ne a2, upd_same, gll]
      · rw [if_neg q]
        exact at1 _ _ hB b2 b3 (fun z => q (n.inj b a aB eB (by rw [z]; exact eA)))
    have l3 : (lAt (apd lv a (2 * W.length)) b).length ≤ 2 * W.length + 1 := by
      rw [lAt_apd _ _ (by omega)]
      split
      · rw [List.length_append]
        simp
        omega
      · omega
    refine ⟨_, rfl, p, dx, _, rfl, hp1, no, _, rfl, _, rfl, p, lA, gA, rA, dx, aB, la, b, a, 0, _, _, _, rfl, hp1, hl1, eB, hB1, hg1, hr1, b2, b3, n.gr, (by omega), (by rw [List.length_append]; simp; omega), (by rw [List.length_append]; simp; omega), ?_⟩
    have glen : (gl W ++ [b]).length = 2 * W.length + 1 := by
      rw [List.length_append]
      simp
      omega
    rw [glen]
    have eLast : ∀ v, lAt (apd (apd lv a (2 * W.length)) b (2 * W.length + 1)) v = if v = b then lAt (apd lv a (2 * W.length)) b ++ [2 * W.length + 1] else lAt (apd lv a (2 * W.length)) v := fun v => lAt_apd _ _ (by rw [apd_len]; omega)
    have eMid : ∀ v, lAt (apd lv a (2 * W.length)) v = if v = a then lAt lv a ++ [2 * W.length] else lAt lv v := fun v => lAt_apd _ _ (by omega)
    refine k _ (apd (apd lv a (2 * W.length)) b (2 * W.length + 1)) ⟨⟨dx, ?_⟩, ?_, ?_, ?_, n.lal, fun v x hx => ?_, lv_add n.lvv c ha hb, rl_len _, n.gr, n.lg, n.lr, n.apart, n.inj⟩ (fun v => ?_) (fun x o hx x1 x2 x3 => ?_)
    · rw [upd_ne (ne_of hp n.roo (by intro z; cases z)), upd_ne (ne_of hp n.goa (by intro z; cases z)), upd_ne (ne_of hp hB (by intro z; cases z))]
      exact hp1
    · rw [upd_ne n.lr, upd_ne n.lg, upd_ne (Ne.symm b1)]
      exact hl1
    · rw [upd_ne n.gr, upd_same, gl_snoc]
      all_goals rfl
    · rw [upd_same, rl_snoc]
      all_goals rfl
    · obtain ⟨v1, v2, v3⟩ := n.apart v x hx
      rw [upd_ne v3, upd_ne v2, eLast v]
      by_cases q : v = b
      · subst q
        rw [eB] at hx
        cases hx
        rw [if_pos rfl, upd_same]
      · rw [if_neg q, upd_ne (fun z => q (n.inj v b x hx (by rw [z]; exact eB))), eMid v]
        by_cases q2 : v = a
        · subst q2
          rw [eA] at hx
          cases hx
          rw [if_pos rfl, ← hH1, upd_ne a3, upd_ne a2, upd_same, gll]
        · rw [if_neg q2]
          exact at1 _ _ (n.each v x hx) v2 v3 (fun z => q2 (n.inj v a x hx (by rw [z]; exact eA)))
    · have := hlv v
      rw [eLast v, List.length_append]
      simp only [List.length_cons, List.length_nil]
      by_cases q : v = b
      · rw [if_pos q, List.length_append]
        simp only [List.length_cons, List.length_nil]
        omega
      · rw [if_neg q, eMid v]
        by_cases q2 : v = a
        · rw [if_pos q2, List.length_append]
          simp only [List.length_cons, List.length_nil]
          omega
        · rw [if_neg q2]
          omega
    · rw [upd_ne x2, upd_ne x1, upd_ne (fun z => x3 (by rw [z]; exact mem_of eB))]
      exact at1 x o hx x1 x2 (fun z => x3 (by rw [z]; exact mem_of eA))
/-! ### a new Net -/
def spNet (C : Addr) : Sp := fun vs H Q _ => ∃ (p dx : Addr) (N : Nat), vs = [.ref p, .int (N : Int)] ∧ H p = some (.ins C dx []) ∧ N ≤ 10000 ∧
  ∀ (H' : Hp) (lA gA rA : Addr) (la : List Addr), H gA = none → H rA = none → (∀ a, a ∈ la → H a = none) → NtAt C H' p lA gA rA N [] la (List.replicate N []) [] → (∀ b o, H b = some o → b ≠ p → H' b = some o) → Q .non H'
theorem sc_net : FnScope ["self", "nodes", "node"] ["self", "nodes"] (defScope nInit) := ⟨rfl, rfl, rfl, by decide +kernel, rfl, by decide +kernel, by decide +kernel⟩
theorem lAt_rep (N v : Nat) : lAt (List.replicate N []) v = [] := by
  unfold lAt
  rw [List.getD_eq_getElem?_getD, List.getElem?_replicate]
  split <;> rfl
theorem ok_net {f C : Addr} {fd : FuncData} (F : Fun K "__init__" "Net.__init__" nInit f fd) (T : TxN K mg C) : FnOk P w K mg base CX0 1 f fd ["self", "nodes"] (spNet C) := by
  refine F.ok sc_net (fun vs H Q E h => ?_) (fun cdv A outer s H vs Q E hr h => ?_)
  · obtain ⟨p, dx, N, rfl, _⟩ := h
    rfl
  · obtain ⟨p, dx, N, rfl, hp, hN, k⟩ := h
    refine ⟨_, (pss_cons (ps_fld (pv 0) (pe_lc rfl sc_net.nd (pi_range1 rfl T.range (pa_cons (pv 1) pa_nil)) (blkOk_by (own := [("node", 2)]) (by show blkC ["self", "nodes", "node"] (defScope nInit) _ _ = true; decide +kernel)) (fun _ _ _ _ _ => (pg_name (i := 2) sc_net.nd rfl (Or.inl rfl))) (fun _ _ _ _ _ => pts_nil) (fun _ _ _ _ _ => (pe_lst pa_nil))) rfl)
      (pss_cons (ps_fld (pv 0) (pe_lst pa_nil) rfl)
      (pss_one (ps_fld (pv 0) (pe_lst pa_nil) rfl)))), ?_⟩
    refine ⟨_, rfl, (N : Int), rfl, by omega, by omega, fun D hD => lc_range (lo := 0) (fun i H' => ∃ la : List Addr, la.length = i ∧ H' D = some (.lst (la.map V.ref)) ∧ (∀ b o, H b = some o → H' b = some o) ∧ (∀ (v : Nat) (a : Addr), la[v]? = some a → a ≠ D ∧ H a = none ∧ H' a = some (.lst [])) ∧ (∀ (u v : Nat) (a : Addr), la[u]? = some a → la[v]? = some a → u = v)) ?_ (fun i H' hi e' => ?_) (fun H' e' => ?_)⟩
    · exact ⟨[], rfl, upd_same, fun b o hb => (by rw [upd_ne (ne_of_none hb hD)]; exact hb), fun v a h => (by cases h), fun u v a h => (by cases h)⟩
    · obtain ⟨la, e1, e2, e3, e4, e5⟩ := e'
      refine ⟨rfl, ?_⟩
      dsimp only [tYes]
      refine iteT ⟨Nat.zero_le _, fun q hq => ?_⟩
      have nD : D ≠ q := ne_of_none e2 hq
      have hqH : H q = none := by
        cases z : H q with
        | none => rfl
        | some o =>
          rw [e3 q o z] at hq
          cases hq
      have nq : ∀ (v : Nat) (a : Addr), la[v]? = some a → a ≠ q := fun v a h => ne_of_none (e4 v a h).2.2 hq
      refine ⟨_, by rw [upd_ne nD]; exact e2, (by rw [List.length_map, e1]; exact small5 (by omega)), la ++ [q], by rw [List.length_append, e1]; rfl, by rw [upd_same, List.map_append]; rfl, fun b o hb => ?_, fun v a h => ?_, fun u v a h1 h2 => ?_⟩
      · rw [upd_ne (ne_of_none hb hD), upd_ne (ne_of_none hb hqH)]
        exact e3 b o hb
      · by_cases c : v < la.length
        · rw [List.getElem?_append_left c] at h
          obtain ⟨f1, f2, f3⟩ := e4 v a h
          refine ⟨f1, f2, ?_⟩
          rw [upd_ne f1, upd_ne (nq v a h)]
          exact f3
        · rw [List.getElem?_append_right (by omega)] at h
          have : v - la.length = 0 := by
            obtain ⟨z, _⟩ := List.getElem?_eq_some_iff.mp h
            simp at z
            omega
          rw [this] at h
          cases h
          refine ⟨nD.symm, hqH, ?_⟩
          rw [upd_ne nD.symm, upd_same]
      · have far : ∀ v : Nat, ¬ v < la.length → (la ++ [q])[v]? = some a → v = la.length ∧ a = q := fun v c h => by
          rw [List.getElem?_append_right (by omega)] at h
          have : v - la.length = 0 := by
            obtain ⟨z, _⟩ := List.getElem?_eq_some_iff.mp h
            simp at z
            omega
          rw [this] at h
          cases h
          exact ⟨by omega, rfl⟩
        by_cases c1 : u < la.length
        · rw [List.getElem?_append_left c1] at h1
          by_cases c2 : v < la.length
          · rw [List.getElem?_append_left c2] at h2
            exact e5 u v a h1 h2
          · exact absurd (far v c2 h2).2 (nq u a h1)
        · by_cases c2 : v < la.length
          · rw [List.getElem?_append_left c2] at h2
            exact absurd (far u c1 h1).2 (nq v a h2)
          · rw [(far u c1 h1).1, (far v c2 h2).1]
    · obtain ⟨la, e1, e2, e3, e4, e5⟩ := e'
      have e1 : la.length = N := by simpa using e1
      have hp' := e3 p _ hp
      refine ⟨_, rfl, p, C, dx, _, rfl, hp', T.cl, T.nL, (by show 0 < 1000; decide), ?_⟩
      refine ⟨Nat.zero_le _, fun g hg => ?_⟩
      have npg : p ≠ g := ne_of_none upd_same hg
      have hg1 : H' g = none := by
        rw [upd_ne npg.symm] at hg
        exact hg
      have hgH : H g = none := by
        cases z : H g with
        | none => rfl
        | some o =>
          rw [e3 g o z] at hg1
          cases hg1
      refine ⟨_, rfl, p, C, dx, _, rfl, (by rw [upd_ne npg, upd_same]), T.cl, T.nG, (by show 1 < 1000; decide), ?_⟩
      refine ⟨Nat.zero_le _, fun r hr => ?_⟩
      have npr : p ≠ r := ne_of_none upd_same hr
      have ngr : g ≠ r := by
        intro q
        subst q
        rw [upd_ne npg.symm, upd_same] at hr
        cases hr
      have hr1 : H' r = none := by
        rw [upd_ne npr.symm, upd_ne ngr.symm, upd_ne npr.symm] at hr
        exact hr
      have hrH : H r = none := by
        cases z : H r with
        | none => rfl
        | some o =>
          rw [e3 r o z] at hr1
          cases hr1
      have npD : p ≠ D := ne_of hp' e2 (by intro z; cases z)
      have nDg : D ≠ g := ne_of_none e2 hg1
      have nDr : D ≠ r := ne_of_none e2 hr1
      refine ⟨_, rfl, p, C, dx, _, rfl, (by rw [upd_ne npr, upd_same]), T.cl, T.nR, (by show 2 < 1000; decide), ?_⟩
      refine k _ D g r la hgH hrH (fun a ha => ?_) ⟨⟨dx, upd_same⟩, ?_, ?_, ?_, e1, fun v a h => ?_, lv_nil N, rfl, ngr, nDg, nDr, fun v a h => ?_, e5⟩ fun b o hb nb => ?_
      · obtain ⟨v, hv, ev⟩ := List.getElem_of_mem ha
        exact (e4 v a (by rw [List.getElem?_eq_getElem hv, ev])).2.1
      · rw [upd_ne npD.symm, upd_ne nDr, upd_ne npD.symm, upd_ne nDg, upd_ne npD.symm]
        exact e2
      · rw [upd_ne npg.symm, upd_ne ngr, upd_ne npg.symm, upd_same]
        all_goals rfl
      · rw [upd_ne npr.symm, upd_same]
        all_goals rfl
      · obtain ⟨f1, f2, f3⟩ := e4 v a h
        have nap : a ≠ p := ne_of f3 hp' (by intro z; cases z)
        rw [upd_ne nap, upd_ne (ne_of_none f3 hr1), upd_ne nap, upd_ne (ne_of_none f3 hg1), upd_ne nap, lAt_rep]
        exact f3
      · obtain ⟨f1, f2, f3⟩ := e4 v a h
        exact ⟨f1, ne_of_none f3 hg1, ne_of_none f3 hr1⟩
      · rw [upd_ne nb, upd_ne (ne_of_none hb hrH), upd_ne nb, upd_ne (ne_of_none hb hgH), upd_ne nb]
        exact e3 b o hb
end
end Mg

set_option Elab.async false
set_option linter.all false
set_option maxRecDepth 100000
set_option maxHeartbeats 2000000
namespace Mg
open PySem PySem.Spec PyProof.Rows L2
open PySem.W (Codec)
open Ks175 (Went Abs)
open MG MD MN
section
variable {P : Program} {w : World} {K : PySem.W.Frag} {mg : Str → Option Value} {base : Heap}
def spSteps (C : Addr) : Sp := fun vs H Q _ => ∃ (p lA gA rA : Addr) (N : Nat) (W : List Way) (la : List Addr) (lv : List (List Nat)) (rm : List Int) (t : Nat), vs = [.ref p, .int (t : Int)] ∧ NtAt C H p lA gA rA N W la lv rm ∧ t < N ∧ N < 100000 ∧
  ∀ (H' : Hp) (st : List Int) (a : Addr), Same H H' → H a = none → H' a = some (.lst (vints st)) → Steps N W t rm st → Q (.ref a) H'
theorem sc_steps : FnScope ["self", "sink", "steps", "reached", "place", "node", "way", "before"] ["self", "sink"] (defScope nSteps) := ⟨rfl, rfl, rfl, by decide +kernel, rfl, by decide +kernel, by decide +kernel⟩
theorem vints_rep (i : Nat) (x : Int) : vints (List.replicate i x) ++ [V.int x] = vints (List.replicate (i + 1) x) := by
  rw [vints_snoc, List.replicate_succ']
/-- between two turns of the search -/
structure Srch (H H' : Hp) (N : Nat) (W : List Way) (lv : List (List Nat)) (t : Nat) (rm : List Int) (D R : Addr) (st : List Int) (rc : List Nat) (pl : Nat) : Prop where
  same : Same H H'
  fD : H D = none
  fR : H R = none
  dr : D ≠ R
  hD : H' D = some (.lst (vints st))
  hR : H' R = some (.lst (nats rc))
  b : Bfs N W lv t rm st rc pl
theorem ok_steps {f C : Addr} {fd : FuncData} (F : Fun K "steps_to" "Net.steps_to" nSteps f fd) (T : TxN K mg C) : FnOk P w K mg base CX0 1 f fd ["self", "sink"] (spSteps C) := by
  refine F.ok sc_steps (fun vs H Q E h => ?_) (fun cdv A outer s H vs Q E hr h => ?_)
  · obtain ⟨p, lA, gA, rA, N, W, la, lv, rm, t, rfl, _⟩ := h
    rfl
  · obtain ⟨p, lA, gA, rA, N, W, la, lv, rm, t, rfl, n, ht, hN, k⟩ := h
    obtain ⟨dx, hp⟩ := n.ins
    have lal := n.lal
    refine ⟨_, (pss_cons (ps_setLc (i := 2) rfl sc_steps.nd rfl rfl (sw_true rfl rfl rfl (by decide +kernel)) (pi_list (pe_fld (pv 0) rfl)) (blkOk_by (own := [("node", 5)]) (by show blkC ["self", "sink", "steps", "reached", "place", "node", "way", "before"] (defScope nSteps) _ _ = true; decide +kernel)) (fun _ _ _ _ _ => (pg_name (i := 5) sc_steps.nd rfl (Or.inl rfl))) (fun _ _ _ _ _ => pts_nil) (fun _ _ _ _ _ => (pe_un un_neg pe_int)))
      (pss_cons (ps_asg pe_int (pg_sub (pv 2) (pv 1) set_list))
      (pss_cons (ps_set (i := 3) sc_steps.nd rfl (Or.inl rfl) (pe_lst (pa_cons (pv 1) pa_nil)))
      (pss_cons (ps_set (i := 4) sc_steps.nd rfl (Or.inl rfl) pe_int)
      (pss_cons (ps_while PassesOwn.never (pt_cmpR op_lt (pv 4) (pe_callB call_len_seq (by rfl) T.len PySem.boot_len (pa_cons (pv 3) pa_nil)) (nomark _))
        (pss_cons (ps_set (i := 5) sc_steps.nd rfl (Or.inl rfl) (pe_ix ix_list (pv 3) (pv 4) (fun _ _ => rfl)))
        (pss_cons (ps_for PassesOwn.never rfl (pi_list (pe_ix ix_list (pe_fld (pv 0) rfl) (pv 5) (fun _ _ => rfl))) (pg_name (i := 6) sc_steps.nd rfl (Or.inl rfl))
          (pss_cons (ps_set (i := 7) sc_steps.nd rfl (Or.inl rfl) (pe_ix ix_list (pe_fld (pv 0) rfl) (pv 6) (fun _ _ => rfl)))
          (pss_one (ps_if (PW.pt (pw_and (pt_cmpR op_lt (pe_ix ix_list (pv 2) (pv 7) (fun _ _ => rfl)) pe_int (nomark _)) (pw_and1 (pt_cmpR op_gt (pe_ix ix_list (pe_fld (pv 0) rfl) (pe_op op_xor (pv 6) pe_int) (fun _ _ => rfl)) pe_int (nomark _)))))
            (pss_cons (ps_asg (pe_op op_add (pe_ix ix_list (pv 2) (pv 5) (fun _ _ => rfl)) pe_int) (pg_sub (pv 2) (pv 7) set_list))
            (pss_one (ps_expr (pe_bm PySem.F.plainAttrs_list PySem.F.slot_list_append PySem.F.type_list_append mt_append (pv 3) (pa_cons (pv 7) pa_nil)))))
            pss_nil))))
        (pss_one (ps_aug (i := 4) sc_steps.nd rfl (Or.inl rfl) pe_int ip_add)))))
      (pss_one (ps_ret (pv 2)))))))), ?_⟩
    -- steps = [-1 ..]
    refine ⟨_, rfl, p, C, dx, _, _, rfl, hp, T.cl, T.nL, nf_l lA gA rA, lA, rfl, ⟨_, SqL.of n.lea⟩, fun D hD => lc_list (xs := la.map V.ref) (fun i H' => H' = upd H D (.lst (vints (List.replicate i (-1))))) rfl (fun i H' _ e' => ?_) (fun i x H' hx e' => ?_) (fun H' e' => ?_)⟩
    · subst e'
      exact SqL.of (by rw [upd_ne (ne_of_none n.lea hD)]; exact n.lea)
    · subst e'
      refine ⟨rfl, ?_⟩
      dsimp only [tYes, tC]
      refine iteT ⟨1, rfl, _, upd_same, ?_, ?_⟩
      · have hi : i < N := by
          obtain ⟨z, _⟩ := List.getElem?_eq_some_iff.mp hx
          rw [List.length_map] at z
          omega
        rw [vints_length, List.length_replicate]
        exact small5 (by omega)
      · rw [upd_upd, vints_rep]
    subst e'
    rw [List.length_map, lal]
    -- steps[sink] = 0; reached = [sink]; place = 0
    refine ⟨_, rfl, _, rfl, D, _, _, t, rfl, rfl, upd_same, ixN_nat (by rw [vints_length, List.length_replicate]; exact ht), ?_⟩
    refine ⟨_, rfl, (by show 1 ≤ sizeLine; decide), fun R hR => ?_⟩
    rw [upd_upd, vints_set] at hR ⊢
    have dr : D ≠ R := ne_of_none upd_same hR
    have fR : H R = none := by
      rw [upd_ne dr.symm] at hR
      exact hR
    have S0 : Srch H (upd (upd H D (.lst (vints ((List.replicate N (-1)).set t 0)))) R (.lst [.int (t : Int)])) N W lv t rm D R ((List.replicate N (-1)).set t 0) [t] 0 := by
      refine ⟨Same.new (Same.new (Same.refl H) hD) hR, hD, fR, dr, ?_, ?_, bfs_start ht⟩
      · rw [upd_ne dr, upd_same]
      · rw [upd_same]
        all_goals rfl
    refine ⟨fun m σ H' => ∃ (st : List Int) (rc : List Nat) (pl : Nat) (v5 v6 v7 : Option V), σ = [some (.ref p), some (.int (t : Int)), some (.ref D), some (.ref R), some (.int (pl : Int)), v5, v6, v7] ∧ m = N - pl ∧ pl ≤ rc.length ∧ Srch H H' N W lv t rm D R st rc pl,
      ⟨_, _, _, 0, none, none, none, rfl, rfl, Nat.zero_le _, S0⟩, ?_⟩
    rintro m σ H1 ⟨st, rc, pl, v5, v6, v7, rfl, rfl, hpl, S⟩
    refine ⟨_, rfl, _, rfl, R, _, rfl, .inl (SqL.of S.hR), _, _, rfl, rfl, _, rfl, ?_⟩
    rw [nats_length]
    by_cases hlt : pl < rc.length
    · refine iteP (by rw [decide_eq_true_eq]; omega) ?_
      have hle := bfs_le S.b
      obtain ⟨node, hnode⟩ : ∃ node, rc[pl]? = some node := ⟨_, List.getElem?_eq_getElem hlt⟩
      have nin : node ∈ rc := List.mem_of_getElem? hnode
      have nlt := S.b.rlt node nin
      refine ⟨fun σ' H2 => ∃ m', m' < N - pl ∧ ∃ (st : List Int) (rc : List Nat) (pl : Nat) (v5 v6 v7 : Option V), σ' = [some (.ref p), some (.int (t : Int)), some (.ref D), some (.ref R), some (.int (pl : Int)), v5, v6, v7] ∧ m' = N - pl ∧ pl ≤ rc.length ∧ Srch H H2 N W lv t rm D R st rc pl, fun _ _ h => h, ?_⟩
      -- node = reached[place]
      refine ⟨_, rfl, _, rfl, R, _, _, _, rfl, rfl, SqL.of S.hR, atI_nat (nats_at hnode), ?_⟩
      have n1 := n.keep S.same
      obtain ⟨dx1, hp1⟩ := n1.ins
      obtain ⟨aN, eN, hN1⟩ := n.addr nlt
      refine ⟨_, rfl, p, C, dx1, _, _, rfl, hp1, T.cl, T.nL, nf_l lA gA rA, _, rfl, lA, _, _, _, rfl, rfl, SqL.of n1.lea, atI_nat (refs_at eN), aN, rfl, ⟨_, SqL.of (S.same _ _ hN1)⟩, for_list (xs := nats (lAt lv node)) (fun i σ' H2 => ∃ (st : List Int) (rc : List Nat) (v6 v7 : Option V), σ' = [some (.ref p), some (.int (t : Int)), some (.ref D), some (.ref R), some (.int (pl : Int)), some (.int (node : Int)), v6, v7] ∧ rc[pl]? = some node ∧ Srch H H2 N W lv t rm D R st rc pl ∧ ∀ j e, j < i → (lAt lv node)[j]? = some e → 0 ≤ iAt st (dst W e) ∨ iAt rm (tw e) ≤ 0)
        ⟨st, rc, v6, v7, rfl, hnode, S, fun j e hj => absurd hj (Nat.not_lt_zero _)⟩ (fun i σ' H2 _ q => ?_) (fun i x σ' H2 hx q => ?_) (fun σ' H2 q => ?_)⟩
      · obtain ⟨st, rc, v6, v7, _, _, S, _⟩ := q
        exact SqL.of (S.same _ _ hN1)
      · obtain ⟨st, rc, v6, v7, rfl, hnode, S, hdone⟩ := q
        obtain ⟨e, he, rfl⟩ := nats_of hx
        have nin : node ∈ rc := List.mem_of_getElem? hnode
        have hpl2 : pl ≤ rc.length := by
          obtain ⟨z, _⟩ := List.getElem?_eq_some_iff.mp hnode
          omega
        have em : e ∈ lAt lv node := List.mem_of_getElem? he
        obtain ⟨e2k, esrc⟩ := (n.lvv.mem node nlt e).mp em
        have dl := n.lvv.dst_lt e2k
        have tl := tw_lt e2k
        have slen := S.b.len
        have n2 := n.keep S.same
        obtain ⟨dx2, hp2⟩ := n2.ins
        -- before = self.goals[way]
        refine ⟨_, rfl, p, C, dx2, _, _, rfl, hp2, T.cl, T.nG, nf_g lA gA rA, _, rfl, gA, _, _, _, rfl, rfl, SqL.of n2.goa, atI_nat (nats_at (gl_at W e e2k)), ?_⟩
        -- if steps[before] < 0 and self.rooms[way ^ 1] > 0
        refine ⟨_, rfl, _, rfl, D, _, _, _, rfl, rfl, SqL.of S.hD, atI_nat (vints_get (by rw [slen]; exact dl)), _, _, rfl, rfl, _, rfl, ite2 (fun c1 => ?_) (fun c1 => ?_)⟩
        · rw [decide_eq_true_eq] at c1
          refine ⟨_, rfl, p, C, dx2, _, _, rfl, hp2, T.cl, T.nR, nf_r lA gA rA, _, rfl, _, _, rfl, rfl, rA, _, _, _, rfl, (congrArg V.int (xor_one e)), SqL.of n2.roo, atI_nat (vints_get (by rw [n.rl]; exact tl)), _, _, rfl, rfl, _, rfl, ite2 (fun c2 => ?_) (fun c2 => ?_)⟩
          · rw [decide_eq_true_eq] at c2
            have nN : iAt st node = iAt st node := rfl
            refine ⟨_, rfl, _, rfl, D, _, _, _, rfl, rfl, SqL.of S.hD, atI_nat (vints_get (by rw [slen]; exact nlt)), _, _, rfl, rfl, _, rfl, _, rfl, D, _, _, dst W e, rfl, rfl, S.hD, ixN_nat (by rw [vints_length, slen]; exact dl), ?_⟩
            rw [vints_set]
            have hR2 : upd H2 D (.lst (vints (st.set (dst W e) (iAt st node + 1)))) R = some (.lst (nats rc)) := by
              rw [upd_ne S.dr.symm]
              exact S.hR
            refine ⟨_, rfl, .inl ⟨rfl, _, SqL.of hR2⟩, _, rfl, R, _, _, rfl, rfl, hR2, (by rw [nats_length]; exact small5 (by have := bfs_le S.b; omega)), ?_⟩
            rw [nats_snoc]
            obtain ⟨b1, b2, b3⟩ := bfs_add n.lvv S.b nin em c1 c2 hpl2
            refine ⟨_, _, _, _, rfl, ?_, ⟨Same.put (Same.put S.same S.fD) S.fR, S.fD, S.fR, S.dr, ?_, upd_same, b1⟩, fun j x hj hx' => ?_⟩
            · rw [List.getElem?_append_left (by obtain ⟨z, _⟩ := List.getElem?_eq_some_iff.mp hnode; exact z)]
              exact hnode
            · rw [upd_ne S.dr, upd_same]
            · by_cases q : j = i
              · subst q
                rw [he] at hx'
                cases hx'
                exact .inl b3
              · rcases hdone j x (by omega) hx' with z | z
                · exact .inl (b2 _ z)
                · exact .inr z
          · rw [decide_eq_true_eq] at c2
            refine ⟨st, rc, _, _, rfl, hnode, S, fun j x hj hx' => ?_⟩
            by_cases q : j = i
            · subst q
              rw [he] at hx'
              cases hx'
              exact .inr (by omega)
            · exact hdone j x (by omega) hx'
        · rw [decide_eq_true_eq] at c1
          refine iteF ⟨st, rc, _, _, rfl, hnode, S, fun j x hj hx' => ?_⟩
          by_cases q : j = i
          · subst q
            rw [he] at hx'
            cases hx'
            exact .inl (by omega)
          · exact hdone j x (by omega) hx'
      · obtain ⟨st, rc, v6, v7, rfl, hnode, S, hdone⟩ := q
        -- place += 1
        refine ⟨_, rfl, _, _, rfl, rfl, N - (pl + 1), by omega, st, rc, pl + 1, _, v6, v7, rfl, rfl, ?_, ⟨S.same, S.fD, S.fR, S.dr, S.hD, S.hR, bfs_next S.b hnode fun e he => ?_⟩⟩
        · obtain ⟨z, _⟩ := List.getElem?_eq_some_iff.mp hnode
          exact z
        · obtain ⟨j, hj, ej⟩ := List.getElem_of_mem he
          exact hdone j e (by rw [nats_length]; exact hj) (by rw [List.getElem?_eq_getElem hj, ej])
    · refine iteN (by rw [decide_eq_true_eq]; omega) ?_
      have e0 : pl = rc.length := by omega
      subst e0
      refine ⟨_, rfl, k H1 st D S.same S.fD S.hD (bfs_done n.lvv S.b)⟩
end
end Mg

set_option Elab.async false
set_option linter.all false
set_option maxRecDepth 100000
set_option maxHeartbeats 2000000
namespace Mg
open PySem PySem.Spec PyProof.Rows L2
open PySem.W (Codec)
open Ks175 (Went Abs)
open MG MD MN
section
variable {P : Program} {w : World} {K : PySem.W.Frag} {mg : Str → Option Value} {base : Heap}
/-! ### send_along -/
def spAlong (C : Addr) : Sp := fun vs H Q _ => ∃ (p lA gA rA pa : Addr) (N : Nat) (W : List Way) (la : List Addr) (lv : List (List Nat)) (rm : List Int) (path : List Nat), vs = [.ref p, .ref pa] ∧ NtAt C H p lA gA rA N W la lv rm ∧ H pa = some (.lst (nats path)) ∧ pa ≠ rA ∧ path ≠ [] ∧ path.length < 100000 ∧ (∀ e, e ∈ path → e < 2 * W.length) ∧
  ∀ (H' : Hp) (d : Int), (∃ e, e ∈ path ∧ d = iAt rm e) → (∀ e, e ∈ path → d ≤ iAt rm e) → (∀ b o, H b = some o → b ≠ rA → H' b = some o) → H' rA = some (.lst (vints (pushAll d rm path))) → Q (.int d) H'
theorem sc_along : FnScope ["self", "path", "part", "way"] ["self", "path"] (defScope nAlong) := ⟨rfl, rfl, rfl, by decide +kernel, rfl, by decide +kernel, by decide +kernel⟩
theorem take_snoc {path : List Nat} {i e : Nat} (h : path[i]? = some e) : path.take (i + 1) = path.take i ++ [e] := by
  rw [List.take_succ, h]
  rfl
theorem pushAll_len {d : Int} : ∀ (p : List Nat) (rm : List Int), (pushAll d rm p).length = rm.length
  | [], rm => rfl
  | e :: p, rm => by
    show (pushAll d (pushL d rm e) p).length = _
    rw [pushAll_len p, pushL_len]
theorem ok_along {f C : Addr} {fd : FuncData} (F : Fun K "send_along" "Net.send_along" nAlong f fd) (T : TxN K mg C) : FnOk P w K mg base CX0 1 f fd ["self", "path"] (spAlong C) := by
  refine F.ok sc_along (fun vs H Q E h => ?_) (fun cdv A outer s H vs Q E hr h => ?_)
  · obtain ⟨p, lA, gA, rA, pa, N, W, la, lv, rm, path, rfl, _⟩ := h
    rfl
  · obtain ⟨p, lA, gA, rA, pa, N, W, la, lv, rm, path, rfl, n, hpa, npr, hne, hlen, hall, k⟩ := h
    obtain ⟨dx, hp⟩ := n.ins
    have rl := n.rl
    refine ⟨_, (pss_cons (ps_set (i := 2) sc_along.nd rfl (Or.inl rfl) (pe_callB (cr_min rfl) (by rfl) T.min boot_min (pa_cons (pe_lc (te := tOp (rIxL K) (tFld K (tVar 0) "rooms") (tVar 3)) rfl sc_along.nd (pi_list (pv 1)) (blkOk_by (own := [("way", 3)]) (by show blkC ["self", "path", "part", "way"] (defScope nAlong) _ _ = true; decide +kernel)) (fun _ _ _ _ _ => (pg_name (i := 3) sc_along.nd rfl (Or.inl rfl))) (fun _ _ _ _ _ => pts_nil) (fun _ _ _ _ _ => (pe_ix ix_list (pe_fld (pv 0) rfl) (pv 3) (fun _ _ => rfl)))) pa_nil)))
      (pss_cons (ps_for PassesOwn.never rfl (pi_list (pv 1)) (pg_name (i := 3) sc_along.nd rfl (Or.inl rfl))
        (pss_cons (ps_augS (pe_fld (pv 0) rfl) (pv 3) get_list (pv 2) ip_sub set_list)
        (pss_one (ps_augS (pe_fld (pv 0) rfl) (pe_op op_xor (pv 3) pe_int) get_list (pv 2) ip_add set_list))))
      (pss_one (ps_ret (pv 2))))), ?_⟩
    -- part = min([..])
    refine ⟨_, rfl, pa, rfl, ⟨_, SqL.of hpa⟩, fun D hD => lc_list (xs := nats path) (fun i H' => H' = upd H D (.lst (vints ((path.take i).map (iAt rm))))) rfl (fun i H' _ e' => ?_) (fun i x H' hx e' => ?_) (fun H' e' => ?_)⟩
    · subst e'
      exact SqL.of (by rw [upd_ne (ne_of_none hpa hD)]; exact hpa)
    · subst e'
      obtain ⟨e, he, rfl⟩ := nats_of hx
      have em : e ∈ path := List.mem_of_getElem? he
      have e2k := hall e em
      have il : i < path.length := (List.getElem?_eq_some_iff.mp he).1
      have hp' : upd H D (.lst (vints ((path.take i).map (iAt rm)))) p = some (.ins C dx (nf lA gA rA)) := by
        rw [upd_ne (ne_of_none hp hD)]
        exact hp
      have hr' : upd H D (.lst (vints ((path.take i).map (iAt rm)))) rA = some (.lst (vints rm)) := by
        rw [upd_ne (ne_of_none n.roo hD)]
        exact n.roo
      refine ⟨rfl, ?_⟩
      dsimp only [tYes]
      refine iteT ⟨_, rfl, p, C, dx, _, _, rfl, hp', T.cl, T.nR, nf_r lA gA rA, _, rfl, rA, _, _, _, rfl, rfl, SqL.of hr', atI_nat (vints_get (by omega)), _, upd_same, ?_, ?_⟩
      · rw [vints_length, List.length_map, List.length_take]
        exact small5 (by omega)
      · rw [upd_upd, vints_snoc, take_snoc he, List.map_append]
        all_goals rfl
    subst e'
    rw [nats_length, List.take_length]
    refine ⟨D, path.map (iAt rm), rfl, SqL.of upd_same, ?_, fun d hd1 hd2 => ?_⟩
    · rw [List.length_map]
      cases path with
      | nil => exact absurd rfl hne
      | cons => exact Nat.succ_pos _
    have d1 : ∃ e, e ∈ path ∧ d = iAt rm e := by
      obtain ⟨e, he, q⟩ := List.mem_map.mp hd1
      exact ⟨e, he, q.symm⟩
    have d2 : ∀ e, e ∈ path → d ≤ iAt rm e := fun e he => hd2 _ (List.mem_map.mpr ⟨e, he, rfl⟩)
    -- the loop
    have hpa1 : upd H D (.lst (vints (path.map (iAt rm)))) pa = some (.lst (nats path)) := by
      rw [upd_ne (ne_of_none hpa hD)]
      exact hpa
    refine ⟨_, rfl, pa, rfl, ⟨_, SqL.of hpa1⟩, for_list (xs := nats path) (fun i σ' H2 => ∃ v3 : Option V, σ' = [some (.ref p), some (.ref pa), some (.int d), v3] ∧ (∀ b o, H b = some o → b ≠ rA → H2 b = some o) ∧ H2 rA = some (.lst (vints (pushAll d rm (path.take i))))) ⟨none, rfl, fun b o hb _ => ?_, ?_⟩ (fun i σ' H2 _ q => ?_) (fun i x σ' H2 hx q => ?_) (fun σ' H2 q => ?_)⟩
    · rw [upd_ne (ne_of_none hb hD)]
      exact hb
    · rw [upd_ne (ne_of_none n.roo hD)]
      exact n.roo
    · obtain ⟨v3, rfl, q1, q2⟩ := q
      exact SqL.of (q1 _ _ hpa npr)
    · obtain ⟨v3, rfl, q1, q2⟩ := q
      obtain ⟨e, he, rfl⟩ := nats_of hx
      have e2k := hall e (List.mem_of_getElem? he)
      have t2k := tw_lt e2k
      have npR : p ≠ rA := ne_of hp n.roo (by intro z; cases z)
      have hp2 := q1 _ _ hp npR
      have ll : (pushAll d rm (path.take i)).length = 2 * W.length := by rw [pushAll_len, rl]
      -- self.rooms[way] -= part
      refine ⟨_, rfl, p, C, dx, _, _, rfl, hp2, T.cl, T.nR, nf_r lA gA rA, _, rfl, rA, _, _, _, rfl, rfl, SqL.of q2, atI_nat (vints_get (by omega)), _, rfl, _, _, rfl, rfl, rA, _, _, e, rfl, rfl, q2, ixN_nat (by rw [vints_length]; omega), ?_⟩
      dsimp only
      rw [vints_set]
      have hp3 : upd H2 rA (.lst (vints ((pushAll d rm (path.take i)).set e (iAt (pushAll d rm (path.take i)) e - d)))) p = some (.ins C dx (nf lA gA rA)) := by
        rw [upd_ne npR]
        exact hp2
      -- self.rooms[way ^ 1] += part
      refine ⟨_, rfl, p, C, dx, _, _, rfl, hp3, T.cl, T.nR, nf_r lA gA rA, _, rfl, _, _, rfl, rfl, rA, _, _, _, rfl, (congrArg V.int (xor_one e)), SqL.of upd_same, atI_nat (vints_get (by rw [List.length_set]; omega)), _, rfl, _, _, rfl, rfl, rA, _, _, tw e, rfl, (congrArg V.int (xor_one e)), upd_same, ixN_nat (by rw [vints_length, List.length_set]; omega), ?_⟩
      dsimp only
      rw [vints_set, upd_upd]
      refine ⟨_, rfl, fun b o hb nb => ?_, ?_⟩
      · rw [upd_ne nb]
        exact q1 b o hb nb
      · rw [upd_same, take_snoc he, pushAll_snoc]
        all_goals rfl
    · obtain ⟨v3, rfl, q1, q2⟩ := q
      rw [nats_length, List.take_length] at q2
      exact ⟨_, rfl, k H2 d d1 d2 q1 q2⟩
/-! ### with_room -/
def spRoom (C : Addr) : Sp := fun vs H Q _ => ∃ (p lA gA rA pa : Addr) (N : Nat) (W : List Way) (la : List Addr) (lv : List (List Nat)) (rm : List Int) (path : List Nat), vs = [.ref p, .ref pa] ∧ NtAt C H p lA gA rA N W la lv rm ∧ H pa = some (.lst (nats path)) ∧ path.length < 100000 ∧ (∀ e, e ∈ path → e < 2 * W.length) ∧
  ∀ (H' : Hp) (a : Addr) (q rest : List Nat), path = q ++ rest → (∀ e, e ∈ q → iAt rm e ≠ 0) → Same H H' → H a = none → H' a = some (.lst (nats q)) → Q (.ref a) H'
theorem sc_room : FnScope ["self", "path", "kept", "way"] ["self", "path"] (defScope nRoom) := ⟨rfl, rfl, rfl, by decide +kernel, rfl, by decide +kernel, by decide +kernel⟩
theorem ok_room {f C : Addr} {fd : FuncData} (F : Fun K "with_room" "Net.with_room" nRoom f fd) (T : TxN K mg C) : FnOk P w K mg base CX0 1 f fd ["self", "path"] (spRoom C) := by
  refine F.ok sc_room (fun vs H Q E h => ?_) (fun cdv A outer s H vs Q E hr h => ?_)
  · obtain ⟨p, lA, gA, rA, pa, N, W, la, lv, rm, path, rfl, _⟩ := h
    rfl
  · obtain ⟨p, lA, gA, rA, pa, N, W, la, lv, rm, path, rfl, n, hpa, hlen, hall, k⟩ := h
    obtain ⟨dx, hp⟩ := n.ins
    have rl := n.rl
    refine ⟨_, (pss_cons (ps_set (i := 2) sc_room.nd rfl (Or.inl rfl) (pe_lst pa_nil))
      (pss_cons (ps_for PassesOwn.never rfl (pi_list (pv 1)) (pg_name (i := 3) sc_room.nd rfl (Or.inl rfl))
        (pss_cons (ps_if (pt_cmpR op_eq (pe_ix ix_list (pe_fld (pv 0) rfl) (pv 3) (fun _ _ => rfl)) pe_int (nomark _))
          (pss_one (ps_ret (pv 2)))
          pss_nil)
        (pss_one (ps_expr (pe_bm PySem.F.plainAttrs_list PySem.F.slot_list_append PySem.F.type_list_append mt_append (pv 2) (pa_cons (pv 3) pa_nil))))))
      (pss_one (ps_ret (pv 2))))), ?_⟩
    refine ⟨Nat.zero_le _, fun D hD => ?_⟩
    have hpa1 : upd H D (.lst []) pa = some (.lst (nats path)) := by
      rw [upd_ne (ne_of_none hpa hD)]
      exact hpa
    refine ⟨_, rfl, pa, rfl, ⟨_, SqL.of hpa1⟩, for_list (xs := nats path) (fun i σ' H2 => ∃ v3 : Option V, σ' = [some (.ref p), some (.ref pa), some (.ref D), v3] ∧ Same H H2 ∧ H2 D = some (.lst (nats (path.take i))) ∧ ∀ e, e ∈ path.take i → iAt rm e ≠ 0) ⟨none, rfl, Same.new (Same.refl H) hD, ?_, fun e he => ?_⟩ (fun i σ' H2 _ q => ?_) (fun i x σ' H2 hx q => ?_) (fun σ' H2 q => ?_)⟩
    · rw [upd_same]
      all_goals rfl
    · rw [List.take_zero] at he
      cases he
    · obtain ⟨v3, rfl, q1, q2⟩ := q
      exact SqL.of (q1 _ _ hpa)
    · obtain ⟨v3, rfl, q1, q2, q3⟩ := q
      obtain ⟨e, he, rfl⟩ := nats_of hx
      have e2k := hall e (List.mem_of_getElem? he)
      have il : i < path.length := (List.getElem?_eq_some_iff.mp he).1
      refine ⟨_, rfl, p, C, dx, _, _, rfl, q1 _ _ hp, T.cl, T.nR, nf_r lA gA rA, _, rfl, rA, _, _, _, rfl, rfl, SqL.of (q1 _ _ n.roo), atI_nat (vints_get (by omega)), rfl, _, rfl, ite2 (fun c => ?_) (fun c => ?_)⟩
      · exact ⟨_, rfl, k H2 D (path.take i) (path.drop i) (List.take_append_drop i path).symm q3 q1 hD q2⟩
      · rw [v_int_eq, decide_eq_true_eq] at c
        refine ⟨_, rfl, .inl ⟨rfl, _, SqL.of q2⟩, _, rfl, D, _, _, rfl, rfl, q2, ?_, ?_⟩
        · rw [nats_length, List.length_take]
          exact small5 (by omega)
        · rw [nats_snoc]
          refine ⟨_, rfl, Same.put q1 hD, ?_, fun x hx' => ?_⟩
          · rw [upd_same, take_snoc he]
            all_goals rfl
          · rw [take_snoc he] at hx'
            rcases List.mem_append.mp hx' with z | z
            · exact q3 x z
            · rw [List.mem_singleton.mp z]
              exact c
    · obtain ⟨v3, rfl, q1, q2, q3⟩ := q
      rw [nats_length, List.take_length] at q2 q3
      exact ⟨_, rfl, k H2 D path [] (List.append_nil _).symm q3 q1 hD q2⟩
end
end Mg

set_option Elab.async false
set_option linter.all false
set_option maxRecDepth 100000
set_option maxHeartbeats 4000000
namespace Mg
open PySem PySem.Spec PyProof.Rows L2
open PySem.W (Codec)
open Ks175 (Went Abs)
open MG MD MN
section
variable {P : Program} {w : World} {K : PySem.W.Frag} {mg : Str → Option Value} {base : Heap}
def spShort (C : Addr) : Sp := fun vs H Q _ => ∃ (p lA gA rA sa : Addr) (N : Nat) (W : List Way) (la : List Addr) (lv : List (List Nat)) (rm st : List Int) (s t : Nat), vs = [.ref p, .int (s : Int), .int (t : Int), .ref sa] ∧ NtAt C H p lA gA rA N W la lv rm ∧ H sa = some (.lst (vints st)) ∧ sa ≠ rA ∧
  Even (2 * W.length) tw (capW W) (iAt rm) ∧ Steps N W t rm st ∧ s < N ∧ t < N ∧ s ≠ t ∧ 0 ≤ iAt st s ∧ N < 50000 ∧
  ∀ (H' : Hp) (rm' : List Int) (sent : Int), 1 ≤ sent → rm'.length = 2 * W.length → Even (2 * W.length) tw (capW W) (iAt rm') → (∀ v, out (2 * W.length) (src W) (iAt rm') v = out (2 * W.length) (src W) (iAt rm) v - (if v = s then sent else 0) + (if v = t then sent else 0)) →
    (∀ b o, H b = some o → b ≠ rA → H' b = some o) → H' rA = some (.lst (vints rm')) → Q (.int sent) H'
theorem sc_short : FnScope ["self", "source", "sink", "steps", "tried", "sent", "path", "node", "way"] ["self", "source", "sink", "steps"] (defScope nShort) := ⟨rfl, rfl, rfl, by decide +kernel, rfl, by decide +kernel, by decide +kernel⟩
/-- between two turns: the heap -/
structure Hold (H H' : Hp) (rA tA pa : Addr) (rm : List Int) (tr path : List Nat) : Prop where
  fr : ∀ b o, H b = some o → b ≠ rA → H' b = some o
  ft : H tA = none
  fp : H pa = none
  tp : tA ≠ pa
  hr : H' rA = some (.lst (vints rm))
  ht : H' tA = some (.lst (nats tr))
  hp : H' pa = some (.lst (nats path))
theorem nats_rep (i : Nat) : nats (List.replicate i 0) ++ [V.int 0] = nats (List.replicate (i + 1) 0) := by
  unfold nats
  rw [List.replicate_succ', List.map_append]
  rfl
theorem ok_short {f C fA fR : Addr} {fd fdA fdR : FuncData} (F : Fun K "send_shortest" "Net.send_shortest" nShort f fd) (T : TxN K mg C)
    (FA : Fun K "send_along" "Net.send_along" nAlong fA fdA) (bA : Binds K fdA ["self", "path"] []) (mA : Meth K C "send_along" fA)
    (FR : Fun K "with_room" "Net.with_room" nRoom fR fdR) (bR : Binds K fdR ["self", "path"] []) (mR : Meth K C "with_room" fR) : FnOk P w K mg base CX0 2 f fd ["self", "source", "sink", "steps"] (spShort C) := by
  have GA : FnOk P w K mg base CX0 1 fA fdA ["self", "path"] (spAlong C) := ok_along FA T
  have GR : FnOk P w K mg base CX0 1 fR fdR ["self", "path"] (spRoom C) := ok_room FR T
  refine F.ok sc_short (fun vs H Q E h => ?_) (fun cdv A outer sh H vs Q E hr h => ?_)
  · obtain ⟨p, lA, gA, rA, sa, N, W, la, lv, rm, st, s, t, rfl, _⟩ := h
    rfl
  · obtain ⟨p, lA, gA, rA, sa, N, W, la, lv, rm, st, s, t, rfl, n, hsa, nsr, ev, S, hs, ht, hst, h0, hN, k⟩ := h
    obtain ⟨dx, hp⟩ := n.ins
    have lal := n.lal
    have slen := S.len
    refine ⟨_, (pss_cons (ps_setLc (i := 4) rfl sc_short.nd rfl rfl (sw_true rfl rfl rfl (by decide +kernel)) (pi_list (pv 3)) (blkOk_by (own := [("node", 7)]) (by show blkC ["self", "source", "sink", "steps", "tried", "sent", "path", "node", "way"] (defScope nShort) _ _ = true; decide +kernel)) (fun _ _ _ _ _ => (pg_name (i := 7) sc_short.nd rfl (Or.inl rfl))) (fun _ _ _ _ _ => pts_nil) (fun _ _ _ _ _ => pe_int))
      (pss_cons (ps_set (i := 5) sc_short.nd rfl (Or.inl rfl) pe_int)
      (pss_cons (ps_set (i := 6) sc_short.nd rfl (Or.inl rfl) (pe_lst pa_nil))
      (pss_cons (ps_set (i := 7) sc_short.nd rfl (Or.inl rfl) (pv 1))
      (pss_cons (ps_while PassesOwn.never (pt_cmpR op_lt (pe_ix ix_list (pv 4) (pv 1) (fun _ _ => rfl)) (pe_callB call_len_seq (by rfl) T.len PySem.boot_len (pa_cons (pe_ix ix_list (pe_fld (pv 0) rfl) (pv 1) (fun _ _ => rfl)) pa_nil)) (nomark _))
        (pss_one (ps_if (pt_cmpR op_eq (pv 7) (pv 2) (nomark _))
          (pss_cons (ps_aug (i := 5) sc_short.nd rfl (Or.inl rfl) (pe_meth (pv 0) T.cl mA GA hr bA .nil pass0 (pa_cons (pv 6) pa_nil)) ip_add)
          (pss_cons (ps_set (i := 6) sc_short.nd rfl (Or.inl rfl) (pe_meth (pv 0) T.cl mR GR hr bR .nil pass0 (pa_cons (pv 6) pa_nil)))
          (pss_one (ps_set (i := 7) sc_short.nd rfl (Or.inl rfl) (pe_ifExp (pt_truth (pv 6) (fun _ => rfl)) (pe_ix ix_list (pe_fld (pv 0) rfl) (pe_ix ix_list (pv 6) (pe_un un_neg pe_int) (fun _ _ => rfl)) (fun _ _ => rfl)) (pv 1))))))
          (pss_one (ps_if (pt_cmpR op_eq (pe_ix ix_list (pv 4) (pv 7) (fun _ _ => rfl)) (pe_callB call_len_seq (by rfl) T.len PySem.boot_len (pa_cons (pe_ix ix_list (pe_fld (pv 0) rfl) (pv 7) (fun _ _ => rfl)) pa_nil)) (nomark _))
            (pss_cons (ps_set (i := 7) sc_short.nd rfl (Or.inl rfl) (pe_ix ix_list (pe_fld (pv 0) rfl) (pe_op op_xor (pe_bm0 PySem.F.plainAttrs_list PySem.F.slot_list_pop PySem.F.type_list_pop mt_pop (pv 6)) pe_int) (fun _ _ => rfl)))
            (pss_one (ps_augS (pv 4) (pv 7) get_list pe_int ip_add set_list)))
            (pss_cons (ps_set (i := 8) sc_short.nd rfl (Or.inl rfl) (pe_ix ix_list (pe_ix ix_list (pe_fld (pv 0) rfl) (pv 7) (fun _ _ => rfl)) (pe_ix ix_list (pv 4) (pv 7) (fun _ _ => rfl)) (fun _ _ => rfl)))
            (pss_one (ps_if (PW.pt (pw_and (pt_cmpR op_gt (pe_ix ix_list (pe_fld (pv 0) rfl) (pv 8) (fun _ _ => rfl)) pe_int (nomark _)) (pw_and1 (pt_cmpR op_eq (pe_ix ix_list (pv 3) (pe_ix ix_list (pe_fld (pv 0) rfl) (pv 8) (fun _ _ => rfl)) (fun _ _ => rfl)) (pe_op op_sub (pe_ix ix_list (pv 3) (pv 7) (fun _ _ => rfl)) pe_int) (nomark _)))))
              (pss_cons (ps_expr (pe_bm PySem.F.plainAttrs_list PySem.F.slot_list_append PySem.F.type_list_append mt_append (pv 6) (pa_cons (pv 8) pa_nil)))
              (pss_one (ps_set (i := 7) sc_short.nd rfl (Or.inl rfl) (pe_ix ix_list (pe_fld (pv 0) rfl) (pv 8) (fun _ _ => rfl)))))
              (pss_one (ps_augS (pv 4) (pv 7) get_list pe_int ip_add set_list))))))))))
      (pss_one (ps_ret (pv 5)))))))), ?_⟩
    -- tried = [0 ..]
    refine ⟨_, rfl, sa, rfl, ⟨_, SqL.of hsa⟩, fun D hD => lc_list (xs := vints st) (fun i H' => H' = upd H D (.lst (nats (List.replicate i 0)))) rfl (fun i H' _ e' => ?_) (fun i x H' hx e' => ?_) (fun H' e' => ?_)⟩
    · subst e'
      exact SqL.of (by rw [upd_ne (ne_of_none hsa hD)]; exact hsa)
    · subst e'
      refine ⟨rfl, ?_⟩
      dsimp only [tYes, tC]
      refine iteT ⟨_, upd_same, ?_, ?_⟩
      · have hi : i < N := by
          obtain ⟨z, _⟩ := List.getElem?_eq_some_iff.mp hx
          rw [vints_length] at z
          omega
        rw [nats_length, List.length_replicate]
        exact small5 (by omega)
      · rw [upd_upd, nats_rep]
    subst e'
    rw [vints_length, slen]
    -- sent = 0; path = []; node = source
    refine ⟨Nat.zero_le _, fun pa0 hpa0 => ?_⟩
    refine ⟨_, rfl, ?_⟩
    have dp : D ≠ pa0 := ne_of_none upd_same hpa0
    have fp0 : H pa0 = none := by
      rw [upd_ne dp.symm] at hpa0
      exact hpa0
    have hold0 : Hold H (upd (upd H D (.lst (nats (List.replicate N 0)))) pa0 (.lst [])) rA D pa0 rm (List.replicate N 0) [] := by
      refine ⟨fun b o hb _ => ?_, hD, fp0, dp, ?_, ?_, ?_⟩
      · rw [upd_ne (ne_of_none hb fp0), upd_ne (ne_of_none hb hD)]
        exact hb
      · rw [upd_ne (ne_of_none n.roo fp0), upd_ne (ne_of_none n.roo hD)]
        exact n.roo
      · rw [upd_ne dp, upd_same]
      · rw [upd_same]
        all_goals rfl
    refine ⟨fun m σ H' => ∃ (rm' : List Int) (tr : List Nat) (sent : Int) (path : List Nat) (node : Nat) (pa : Addr) (v8 : Option V), σ = [some (.ref p), some (.int (s : Int)), some (.int (t : Int)), some (.ref sa), some (.ref D), some (.int sent), some (.ref pa), some (.int (node : Int)), v8] ∧ m = mu N W lv st s rm' tr path ∧ Dfs N W lv st s t (out (2 * W.length) (src W) (iAt rm)) rm' tr sent path node ∧ Hold H H' rA D pa rm' tr path,
      ⟨_, rm, _, 0, [], s, pa0, none, rfl, rfl, dfs_start n.lvv n.rl ev S h0, hold0⟩, ?_⟩
    rintro m σ H1 ⟨rm1, tr, sent, path, node, pa, v8, rfl, rfl, d, ho⟩
    have n1 : NtAt C H1 p lA gA rA N W la lv rm1 := n.move ho.fr ho.hr d.rlen
    obtain ⟨dx1, hp1⟩ := n1.ins
    obtain ⟨aS, eS, hS⟩ := n1.addr hs
    have nl := chain_lt n.lvv hs d.chain
    obtain ⟨aN, eN, hNd⟩ := n1.addr nl
    have tl := d.tlen
    have rl1 := d.rlen
    have hsa1 := ho.fr _ _ hsa nsr
    have ntr : D ≠ rA := (ne_of_none n.roo ho.ft).symm
    have npr : pa ≠ rA := (ne_of_none n.roo ho.fp).symm
    have plen : path.length < 50000 := by
      have := dfs_len d
      have := S.top s hs
      omega
    have pall := chain_all d.chain
    refine ⟨_, rfl, _, rfl, D, _, _, _, rfl, rfl, SqL.of ho.ht, atI_nat (nats_get (by rw [tl]; exact hs)), _, rfl, p, C, dx1, _, _, rfl, hp1, T.cl, T.nL, nf_l lA gA rA, _, rfl, lA, _, _, _, rfl, rfl, SqL.of n1.lea, atI_nat (refs_at eS), aS, _, rfl, .inl (SqL.of hS), _, _, rfl, rfl, _, rfl, ?_⟩
    rw [nats_length]
    by_cases hlt : nAt tr s < (lAt lv s).length
    · refine iteP (by rw [decide_eq_true_eq]; exact Int.ofNat_lt.mpr hlt) ?_
      refine ⟨fun σ' H2 => ∃ m', m' < mu N W lv st s rm1 tr path ∧ ∃ (rm' : List Int) (tr : List Nat) (sent : Int) (path : List Nat) (node : Nat) (pa : Addr) (v8 : Option V), σ' = [some (.ref p), some (.int (s : Int)), some (.int (t : Int)), some (.ref sa), some (.ref D), some (.int sent), some (.ref pa), some (.int (node : Int)), v8] ∧ m' = mu N W lv st s rm' tr path ∧ Dfs N W lv st s t (out (2 * W.length) (src W) (iAt rm)) rm' tr sent path node ∧ Hold H H2 rA D pa rm' tr path,
        fun _ _ h => h, ?_⟩
      refine ⟨_, rfl, _, rfl, rfl, _, rfl, ite2 (fun c => ?_) (fun c => ?_)⟩
      · -- node == sink
        rw [v_int_eq, decide_eq_true_eq] at c
        have c : node = t := by omega
        have hne : path ≠ [] := fun z => by
          have ch := d.chain
          rw [z] at ch
          have := chain_nil ch
          omega
        refine ⟨_, rfl, _, rfl, p, dx1, _, rfl, hp1, nf_no _ _ _ (by decide +kernel) (by decide +kernel) (by decide +kernel), _, rfl, p, lA, gA, rA, pa, N, W, la, lv, rm1, path, rfl, n1, ho.hp, npr, hne, by omega, fun e he => (pall e he).1, fun H2 dd d1 d2 fr2 hr2 => ?_⟩
        refine ⟨_, _, rfl, rfl, ?_⟩
        have pl2 : (pushAll dd rm1 path).length = 2 * W.length := by rw [pushAll_len, rl1]
        have n2 : NtAt C H2 p lA gA rA N W la lv (pushAll dd rm1 path) := n1.move fr2 hr2 pl2
        obtain ⟨dx2, hp2⟩ := n2.ins
        have hpa2 := fr2 _ _ ho.hp npr
        refine ⟨_, rfl, p, dx2, _, rfl, hp2, nf_no _ _ _ (by decide +kernel) (by decide +kernel) (by decide +kernel), _, rfl, p, lA, gA, rA, pa, N, W, la, lv, _, path, rfl, n2, hpa2, by omega, fun e he => (pall e he).1, fun H3 a q rest e1 e2 same3 ha3 hq3 => ?_⟩
        have hd1 : 1 ≤ dd := by
          obtain ⟨e, he, z⟩ := d1
          have := (pall e he).2
          omega
        obtain ⟨u, du, hmu⟩ := dfs_send d hst c hd1 d2 e1 e2
        have haH1 : H1 a = none := by
          cases z : H1 a with
          | none => rfl
          | some o =>
            by_cases y : a = rA
            · rw [y, hr2] at ha3
              cases ha3
            · rw [fr2 a o z y] at ha3
              cases ha3
        have haH : H a = none := by
          cases z : H a with
          | none => rfl
          | some o =>
            by_cases y : a = rA
            · rw [y, ho.hr] at haH1
              cases haH1
            · rw [ho.fr a o z y] at haH1
              cases haH1
        have hold3 : Hold H H3 rA D a (pushAll dd rm1 path) tr q := by
          refine ⟨fun b o hb nb => same3 _ _ (fr2 _ _ (ho.fr b o hb nb) nb), ho.ft, haH, ne_of_none ho.ht haH1, same3 _ _ hr2, same3 _ _ (fr2 _ _ ho.ht ntr), hq3⟩
        have n3 := n2.keep same3
        obtain ⟨dx3, hp3⟩ := n3.ins
        refine ⟨_, rfl, !(nats q).isEmpty, .inl ⟨_, SqL.of hq3, rfl⟩, ?_⟩
        rcases List.eq_nil_or_concat q with rfl | ⟨q', e, rfl⟩
        · have := chain_nil du.chain
          subst this
          refine iteF ⟨_, rfl, _, hmu, _, _, _, _, _, a, _, rfl, rfl, du, hold3⟩
        · rw [List.concat_eq_append] at *
          obtain ⟨eu, _, e2k, _⟩ := chain_inv du.chain
          subst eu
          refine iteP (by rw [← nats_snoc]; cases nats q' <;> rfl) ?_
          refine ⟨_, rfl, p, C, dx3, _, _, rfl, hp3, T.cl, T.nG, nf_g lA gA rA, _, rfl, 1, rfl, a, _, _, _, rfl, rfl, SqL.of hq3, (by rw [← nats_snoc]; exact atI_last _ _), gA, _, _, _, rfl, rfl, SqL.of n3.goa, atI_nat (nats_at (gl_at W e e2k)), ?_⟩
          exact ⟨_, hmu, _, _, _, _, _, a, _, rfl, rfl, du, hold3⟩
      · rw [v_int_eq, decide_eq_true_eq] at c
        have c : node ≠ t := by omega
        refine ⟨_, rfl, _, rfl, D, _, _, _, rfl, rfl, SqL.of ho.ht, atI_nat (nats_get (by rw [tl]; exact nl)), _, rfl, p, C, dx1, _, _, rfl, hp1, T.cl, T.nL, nf_l lA gA rA, _, rfl, lA, _, _, _, rfl, rfl, SqL.of n1.lea, atI_nat (refs_at eN), aN, _, rfl, .inl (SqL.of hNd), rfl, _, rfl, ite2 (fun c2 => ?_) (fun c2 => ?_)⟩
        · -- all tried
          rw [v_int_eq, decide_eq_true_eq, nats_length] at c2
          have c2 : nAt tr node = (lAt lv node).length := Int.ofNat_inj.mp c2
          obtain ⟨q, e, rfl, e2k, sl, db, hmu⟩ := dfs_back n.lvv d hs S.z c c2 hlt
          have hpop : (nats (q ++ [e]))[(nats (q ++ [e])).length - 1]? = some (V.int (e : Int)) := by
            rw [← nats_snoc]
            simp
          have hdl : (nats (q ++ [e])).dropLast = nats q := by
            rw [← nats_snoc, List.dropLast_concat]
          have goa2 : upd H1 pa (.lst (nats q)) gA = some (.lst (nats (gl W))) := by
            rw [upd_ne (fun z => by have := ho.fr _ _ n.goa n.gr; rw [z] at n; exact absurd n.goa (by rw [ho.fp]; intro y; cases y))]
            exact n1.goa
          have tt2 : upd H1 pa (.lst (nats q)) D = some (.lst (nats tr)) := by
            rw [upd_ne ho.tp]
            exact ho.ht
          refine ⟨_, rfl, p, C, dx1, _, _, rfl, hp1, T.cl, T.nG, nf_g lA gA rA, _, rfl, .inl ⟨rfl, _, SqL.of ho.hp⟩, pa, _, _, rfl, rfl, ho.hp, hpop, ?_⟩
          rw [hdl]
          refine ⟨_, _, rfl, rfl, gA, _, _, _, rfl, (congrArg V.int (xor_one e)), SqL.of goa2, atI_nat (nats_at (gl_at W (tw e) (tw_lt e2k))), ?_⟩
          rw [dst_tw]
          refine ⟨_, rfl, _, rfl, D, _, _, _, rfl, rfl, SqL.of tt2, atI_nat (nats_get (by rw [tl]; exact sl)), _, _, rfl, rfl, D, _, _, src W e, rfl, rfl, tt2, ixN_nat (by rw [nats_length, tl]; exact sl), ?_⟩
          dsimp only
          refine ⟨_, hmu, _, _, _, q, _, pa, _, rfl, rfl, db, ⟨fun b o hb nb => ?_, ho.ft, ho.fp, ho.tp, ?_, ?_, ?_⟩⟩
          · rw [upd_ne (ne_of_none hb ho.ft), upd_ne (ne_of_none hb ho.fp)]
            exact ho.fr b o hb nb
          · rw [upd_ne ntr.symm, upd_ne npr.symm]
            exact ho.hr
          · rw [upd_same]
            exact congrArg (fun z => some (HO.lst z)) (nats_set tr (src W e) (nAt tr (src W e) + 1))
          · rw [upd_ne ho.tp.symm, upd_same]
        · rw [v_int_eq, decide_eq_true_eq, nats_length] at c2
          have tle := d.tle node nl
          have c3 : nAt tr node < (lAt lv node).length := by
            have : nAt tr node ≠ (lAt lv node).length := fun z => c2 (congrArg Int.ofNat z)
            omega
          obtain ⟨e, he⟩ : ∃ e, (lAt lv node)[nAt tr node]? = some e := ⟨_, List.getElem?_eq_getElem c3⟩
          obtain ⟨e2k, esrc⟩ := (n.lvv.mem node nl e).mp (List.mem_of_getElem? he)
          have dl := n.lvv.dst_lt e2k
          -- way = self.leaving[node][tried[node]]
          refine ⟨_, rfl, p, C, dx1, _, _, rfl, hp1, T.cl, T.nL, nf_l lA gA rA, _, rfl, lA, _, _, _, rfl, rfl, SqL.of n1.lea, atI_nat (refs_at eN), _, rfl, _, rfl, D, _, _, _, rfl, rfl, SqL.of ho.ht, atI_nat (nats_get (by rw [tl]; exact nl)), aN, _, _, _, rfl, rfl, SqL.of hNd, atI_nat (nats_at he), ?_⟩
          have skip : ¬ (0 < iAt rm1 e ∧ iAt st (dst W e) = iAt st node - 1) → ∃ m', m' < mu N W lv st s rm1 tr path ∧ ∃ (rm' : List Int) (tr' : List Nat) (sent' : Int) (path' : List Nat) (node' : Nat) (pa' : Addr) (v8 : Option V), ([some (.ref p), some (.int (s : Int)), some (.int (t : Int)), some (.ref sa), some (.ref D), some (.int sent), some (.ref pa), some (.int (node : Int)), some (.int (e : Int))] : L2.St) = [some (.ref p), some (.int (s : Int)), some (.int (t : Int)), some (.ref sa), some (.ref D), some (.int sent'), some (.ref pa'), some (.int (node' : Int)), v8] ∧ m' = mu N W lv st s rm' tr' path' ∧ Dfs N W lv st s t (out (2 * W.length) (src W) (iAt rm)) rm' tr' sent' path' node' ∧ Hold H (upd H1 D (.lst ((nats tr).set node (.int ((nAt tr node : Int) + 1))))) rA D pa' rm' tr' path' := fun hno => by
            obtain ⟨ds, hmu⟩ := dfs_skip n.lvv d hs he hno
            refine ⟨_, hmu, _, _, _, _, _, pa, _, rfl, rfl, ds, ⟨fun b o hb nb => ?_, ho.ft, ho.fp, ho.tp, ?_, ?_, ?_⟩⟩
            · rw [upd_ne (ne_of_none hb ho.ft)]
              exact ho.fr b o hb nb
            · rw [upd_ne ntr.symm]
              exact ho.hr
            · rw [upd_same]
              exact congrArg (fun z => some (HO.lst z)) (nats_set tr node (nAt tr node + 1))
            · rw [upd_ne ho.tp.symm]
              exact ho.hp
          refine ⟨_, rfl, p, C, dx1, _, _, rfl, hp1, T.cl, T.nR, nf_r lA gA rA, _, rfl, rA, _, _, _, rfl, rfl, SqL.of n1.roo, atI_nat (vints_get (by rw [rl1]; exact e2k)), _, _, rfl, rfl, _, rfl, ite2 (fun c4 => ?_) (fun c4 => ?_)⟩
          · rw [decide_eq_true_eq] at c4
            refine ⟨_, rfl, _, rfl, p, C, dx1, _, _, rfl, hp1, T.cl, T.nG, nf_g lA gA rA, _, rfl, gA, _, _, _, rfl, rfl, SqL.of n1.goa, atI_nat (nats_at (gl_at W e e2k)), sa, _, _, _, rfl, rfl, SqL.of hsa1, atI_nat (vints_get (by rw [slen]; exact dl)), _, rfl, _, rfl, sa, _, _, _, rfl, rfl, SqL.of hsa1, atI_nat (vints_get (by rw [slen]; exact nl)), _, _, rfl, rfl, rfl, _, rfl, ite2 (fun c5 => ?_) (fun c5 => ?_)⟩
            · rw [v_int_eq, decide_eq_true_eq] at c5
              obtain ⟨dn, hmu⟩ := dfs_on n.lvv d hs S.z c he c4 c5
              refine ⟨_, rfl, .inl ⟨rfl, _, SqL.of ho.hp⟩, _, rfl, pa, _, _, rfl, rfl, ho.hp, (by rw [nats_length]; exact small5 (by omega)), ?_⟩
              rw [nats_snoc]
              have nppa : p ≠ pa := ne_of hp1 ho.hp (by intro z; cases z)
              have hp4 : upd H1 pa (.lst (nats (path ++ [e]))) p = some (.ins C dx1 (nf lA gA rA)) := by
                rw [upd_ne nppa]
                exact hp1
              have ngp : gA ≠ pa := ne_of_none n.goa ho.fp
              have goa4 : upd H1 pa (.lst (nats (path ++ [e]))) gA = some (.lst (nats (gl W))) := by
                rw [upd_ne ngp]
                exact n1.goa
              refine ⟨_, rfl, p, C, dx1, _, _, rfl, hp4, T.cl, T.nG, nf_g lA gA rA, _, rfl, gA, _, _, _, rfl, rfl, SqL.of goa4, atI_nat (nats_at (gl_at W e e2k)), ?_⟩
              refine ⟨_, hmu, _, _, _, _, _, pa, _, rfl, rfl, dn, ⟨fun b o hb nb => ?_, ho.ft, ho.fp, ho.tp, ?_, ?_, upd_same⟩⟩
              · rw [upd_ne (ne_of_none hb ho.fp)]
                exact ho.fr b o hb nb
              · rw [upd_ne npr.symm]
                exact ho.hr
              · rw [upd_ne ho.tp]
                exact ho.ht
            · rw [v_int_eq, decide_eq_true_eq] at c5
              refine ⟨_, rfl, _, rfl, D, _, _, _, rfl, rfl, SqL.of ho.ht, atI_nat (nats_get (by rw [tl]; exact nl)), _, _, rfl, rfl, D, _, _, node, rfl, rfl, ho.ht, ixN_nat (by rw [nats_length, tl]; exact nl), ?_⟩
              exact skip fun z => c5 z.2
          · rw [decide_eq_true_eq] at c4
            refine iteF ⟨_, rfl, _, rfl, D, _, _, _, rfl, rfl, SqL.of ho.ht, atI_nat (nats_get (by rw [tl]; exact nl)), _, _, rfl, rfl, D, _, _, node, rfl, rfl, ho.ht, ixN_nat (by rw [nats_length, tl]; exact nl), ?_⟩
            exact skip fun z => c4 z.1
    · refine iteN (by rw [decide_eq_true_eq]; exact fun z => hlt (Int.ofNat_lt.mp z)) ?_
      exact ⟨_, rfl, k H1 rm1 sent (dfs_end d hs S.z hst h0 hlt) rl1 d.even d.outs ho.fr ho.hr⟩
end
end Mg

set_option Elab.async false
set_option linter.all false
set_option maxRecDepth 100000
set_option maxHeartbeats 4000000
namespace Mg
open PySem PySem.Spec PyProof.Rows L2
open PySem.W (Codec)
open Ks175 (Went Abs)
open MG MD MN
section
variable {P : Program} {w : World} {K : PySem.W.Frag} {mg : Str → Option Value} {base : Heap}
def spAll (C : Addr) : Sp := fun vs H Q _ => ∃ (p lA gA rA : Addr) (N : Nat) (W : List Way) (la : List Addr) (lv : List (List Nat)) (s t : Nat), vs = [.ref p, .int (s : Int), .int (t : Int)] ∧ NtAt C H p lA gA rA N W la lv (rl W) ∧ s < N ∧ t < N ∧ s ≠ t ∧ N < 50000 ∧
  ∀ (H' : Hp) (rm' : List Int) (F : Int) (R : Nat → Bool), Max W s t (iAt rm') F R → (∀ b o, H b = some o → b ≠ rA → H' b = some o) → Q (.int F) H'
theorem sc_all : FnScope ["self", "source", "sink", "sent", "steps"] ["self", "source", "sink"] (defScope nAll) := ⟨rfl, rfl, rfl, by decide +kernel, rfl, by decide +kernel, by decide +kernel⟩
structure Sent (H H' : Hp) (N : Nat) (W : List Way) (s t : Nat) (rA sa : Addr) (rm st : List Int) (sent : Int) : Prop where
  rl : rm.length = 2 * W.length
  ev : Even (2 * W.length) tw (capW W) (iAt rm)
  outs : ∀ v, out (2 * W.length) (src W) (iAt rm) v = out (2 * W.length) (src W) (capW W) v - (if v = s then sent else 0) + (if v = t then sent else 0)
  fr : ∀ b o, H b = some o → b ≠ rA → H' b = some o
  hr : H' rA = some (.lst (vints rm))
  hs : H' sa = some (.lst (vints st))
  sr : sa ≠ rA
  st : Steps N W t rm st
theorem ok_all {f C fS fT : Addr} {fd fdS fdT : FuncData} (F : Fun K "send_all" "Net.send_all" nAll f fd) (T : TxN K mg C)
    (FS : Fun K "steps_to" "Net.steps_to" nSteps fS fdS) (bS : Binds K fdS ["self", "sink"] []) (mS : Meth K C "steps_to" fS)
    (GT : FnOk P w K mg base CX0 2 fT fdT ["self", "source", "sink", "steps"] (spShort C)) (bT : Binds K fdT ["self", "source", "sink", "steps"] []) (mT : Meth K C "send_shortest" fT) : FnOk P w K mg base CX0 3 f fd ["self", "source", "sink"] (spAll C) := by
  have GS : FnOk P w K mg base CX0 1 fS fdS ["self", "sink"] (spSteps C) := ok_steps FS T
  refine F.ok sc_all (fun vs H Q E h => ?_) (fun cdv A outer sh H vs Q E hr h => ?_)
  · obtain ⟨p, lA, gA, rA, N, W, la, lv, s, t, rfl, _⟩ := h
    rfl
  · obtain ⟨p, lA, gA, rA, N, W, la, lv, s, t, rfl, n, hs, ht, hst, hN, k⟩ := h
    obtain ⟨dx, hp⟩ := n.ins
    have hr1 : Room 1 _ := hr.mono (by decide)
    refine ⟨_, (pss_cons (ps_set (i := 3) sc_all.nd rfl (Or.inl rfl) pe_int)
      (pss_cons (ps_set (i := 4) sc_all.nd rfl (Or.inl rfl) (pe_meth (pv 0) T.cl mS GS hr1 bS .nil pass0 (pa_cons (pv 2) pa_nil)))
      (pss_cons (ps_while PassesOwn.never (pt_cmpR op_ge (pe_ix ix_list (pv 4) (pv 1) (fun _ _ => rfl)) pe_int (nomark _))
        (pss_cons (ps_aug (i := 3) sc_all.nd rfl (Or.inl rfl) (pe_meth (pv 0) T.cl mT GT hr bT .nil pass0 (pa_cons (pv 1) (pa_cons (pv 2) (pa_cons (pv 4) pa_nil)))) ip_add)
        (pss_one (ps_set (i := 4) sc_all.nd rfl (Or.inl rfl) (pe_meth (pv 0) T.cl mS GS hr1 bS .nil pass0 (pa_cons (pv 2) pa_nil))))))
      (pss_one (ps_ret (pv 3)))))), ?_⟩
    have no1 : (nf lA gA rA).lookup ("steps_to" : Str) = none := nf_no _ _ _ (by decide +kernel) (by decide +kernel) (by decide +kernel)
    have no2 : (nf lA gA rA).lookup ("send_shortest" : Str) = none := nf_no _ _ _ (by decide +kernel) (by decide +kernel) (by decide +kernel)
    refine ⟨_, rfl, p, dx, _, rfl, hp, no1, _, rfl, p, lA, gA, rA, N, W, la, lv, _, t, rfl, n, ht, by omega, fun H1 st1 a1 same1 f1 h1 S1 => ?_⟩
    have sent0 : Sent H H1 N W s t rA a1 (MD.rl W) st1 0 := by
      refine ⟨rl_len W, rl_even W, fun v => ?_, fun b o hb _ => same1 b o hb, same1 _ _ n.roo, h1, (ne_of_none n.roo f1).symm, S1⟩
      rw [rl_out]
      split <;> split <;> omega
    refine ⟨fun m σ H' => ∃ (rm st : List Int) (sent : Int) (sa : Addr), σ = [some (.ref p), some (.int (s : Int)), some (.int (t : Int)), some (.int sent), some (.ref sa)] ∧ m = (out (2 * W.length) (src W) (iAt rm) s).toNat ∧ Sent H H' N W s t rA sa rm st sent,
      ⟨_, _, st1, 0, a1, rfl, rfl, sent0⟩, ?_⟩
    rintro m σ H2 ⟨rm, st, sent, sa, rfl, rfl, Z⟩
    have slen := Z.st.len
    have n2 : NtAt C H2 p lA gA rA N W la lv rm := n.move Z.fr Z.hr Z.rl
    obtain ⟨dx2, hp2⟩ := n2.ins
    refine ⟨_, rfl, _, rfl, sa, _, _, _, rfl, rfl, SqL.of Z.hs, atI_nat (vints_get (by rw [slen]; exact hs)), _, _, rfl, rfl, _, rfl, ite2 (fun c => ?_) (fun c => ?_)⟩
    · rw [decide_eq_true_eq] at c
      refine ⟨fun σ' H' => ∃ m', m' < (out (2 * W.length) (src W) (iAt rm) s).toNat ∧ ∃ (rm st : List Int) (sent : Int) (sa : Addr), σ' = [some (.ref p), some (.int (s : Int)), some (.int (t : Int)), some (.int sent), some (.ref sa)] ∧ m' = (out (2 * W.length) (src W) (iAt rm) s).toNat ∧ Sent H H' N W s t rA sa rm st sent,
        fun _ _ h => h, ?_⟩
      refine ⟨_, rfl, _, rfl, p, dx2, _, rfl, hp2, no2, _, rfl, _, rfl, _, rfl, p, lA, gA, rA, sa, N, W, la, lv, rm, st, s, t, rfl, n2, Z.hs, Z.sr, Z.ev, Z.st, hs, ht, hst, c, hN, fun H3 rm3 sent3 h1 rl3 ev3 out3 fr3 hr3 => ?_⟩
      refine ⟨_, _, rfl, rfl, ?_⟩
      have n3 : NtAt C H3 p lA gA rA N W la lv rm3 := n2.move fr3 hr3 rl3
      obtain ⟨dx3, hp3⟩ := n3.ins
      refine ⟨_, rfl, p, dx3, _, rfl, hp3, no1, _, rfl, p, lA, gA, rA, N, W, la, lv, _, t, rfl, n3, ht, by omega, fun H4 st4 a4 same4 f4 h4 S4 => ?_⟩
      have o3 := out3 s
      rw [if_pos rfl, if_neg hst] at o3
      have p3 := out_pos ev3 s
      refine ⟨(out (2 * W.length) (src W) (iAt rm3) s).toNat, by omega, rm3, st4, sent + sent3, a4, rfl, rfl, ⟨rl3, ev3, fun v => ?_, fun b o hb nb => same4 _ _ (fr3 _ _ (Z.fr b o hb nb) nb), same4 _ _ hr3, h4, (ne_of_none hr3 f4).symm, S4⟩⟩
      rw [out3 v, Z.outs v]
      by_cases c1 : v = s
      · by_cases c2 : v = t
        · omega
        · rw [if_pos c1, if_neg c2, if_pos c1, if_neg c2, if_pos c1, if_neg c2]
          omega
      · by_cases c2 : v = t
        · rw [if_neg c1, if_pos c2, if_neg c1, if_pos c2, if_neg c1, if_pos c2]
          omega
        · rw [if_neg c1, if_neg c2, if_neg c1, if_neg c2, if_neg c1, if_neg c2]
          omega
    · rw [decide_eq_true_eq] at c
      exact ⟨_, rfl, k H2 rm sent _ (max_end Z.rl Z.ev Z.st Z.outs c) Z.fr⟩
end
end Mg

set_option Elab.async false
set_option linter.all false
set_option maxRecDepth 100000
set_option maxHeartbeats 4000000
namespace Mg
open PySem PySem.Spec PyProof.Rows L2
open PySem.W (Codec)
open Ks175 (Went Abs)
open MG MD MN
abbrev lInit : Stmt := inClass (top 14) 0
abbrev lJoin : Stmt := inClass (top 14) 1
abbrev lPart : Stmt := inClass (top 14) 2
abbrev lMost : Stmt := inClass (top 14) 3
abbrev lLeast : Stmt := inClass (top 14) 4
abbrev lBrought : Stmt := inClass (top 14) 5
def lf (n lo hi w : Addr) : List (Str × V) := putF "ways" (.ref w) (putF "mosts" (.ref hi) (putF "leasts" (.ref lo) (putF "now" (.ref n) [])))
theorem s11 : ¬ ("now" : Str) = "leasts" := by decide +kernel
theorem s12 : ¬ ("now" : Str) = "mosts" := by decide +kernel
theorem s13 : ¬ ("now" : Str) = "ways" := by decide +kernel
theorem s14 : ¬ ("leasts" : Str) = "mosts" := by decide +kernel
theorem s15 : ¬ ("leasts" : Str) = "ways" := by decide +kernel
theorem s16 : ¬ ("mosts" : Str) = "ways" := by decide +kernel
theorem lf_n (n lo hi w : Addr) : (lf n lo hi w).lookup ("now" : Str) = some (.ref n) := by
  unfold lf
  rw [lookup_putF, if_neg s13, lookup_putF, if_neg s12, lookup_putF, if_neg s11, lookup_putF, if_pos rfl]
theorem lf_lo (n lo hi w : Addr) : (lf n lo hi w).lookup ("leasts" : Str) = some (.ref lo) := by
  unfold lf
  rw [lookup_putF, if_neg s15, lookup_putF, if_neg s14, lookup_putF, if_pos rfl]
theorem lf_hi (n lo hi w : Addr) : (lf n lo hi w).lookup ("mosts" : Str) = some (.ref hi) := by
  unfold lf
  rw [lookup_putF, if_neg s16, lookup_putF, if_pos rfl]
theorem lf_w (n lo hi w : Addr) : (lf n lo hi w).lookup ("ways" : Str) = some (.ref w) := by
  unfold lf
  rw [lookup_putF, if_pos rfl]
theorem lf_no (n lo hi w : Addr) {m : Str} (h1 : ¬ m = "now") (h2 : ¬ m = "leasts") (h3 : ¬ m = "mosts") (h4 : ¬ m = "ways") : (lf n lo hi w).lookup m = none := by
  unfold lf
  rw [lookup_putF, if_neg h4, lookup_putF, if_neg h3, lookup_putF, if_neg h2, lookup_putF, if_neg h1]
  all_goals rfl
structure TxL (K : PySem.W.Frag) (mg : Str → Option Value) (C : Addr) : Prop where
  cl : Cls K C
  nN : NoAttr K C "now"
  nLo : NoAttr K C "leasts"
  nHi : NoAttr K C "mosts"
  nW : NoAttr K C "ways"
  len : mg "len" = none
  range : mg "range" = none
  list : mg "list" = none
  sum : mg "sum" = none
  enumerate : mg "enumerate" = none
def wV (w : Way) : List V := [.int (w.1 : Int), .int (w.2.1 : Int), .int (w.2.2 : Int)]
/-- the Lots at q -/
structure LtAt (C : Addr) (H : Hp) (q nA loA hiA wA : Addr) (now los his : List Nat) (ws : List Way) (wa : List Addr) : Prop where
  ins : ∃ dx, H q = some (.ins C dx (lf nA loA hiA wA))
  hn : H nA = some (.lst (nats now))
  hlo : H loA = some (.lst (nats los))
  hhi : H hiA = some (.lst (nats his))
  hw : H wA = some (.lst (wa.map V.ref))
  wl : wa.length = ws.length
  each : ∀ (i : Nat) (a : Addr), wa[i]? = some a → H a = some (.tup (wV (wAt ws i)))
  d1 : nA ≠ loA
  d2 : nA ≠ hiA
  d3 : nA ≠ wA
  d4 : loA ≠ hiA
  d5 : loA ≠ wA
  d6 : hiA ≠ wA
section
variable {P : Program} {w : World} {K : PySem.W.Frag} {mg : Str → Option Value} {base : Heap}
theorem LtAt.keep {C : Addr} {H H' : Hp} {q nA loA hiA wA : Addr} {now los his : List Nat} {ws : List Way} {wa : List Addr} (t : LtAt C H q nA loA hiA wA now los his ws wa) (k : Same H H') : LtAt C H' q nA loA hiA wA now los his ws wa := by
  obtain ⟨dx, hq⟩ := t.ins
  exact ⟨⟨dx, k _ _ hq⟩, k _ _ t.hn, k _ _ t.hlo, k _ _ t.hhi, k _ _ t.hw, t.wl, fun i a h => k _ _ (t.each i a h), t.d1, t.d2, t.d3, t.d4, t.d5, t.d6⟩
/-- an instance or a list apart from them is changed -/
theorem LtAt.put {C : Addr} {H : Hp} {q nA loA hiA wA b : Addr} {o : HO} {now los his : List Nat} {ws : List Way} {wa : List Addr} (t : LtAt C H q nA loA hiA wA now los his ws wa) (h0 : b ≠ q) (h1 : b ≠ nA) (h2 : b ≠ loA) (h3 : b ≠ hiA) (h4 : b ≠ wA) (h5 : ∀ xs, H b ≠ some (.tup xs)) : LtAt C (upd H b o) q nA loA hiA wA now los his ws wa := by
  obtain ⟨dx, hq⟩ := t.ins
  refine ⟨⟨dx, ?_⟩, ?_, ?_, ?_, ?_, t.wl, fun i a h => ?_, t.d1, t.d2, t.d3, t.d4, t.d5, t.d6⟩
  · rw [upd_ne h0.symm]
    exact hq
  · rw [upd_ne h1.symm]
    exact t.hn
  · rw [upd_ne h2.symm]
    exact t.hlo
  · rw [upd_ne h3.symm]
    exact t.hhi
  · rw [upd_ne h4.symm]
    exact t.hw
  · have e := t.each i a h
    rw [upd_ne (fun z => h5 _ (by rw [← z]; exact e))]
    exact e
/-! ### a new Lots -/
def spLots (C : Addr) : Sp := fun vs H Q _ => ∃ (q dx : Addr) (n : Nat), vs = [.ref q, .int (n : Int)] ∧ H q = some (.ins C dx []) ∧ n ≤ 32 ∧
  ∀ (H' : Hp) (nA loA hiA wA : Addr), H nA = none → H loA = none → H hiA = none → H wA = none → LtAt C H' q nA loA hiA wA (List.range n) (Ks175.none_ n) (Ks175.none_ n) [] [] → (∀ b o, H b = some o → b ≠ q → H' b = some o) → Q .non H'
theorem sc_lots : FnScope ["self", "tanks", "tank"] ["self", "tanks"] (defScope lInit) := ⟨rfl, rfl, rfl, by decide +kernel, rfl, by decide +kernel, by decide +kernel⟩
theorem back_none {H : Hp} {a b : Addr} {o : HO} (h : upd H a o b = none) (u : HO) (ha : H a = some u ∨ H a = none) : b ≠ a ∧ H b = none := by
  have ne : b ≠ a := fun z => by
    rw [z, upd_same] at h
    cases h
  rw [upd_ne ne] at h
  exact ⟨ne, h⟩
theorem upd_none {H : Hp} {a b : Addr} {o : HO} (h : upd H a o b = none) : b ≠ a ∧ H b = none := by
  have ne : b ≠ a := fun z => by
    rw [z, upd_same] at h
    cases h
  rw [upd_ne ne] at h
  exact ⟨ne, h⟩
theorem ok_lots {f C : Addr} {fd : FuncData} (F : Fun K "__init__" "Lots.__init__" lInit f fd) (T : TxL K mg C) : FnOk P w K mg base CX0 1 f fd ["self", "tanks"] (spLots C) := by
  refine F.ok sc_lots (fun vs H Q E h => ?_) (fun cdv A outer s H vs Q E hr h => ?_)
  · obtain ⟨q, dx, n, rfl, _⟩ := h
    rfl
  · obtain ⟨q, dx, n, rfl, hq, hn, k⟩ := h
    refine ⟨_, (pss_cons (ps_fld (pv 0) (pe_listRange rfl (by rfl) T.range (by rfl) T.list (pa_cons (pv 1) pa_nil)) rfl)
      (pss_cons (ps_fld (pv 0) (pe_lc rfl sc_lots.nd (pi_range1 rfl T.range (pa_cons (pv 1) pa_nil)) (blkOk_by (own := [("tank", 2)]) (by show blkC ["self", "tanks", "tank"] (defScope lInit) _ _ = true; decide +kernel)) (fun _ _ _ _ _ => (pg_name (i := 2) sc_lots.nd rfl (Or.inl rfl))) (fun _ _ _ _ _ => pts_nil) (fun _ _ _ _ _ => pe_int)) rfl)
      (pss_cons (ps_fld (pv 0) (pe_lc rfl sc_lots.nd (pi_range1 rfl T.range (pa_cons (pv 1) pa_nil)) (blkOk_by (own := [("tank", 2)]) (by show blkC ["self", "tanks", "tank"] (defScope lInit) _ _ = true; decide +kernel)) (fun _ _ _ _ _ => (pg_name (i := 2) sc_lots.nd rfl (Or.inl rfl))) (fun _ _ _ _ _ => pts_nil) (fun _ _ _ _ _ => pe_int)) rfl)
      (pss_one (ps_fld (pv 0) (pe_lst pa_nil) rfl))))), ?_⟩
    -- now
    refine ⟨_, rfl, n, rfl, by omega, fun nA hnA => ?_⟩
    have q1 : q ≠ nA := ne_of_none hq hnA
    refine ⟨_, rfl, q, C, dx, _, rfl, (by rw [upd_ne q1]; exact hq), T.cl, T.nN, (by show 0 < 1000; decide), ?_⟩
    -- leasts
    generalize hH1 : upd (upd H nA (.lst ((List.range n).map fun (k : Nat) => V.int (k : Int)))) q (.ins C dx (putF "now" (.ref nA) [])) = H1
    have hq1 : H1 q = some (.ins C dx (putF "now" (.ref nA) [])) := by rw [← hH1, upd_same]
    have hn1 : H1 nA = some (.lst (nats (List.range n))) := by
      rw [← hH1, upd_ne q1.symm, upd_same]
      all_goals rfl
    have k1 : ∀ b o, H b = some o → b ≠ q → H1 b = some o := fun b o hb nb => by
      rw [← hH1, upd_ne nb, upd_ne (ne_of_none hb hnA)]
      exact hb
    refine ⟨_, rfl, (n : Int), rfl, by omega, by omega, fun lo hlo => lc_range (lo := 0) (fun i H' => H' = upd H1 lo (.lst (nats (List.replicate i 0)))) rfl (fun i H' hi e' => ?_) (fun H' e' => ?_)⟩
    · subst e'
      refine ⟨rfl, ?_⟩
      dsimp only [tYes, tC]
      refine iteT ⟨_, upd_same, ?_, ?_⟩
      · rw [nats_length, List.length_replicate]
        exact small5 (by omega)
      · rw [upd_upd, nats_rep]
    have e' : H' = upd H1 lo (.lst (nats (List.replicate n 0))) := e'
    have q2 : q ≠ lo := ne_of_none hq1 hlo
    have a1 : nA ≠ lo := ne_of_none hn1 hlo
    refine ⟨_, rfl, q, C, dx, _, rfl, (by rw [e', upd_ne q2]; exact hq1), T.cl, T.nLo, (by show 1 < 1000; decide), ?_⟩
    generalize hH2 : upd H' q (.ins C dx (putF "leasts" (.ref lo) (putF "now" (.ref nA) []))) = H2
    rw [e'] at hH2
    have hq2 : H2 q = some (.ins C dx (putF "leasts" (.ref lo) (putF "now" (.ref nA) []))) := by rw [← hH2, upd_same]
    have hn2 : H2 nA = some (.lst (nats (List.range n))) := by rw [← hH2, upd_ne q1.symm, upd_ne a1, hn1]
    have hlo2 : H2 lo = some (.lst (nats (List.replicate n 0))) := by rw [← hH2, upd_ne q2.symm, upd_same]
    have k2 : ∀ b o, H b = some o → b ≠ q → H2 b = some o := fun b o hb nb => by
      rw [← hH2, upd_ne nb, upd_ne (ne_of_none (k1 b o hb nb) hlo)]
      exact k1 b o hb nb
    have none_of : ∀ {G : Hp} {b : Addr}, G b = none → b ≠ q → (∀ b o, H b = some o → b ≠ q → G b = some o) → H b = none := fun {G b} hb nb kk => by
      cases z : H b with
      | none => rfl
      | some o =>
        rw [kk b o z nb] at hb
        cases hb
    -- mosts
    refine ⟨_, rfl, (n : Int), rfl, by omega, by omega, fun hiA hhi => lc_range (lo := 0) (fun i H' => H' = upd H2 hiA (.lst (nats (List.replicate i 0)))) rfl (fun i H' hi e' => ?_) (fun H3' e3 => ?_)⟩
    · subst e'
      refine ⟨rfl, ?_⟩
      dsimp only [tYes, tC]
      refine iteT ⟨_, upd_same, ?_, ?_⟩
      · rw [nats_length, List.length_replicate]
        exact small5 (by omega)
      · rw [upd_upd, nats_rep]
    have e3 : H3' = upd H2 hiA (.lst (nats (List.replicate n 0))) := e3
    have q3 : q ≠ hiA := ne_of_none hq2 hhi
    have a2 : nA ≠ hiA := ne_of_none hn2 hhi
    have a3 : lo ≠ hiA := ne_of_none hlo2 hhi
    refine ⟨_, rfl, q, C, dx, _, rfl, (by rw [e3, upd_ne q3]; exact hq2), T.cl, T.nHi, (by show 2 < 1000; decide), ?_⟩
    generalize hH3 : upd H3' q (.ins C dx (putF "mosts" (.ref hiA) (putF "leasts" (.ref lo) (putF "now" (.ref nA) [])))) = H3
    rw [e3] at hH3
    have hq3 : H3 q = some (.ins C dx (putF "mosts" (.ref hiA) (putF "leasts" (.ref lo) (putF "now" (.ref nA) [])))) := by rw [← hH3, upd_same]
    have hn3 : H3 nA = some (.lst (nats (List.range n))) := by rw [← hH3, upd_ne q1.symm, upd_ne a2, hn2]
    have hlo3 : H3 lo = some (.lst (nats (List.replicate n 0))) := by rw [← hH3, upd_ne q2.symm, upd_ne a3, hlo2]
    have hhi3 : H3 hiA = some (.lst (nats (List.replicate n 0))) := by rw [← hH3, upd_ne q3.symm, upd_same]
    have k3 : ∀ b o, H b = some o → b ≠ q → H3 b = some o := fun b o hb nb => by
      rw [← hH3, upd_ne nb, upd_ne (ne_of_none (k2 b o hb nb) hhi)]
      exact k2 b o hb nb
    -- ways
    refine ⟨Nat.zero_le _, fun wA hwA => ?_⟩
    have q4 : q ≠ wA := ne_of_none hq3 hwA
    have a4 : nA ≠ wA := ne_of_none hn3 hwA
    have a5 : lo ≠ wA := ne_of_none hlo3 hwA
    have a6 : hiA ≠ wA := ne_of_none hhi3 hwA
    refine ⟨_, rfl, q, C, dx, _, rfl, (by rw [upd_ne q4]; exact hq3), T.cl, T.nW, (by show 3 < 1000; decide), ?_⟩
    refine k _ nA lo hiA wA hnA (none_of hlo q2.symm k1) (none_of hhi q3.symm k2) (none_of hwA q4.symm k3) ⟨⟨dx, upd_same⟩, ?_, ?_, ?_, ?_, rfl, fun i a h => (by cases h), a1, a2, a4, a3, a5, a6⟩ fun b o hb nb => ?_
    · rw [upd_ne q1.symm, upd_ne a4]
      exact hn3
    · rw [upd_ne q2.symm, upd_ne a5]
      exact hlo3
    · rw [upd_ne q3.symm, upd_ne a6]
      exact hhi3
    · rw [upd_ne q4.symm, upd_same]
      all_goals rfl
    · rw [upd_ne nb, upd_ne (ne_of_none (k3 b o hb nb) hwA)]
      exact k3 b o hb nb
/-! ### join_lot -/
def spJoin (C : Addr) : Sp := fun vs H Q _ => ∃ (q nA loA hiA wA : Addr) (now los his : List Nat) (ws : List Way) (wa : List Addr) (t lo hi : Nat), vs = [.ref q, .int (t : Int), .int (lo : Int), .int (hi : Int)] ∧ LtAt C H q nA loA hiA wA now los his ws wa ∧ t < now.length ∧ now.getD t 0 < los.length ∧ now.getD t 0 < his.length ∧
  ∀ (H' : Hp), LtAt C H' q nA loA hiA wA now (Ks175.add los (now.getD t 0) lo) (Ks175.add his (now.getD t 0) hi) ws wa → (∀ b o, H b = some o → b ≠ loA → b ≠ hiA → H' b = some o) → Q .non H'
theorem sc_join : FnScope ["self", "tank", "least", "most"] ["self", "tank", "least", "most"] (defScope lJoin) := ⟨rfl, rfl, rfl, by decide +kernel, rfl, by decide +kernel, by decide +kernel⟩
theorem ok_join {f C : Addr} {fd : FuncData} (F : Fun K "join_lot" "Lots.join_lot" lJoin f fd) (T : TxL K mg C) : FnOk P w K mg base CX0 1 f fd ["self", "tank", "least", "most"] (spJoin C) := by
  refine F.ok sc_join (fun vs H Q E h => ?_) (fun cdv A outer s H vs Q E hr h => ?_)
  · obtain ⟨q, nA, loA, hiA, wA, now, los, his, ws, wa, t, lo, hi, rfl, _⟩ := h
    rfl
  · obtain ⟨q, nA, loA, hiA, wA, now, los, his, ws, wa, t, lo, hi, rfl, L, ht, hl, hh, k⟩ := h
    obtain ⟨dx, hq⟩ := L.ins
    refine ⟨_, (pss_cons (ps_augS (pe_fld (pv 0) rfl) (pe_ix ix_list (pe_fld (pv 0) rfl) (pv 1) (fun _ _ => rfl)) get_list (pv 2) ip_add set_list)
      (pss_one (ps_augS (pe_fld (pv 0) rfl) (pe_ix ix_list (pe_fld (pv 0) rfl) (pv 1) (fun _ _ => rfl)) get_list (pv 3) ip_add set_list))), ?_⟩
    refine ⟨_, rfl, q, C, dx, _, _, rfl, hq, T.cl, T.nLo, lf_lo nA loA hiA wA, _, rfl, q, C, dx, _, _, rfl, hq, T.cl, T.nN, lf_n nA loA hiA wA, _, rfl, nA, _, _, _, rfl, rfl, SqL.of L.hn, atI_nat (nats_get ht), loA, _, _, _, rfl, rfl, SqL.of L.hlo, atI_nat (nats_get hl), _, rfl, _, _, rfl, rfl, loA, _, _, now.getD t 0, rfl, rfl, L.hlo, ixN_nat (by rw [nats_length]; exact hl), ?_⟩
    dsimp only
    have e1 : (nats los).set (now.getD t 0) (V.int (((los.getD (now.getD t 0) 0 : Nat) : Int) + (lo : Int))) = nats (Ks175.add los (now.getD t 0) lo) := nats_set _ _ _
    rw [e1]
    have L1 : LtAt C (upd H loA (.lst (nats (Ks175.add los (now.getD t 0) lo)))) q nA loA hiA wA now (Ks175.add los (now.getD t 0) lo) his ws wa := by
      refine ⟨⟨dx, ?_⟩, ?_, upd_same, ?_, ?_, L.wl, fun i a h => ?_, L.d1, L.d2, L.d3, L.d4, L.d5, L.d6⟩
      · rw [upd_ne (ne_of hq L.hlo (by intro z; cases z))]
        exact hq
      · rw [upd_ne L.d1]
        exact L.hn
      · rw [upd_ne L.d4.symm]
        exact L.hhi
      · rw [upd_ne L.d5.symm]
        exact L.hw
      · rw [upd_ne (ne_of (L.each i a h) L.hlo (by intro z; cases z))]
        exact L.each i a h
    obtain ⟨dx1, hq1⟩ := L1.ins
    refine ⟨_, rfl, q, C, dx1, _, _, rfl, hq1, T.cl, T.nHi, lf_hi nA loA hiA wA, _, rfl, q, C, dx1, _, _, rfl, hq1, T.cl, T.nN, lf_n nA loA hiA wA, _, rfl, nA, _, _, _, rfl, rfl, SqL.of L1.hn, atI_nat (nats_get ht), hiA, _, _, _, rfl, rfl, SqL.of L1.hhi, atI_nat (nats_get hh), _, rfl, _, _, rfl, rfl, hiA, _, _, now.getD t 0, rfl, rfl, L1.hhi, ixN_nat (by rw [nats_length]; exact hh), ?_⟩
    dsimp only
    have e2 : (nats his).set (now.getD t 0) (V.int (((his.getD (now.getD t 0) 0 : Nat) : Int) + (hi : Int))) = nats (Ks175.add his (now.getD t 0) hi) := nats_set _ _ _
    rw [e2]
    refine k _ ⟨⟨dx1, ?_⟩, ?_, ?_, upd_same, ?_, L.wl, fun i a h => ?_, L.d1, L.d2, L.d3, L.d4, L.d5, L.d6⟩ fun b o hb n1 n2 => ?_
    · rw [upd_ne (ne_of hq1 L1.hhi (by intro z; cases z))]
      exact hq1
    · rw [upd_ne L.d2]
      exact L1.hn
    · rw [upd_ne L.d4]
      exact L1.hlo
    · rw [upd_ne L.d6.symm]
      exact L1.hw
    · rw [upd_ne (ne_of (L1.each i a h) L1.hhi (by intro z; cases z))]
      exact L1.each i a h
    · rw [upd_ne n2, upd_ne n1]
      exact hb
/-! ### part_lot -/
def spPart (C : Addr) : Sp := fun vs H Q _ => ∃ (q nA loA hiA wA : Addr) (now los his : List Nat) (ws : List Way) (wa : List Addr) (a b m r : Nat), vs = [.ref q, .int (a : Int), .int (b : Int), .int (m : Int), .int (r : Int)] ∧ LtAt C H q nA loA hiA wA now los his ws wa ∧ a < now.length ∧ b < now.length ∧ a ≠ b ∧ los.length < 50000 ∧ his.length < 50000 ∧ ws.length < 50000 ∧
  ∀ (H' : Hp) (wa' : List Addr), LtAt C H' q nA loA hiA wA (now.set a los.length) (los ++ [0]) (his ++ [0]) (ws ++ [(now.getD a 0, now.getD b 0, m), (now.getD a 0, los.length, r)]) wa' → (∀ x o, H x = some o → x ≠ nA → x ≠ loA → x ≠ hiA → x ≠ wA → H' x = some o) → Q .non H'
theorem sc_part : FnScope ["self", "source", "goal", "amount", "rest", "parted"] ["self", "source", "goal", "amount", "rest"] (defScope lPart) := ⟨rfl, rfl, rfl, by decide +kernel, rfl, by decide +kernel, by decide +kernel⟩
/-- a way more at the end of the ways -/
theorem LtAt.way {C : Addr} {H : Hp} {q nA loA hiA wA x : Addr} {now los his : List Nat} {ws : List Way} {wa : List Addr} {v : Way} (L : LtAt C H q nA loA hiA wA now los his ws wa) (hx : H x = none) :
    LtAt C (upd (upd H x (.tup (wV v))) wA (.lst ((wa ++ [x]).map V.ref))) q nA loA hiA wA now los his (ws ++ [v]) (wa ++ [x]) := by
  obtain ⟨dx, hq⟩ := L.ins
  have xw : x ≠ wA := (ne_of_none L.hw hx).symm
  have wl := L.wl
  refine ⟨⟨dx, ?_⟩, ?_, ?_, ?_, upd_same, by rw [List.length_append, List.length_append, wl]; rfl, fun i a h => ?_, L.d1, L.d2, L.d3, L.d4, L.d5, L.d6⟩
  · rw [upd_ne (ne_of hq L.hw (by intro z; cases z)), upd_ne (ne_of_none hq hx)]
    exact hq
  · rw [upd_ne L.d3, upd_ne (ne_of_none L.hn hx)]
    exact L.hn
  · rw [upd_ne L.d5, upd_ne (ne_of_none L.hlo hx)]
    exact L.hlo
  · rw [upd_ne L.d6, upd_ne (ne_of_none L.hhi hx)]
    exact L.hhi
  · by_cases c : i < wa.length
    · rw [List.getElem?_append_left c] at h
      have e := L.each i a h
      rw [wAt_left _ (by omega), upd_ne (ne_of e L.hw (by intro z; cases z)), upd_ne (ne_of_none e hx)]
      exact e
    · have il : i = wa.length := by
        obtain ⟨z, _⟩ := List.getElem?_eq_some_iff.mp h
        rw [List.length_append] at z
        simp at z
        omega
      subst il
      rw [List.getElem?_append_right (Nat.le_refl _), Nat.sub_self] at h
      cases h
      have := wAt_right ws [v] 0
      rw [Nat.add_zero] at this
      rw [wl, this, upd_ne xw, upd_same]
      all_goals rfl
theorem ok_part {f C : Addr} {fd : FuncData} (F : Fun K "part_lot" "Lots.part_lot" lPart f fd) (T : TxL K mg C) : FnOk P w K mg base CX0 1 f fd ["self", "source", "goal", "amount", "rest"] (spPart C) := by
  refine F.ok sc_part (fun vs H Q E h => ?_) (fun cdv A outer s H vs Q E hr h => ?_)
  · obtain ⟨q, nA, loA, hiA, wA, now, los, his, ws, wa, a, b, m, r, rfl, _⟩ := h
    rfl
  · obtain ⟨q, nA, loA, hiA, wA, now, los, his, ws, wa, a, b, m, r, rfl, L, ha, hb, ab, z1, z2, z3, k⟩ := h
    obtain ⟨dx, hq⟩ := L.ins
    have wl := L.wl
    refine ⟨_, (pss_cons (ps_set (i := 5) sc_part.nd rfl (Or.inl rfl) (pe_ix ix_list (pe_fld (pv 0) rfl) (pv 1) (fun _ _ => rfl)))
      (pss_cons (ps_asg (pe_callB call_len_seq (by rfl) T.len PySem.boot_len (pa_cons (pe_fld (pv 0) rfl) pa_nil)) (pg_sub (pe_fld (pv 0) rfl) (pv 1) set_list))
      (pss_cons (ps_expr (pe_bm PySem.F.plainAttrs_list PySem.F.slot_list_append PySem.F.type_list_append mt_append (pe_fld (pv 0) rfl) (pa_cons pe_int pa_nil)))
      (pss_cons (ps_expr (pe_bm PySem.F.plainAttrs_list PySem.F.slot_list_append PySem.F.type_list_append mt_append (pe_fld (pv 0) rfl) (pa_cons pe_int pa_nil)))
      (pss_cons (ps_expr (pe_bm PySem.F.plainAttrs_list PySem.F.slot_list_append PySem.F.type_list_append mt_append (pe_fld (pv 0) rfl) (pa_cons (pe_tup (pa_cons (pv 5) (pa_cons (pe_ix ix_list (pe_fld (pv 0) rfl) (pv 2) (fun _ _ => rfl)) (pa_cons (pv 3) pa_nil)))) pa_nil)))
      (pss_one (ps_expr (pe_bm PySem.F.plainAttrs_list PySem.F.slot_list_append PySem.F.type_list_append mt_append (pe_fld (pv 0) rfl) (pa_cons (pe_tup (pa_cons (pv 5) (pa_cons (pe_ix ix_list (pe_fld (pv 0) rfl) (pv 1) (fun _ _ => rfl)) (pa_cons (pv 4) pa_nil)))) pa_nil))))))))), ?_⟩
    -- parted = self.now[source]; self.now[source] = len(self.leasts)
    refine ⟨_, rfl, q, C, dx, _, _, rfl, hq, T.cl, T.nN, lf_n nA loA hiA wA, _, rfl, nA, _, _, _, rfl, rfl, SqL.of L.hn, atI_nat (nats_get ha), ?_⟩
    refine ⟨_, rfl, q, C, dx, _, _, rfl, hq, T.cl, T.nLo, lf_lo nA loA hiA wA, loA, _, rfl, .inl (SqL.of L.hlo), _, rfl, q, C, dx, _, _, rfl, hq, T.cl, T.nN, lf_n nA loA hiA wA, _, rfl, nA, _, _, a, rfl, rfl, L.hn, ixN_nat (by rw [nats_length]; exact ha), ?_⟩
    rw [nats_length, nats_set]
    have L1 : LtAt C (upd H nA (.lst (nats (now.set a los.length)))) q nA loA hiA wA (now.set a los.length) los his ws wa := by
      refine ⟨⟨dx, ?_⟩, upd_same, ?_, ?_, ?_, wl, fun i x h => ?_, L.d1, L.d2, L.d3, L.d4, L.d5, L.d6⟩
      · rw [upd_ne (ne_of hq L.hn (by intro z; cases z))]
        exact hq
      · rw [upd_ne L.d1.symm]
        exact L.hlo
      · rw [upd_ne L.d2.symm]
        exact L.hhi
      · rw [upd_ne L.d3.symm]
        exact L.hw
      · rw [upd_ne (ne_of (L.each i x h) L.hn (by intro z; cases z))]
        exact L.each i x h
    have f1 : ∀ x o, H x = some o → x ≠ nA → x ≠ loA → x ≠ hiA → x ≠ wA → upd H nA (.lst (nats (now.set a los.length))) x = some o := fun x o hx n1 _ _ _ => by
      rw [upd_ne n1]
      exact hx
    generalize upd H nA (.lst (nats (now.set a los.length))) = H1 at L1 f1 ⊢
    -- leasts.append(0)
    obtain ⟨dx1, hq1⟩ := L1.ins
    refine ⟨_, rfl, q, C, dx1, _, _, rfl, hq1, T.cl, T.nLo, lf_lo nA loA hiA wA, .inl ⟨rfl, _, SqL.of L1.hlo⟩, loA, _, _, rfl, rfl, L1.hlo, (by rw [nats_length]; exact small5 (by omega)), ?_⟩
    have L2 : LtAt C (upd H1 loA (.lst (nats los ++ [.int 0]))) q nA loA hiA wA (now.set a los.length) (los ++ [0]) his ws wa := by
      refine ⟨⟨dx1, ?_⟩, ?_, ?_, ?_, ?_, wl, fun i x h => ?_, L.d1, L.d2, L.d3, L.d4, L.d5, L.d6⟩
      · rw [upd_ne (ne_of hq1 L1.hlo (by intro z; cases z))]
        exact hq1
      · rw [upd_ne L.d1]
        exact L1.hn
      · rw [upd_same]
        exact congrArg (fun z => some (HO.lst z)) (nats_snoc los 0)
      · rw [upd_ne L.d4.symm]
        exact L1.hhi
      · rw [upd_ne L.d5.symm]
        exact L1.hw
      · rw [upd_ne (ne_of (L1.each i x h) L1.hlo (by intro z; cases z))]
        exact L1.each i x h
    have f2 : ∀ x o, H x = some o → x ≠ nA → x ≠ loA → x ≠ hiA → x ≠ wA → upd H1 loA (.lst (nats los ++ [.int 0])) x = some o := fun x o hx n1 n2 n3 n4 => by
      rw [upd_ne n2]
      exact f1 x o hx n1 n2 n3 n4
    generalize upd H1 loA (.lst (nats los ++ [.int 0])) = H2 at L2 f2 ⊢
    -- mosts.append(0)
    obtain ⟨dx2, hq2⟩ := L2.ins
    refine ⟨_, rfl, q, C, dx2, _, _, rfl, hq2, T.cl, T.nHi, lf_hi nA loA hiA wA, .inl ⟨rfl, _, SqL.of L2.hhi⟩, hiA, _, _, rfl, rfl, L2.hhi, (by rw [nats_length]; exact small5 (by omega)), ?_⟩
    have L3 : LtAt C (upd H2 hiA (.lst (nats his ++ [.int 0]))) q nA loA hiA wA (now.set a los.length) (los ++ [0]) (his ++ [0]) ws wa := by
      refine ⟨⟨dx2, ?_⟩, ?_, ?_, ?_, ?_, wl, fun i x h => ?_, L.d1, L.d2, L.d3, L.d4, L.d5, L.d6⟩
      · rw [upd_ne (ne_of hq2 L2.hhi (by intro z; cases z))]
        exact hq2
      · rw [upd_ne L.d2]
        exact L2.hn
      · rw [upd_ne L.d4]
        exact L2.hlo
      · rw [upd_same]
        exact congrArg (fun z => some (HO.lst z)) (nats_snoc his 0)
      · rw [upd_ne L.d6.symm]
        exact L2.hw
      · rw [upd_ne (ne_of (L2.each i x h) L2.hhi (by intro z; cases z))]
        exact L2.each i x h
    have f3 : ∀ x o, H x = some o → x ≠ nA → x ≠ loA → x ≠ hiA → x ≠ wA → upd H2 hiA (.lst (nats his ++ [.int 0])) x = some o := fun x o hx n1 n2 n3 n4 => by
      rw [upd_ne n3]
      exact f2 x o hx n1 n2 n3 n4
    generalize upd H2 hiA (.lst (nats his ++ [.int 0])) = H3 at L3 f3 ⊢
    have nb : (now.set a los.length).getD b 0 = now.getD b 0 := by
      rw [getD_set, if_neg (fun z => ab z.1.symm)]
    have na : (now.set a los.length).getD a 0 = los.length := by
      rw [getD_set, if_pos ⟨rfl, ha⟩]
    -- ways.append((parted, self.now[goal], amount))
    obtain ⟨dx3, hq3⟩ := L3.ins
    refine ⟨_, rfl, q, C, dx3, _, _, rfl, hq3, T.cl, T.nW, lf_w nA loA hiA wA, .inl ⟨rfl, _, SqL.of L3.hw⟩, _, rfl, _, rfl, q, C, dx3, _, _, rfl, hq3, T.cl, T.nN, lf_n nA loA hiA wA, _, rfl, nA, _, _, _, rfl, rfl, SqL.of L3.hn, atI_nat (nats_get (by rw [List.length_set]; exact hb)), _, rfl, (by show 3 ≤ sizeLine; decide), fun x hx => ?_⟩
    rw [nb]
    have xw : wA ≠ x := ne_of_none L3.hw hx
    refine ⟨wA, _, _, rfl, rfl, (by rw [upd_ne xw]; exact L3.hw), (by rw [List.length_map, wl]; exact small5 (by omega)), ?_⟩
    have L4 := L3.way (v := (now.getD a 0, now.getD b 0, m)) hx
    have f4 : ∀ y o, H y = some o → y ≠ nA → y ≠ loA → y ≠ hiA → y ≠ wA → upd (upd H3 x (.tup (wV (now.getD a 0, now.getD b 0, m)))) wA (.lst ((wa ++ [x]).map V.ref)) y = some o := fun y o hy n1 n2 n3 n4 => by
      rw [upd_ne n4, upd_ne (ne_of_none (f3 y o hy n1 n2 n3 n4) hx)]
      exact f3 y o hy n1 n2 n3 n4
    have e4 : upd (upd H3 x (.tup [.int ((now.getD a 0 : Nat) : Int), .int ((now.getD b 0 : Nat) : Int), .int (m : Int)])) wA (.lst (wa.map V.ref ++ [.ref x])) = upd (upd H3 x (.tup (wV (now.getD a 0, now.getD b 0, m)))) wA (.lst ((wa ++ [x]).map V.ref)) := by
      rw [List.map_append]
      rfl
    rw [e4]
    generalize upd (upd H3 x (.tup (wV (now.getD a 0, now.getD b 0, m)))) wA (.lst ((wa ++ [x]).map V.ref)) = H4 at L4 f4 ⊢
    -- ways.append((parted, self.now[source], rest))
    obtain ⟨dx4, hq4⟩ := L4.ins
    refine ⟨_, rfl, q, C, dx4, _, _, rfl, hq4, T.cl, T.nW, lf_w nA loA hiA wA, .inl ⟨rfl, _, SqL.of L4.hw⟩, _, rfl, _, rfl, q, C, dx4, _, _, rfl, hq4, T.cl, T.nN, lf_n nA loA hiA wA, _, rfl, nA, _, _, _, rfl, rfl, SqL.of L4.hn, atI_nat (nats_get (by rw [List.length_set]; exact ha)), _, rfl, (by show 3 ≤ sizeLine; decide), fun y hy => ?_⟩
    rw [na]
    have yw : wA ≠ y := ne_of_none L4.hw hy
    refine ⟨wA, _, _, rfl, rfl, (by rw [upd_ne yw]; exact L4.hw), (by rw [List.length_map, List.length_append, wl]; exact small5 (by simp; omega)), ?_⟩
    have L5 := L4.way (v := (now.getD a 0, los.length, r)) hy
    have ew : ws ++ [(now.getD a 0, now.getD b 0, m)] ++ [(now.getD a 0, los.length, r)] = ws ++ [(now.getD a 0, now.getD b 0, m), (now.getD a 0, los.length, r)] := by
      rw [List.append_assoc]
      rfl
    rw [ew] at L5
    have e5 : upd (upd H4 y (.tup [.int ((now.getD a 0 : Nat) : Int), .int ((los.length : Nat) : Int), .int (r : Int)])) wA (.lst ((wa ++ [x]).map V.ref ++ [.ref y])) = upd (upd H4 y (.tup (wV (now.getD a 0, los.length, r)))) wA (.lst (((wa ++ [x]) ++ [y]).map V.ref)) := by
      rw [List.map_append (l₁ := wa ++ [x])]
      rfl
    rw [e5]
    refine k _ _ L5 fun u o hu n1 n2 n3 n4 => ?_
    rw [upd_ne n4, upd_ne (ne_of_none (f4 u o hu n1 n2 n3 n4) hy)]
    exact f4 u o hu n1 n2 n3 n4
end
end Mg

set_option Elab.async false
set_option linter.all false
set_option maxRecDepth 100000
set_option maxHeartbeats 4000000
namespace L2
open PySem PySem.Spec PyProof.Rows
/-- over enumerate of a list that the body leaves as it is -/
theorem for_enum {K : PySem.W.Frag} {a : Addr} {xs : List V} {g : TG} {tb : TS} {D : Ends} {σ : St} {H : Hp} (Pv : Nat → St → Hp → Prop) (h0 : Pv 0 σ H) (hl : ∀ i σ H, i ≤ xs.length → Pv i σ H → SqL K H a xs)
    (hs : ∀ i x σ H T, xs[i]? = some x → Pv i σ H → H T = none → g (.ref T) σ (upd H T (.tup [.int ((i : Nat) : Int), x])) fun σ2 H2 => tb { D with nx := Pv (i + 1), ct := Pv (i + 1), bk := D.nx } σ2 H2) (hd : ∀ σ H, Pv xs.length σ H → D.nx σ H) :
    ∃ W : Nat → Nat → St → Hp → Prop, (∃ m, W 0 m σ H) ∧ ∀ i m σ H, W i m σ H →
      ((Ite K a).stop i H ∧ D.nx σ H) ∨ ((Ite K a).go i H ∧ ∃ N : St → Hp → Prop, (∀ σ' H', N σ' H' → ∃ m', m' < m ∧ W (i + 1) m' σ' H') ∧ ∀ x H', (Ite K a).yld i H x H' → g x σ H' fun σ2 H2 => tb { D with nx := N, ct := N, bk := D.nx } σ2 H2) := by
  refine ⟨fun i m σ H => m = xs.length - i ∧ i ≤ xs.length ∧ Pv i σ H, ⟨xs.length, by simp, Nat.zero_le _, h0⟩, ?_⟩
  rintro i m σ H ⟨rfl, hi, p⟩
  have q := hl i σ H hi p
  by_cases hlt : i < xs.length
  · refine .inr ⟨⟨xs, xs[i], q, by simp [hlt]⟩, Pv (i + 1), fun σ' H' p' => ⟨xs.length - (i + 1), by omega, rfl, hlt, p'⟩, fun x H' y => ?_⟩
    obtain ⟨T, v, e1, e2, e3, e4⟩ := y
    subst e1 e3
    exact hs i v σ H T (e4 xs q) p e2
  · have e : i = xs.length := by omega
    subst e
    exact .inl ⟨⟨xs, q, Nat.le_refl _⟩, hd σ H p⟩
end L2
namespace Mg
open PySem PySem.Spec PyProof.Rows L2
open PySem.W (Codec)
open Ks175 (Went Abs)
open MG MD MN
section
variable {P : Program} {w : World} {K : PySem.W.Frag} {mg : Str → Option Value} {base : Heap}
theorem sum_on : ∀ l : List Nat, (l.map fun (n : Nat) => (n : Int)).sum = ((onP l.length allT l : Nat) : Int) := snoc_ind rfl fun l e ih => by
  rw [List.map_append, List.sum_append, ih, List.length_append]
  have e1 : onP l.length allT (l ++ [e]) = onP l.length allT l := onP_congr fun t ht _ => by
    rw [List.getD_eq_getElem?_getD, List.getD_eq_getElem?_getD, List.getElem?_append_left ht]
  have e2 : (l ++ [e]).getD l.length 0 = e := by simp
  have e3 : onP (l.length + 1) allT (l ++ [e]) = onP l.length allT (l ++ [e]) + (if allT l.length = true then (l ++ [e]).getD l.length 0 else 0) := rfl
  show _ = ((onP (l.length + 1) allT (l ++ [e]) : Nat) : Int)
  rw [e3, e1, e2]
  simp [allT]
def spBrought (C : Addr) : Sp := fun vs H Q _ => ∃ (q nA loA hiA wA ma ta : Addr) (n : Nat) (now los his mk tanks : List Nat) (ws : List Way) (wa : List Addr), vs = [.ref q, .ref ma, .ref ta] ∧ LtAt C H q nA loA hiA wA now los his ws wa ∧ H ma = some (.lst (nats mk)) ∧ H ta = some (.lst (nats tanks)) ∧ LInv n now mk ws ∧ (∀ t, t ∈ tanks → t < n) ∧ mk.length < 1000 ∧ ws.length < 1000 ∧ tanks.length < 1000 ∧
  ∀ (H' : Hp) (r : Nat → Int) (F : Int) (R : Nat → Bool), Max (wAll mk now ws tanks) mk.length (mk.length + 1) r F R → Same H H' → Q (.int F) H'
theorem sc_brought : FnScope ["self", "marked", "tanks", "source", "sink", "net", "lot", "grains", "parted", "joined", "room", "tank"] ["self", "marked", "tanks"] (defScope lBrought) := ⟨rfl, rfl, rfl, by decide +kernel, rfl, by decide +kernel, by decide +kernel⟩
/-- the Net as far as it is made -/
structure Made (CN : Addr) (H H' : Hp) (p lA gA rA : Addr) (N : Nat) (W : List Way) (la : List Addr) : Prop where
  net : ∃ lv, NtAt CN H' p lA gA rA N W la lv (rl W) ∧ ∀ v, (lAt lv v).length ≤ 2 * W.length
  same : Same H H'
  fg : H gA = none
  fr : H rA = none
  fl : ∀ a, a ∈ la → H a = none
theorem Made.new {CN : Addr} {H H' : Hp} {p lA gA rA T : Addr} {N : Nat} {W : List Way} {la : List Addr} {o : HO} (M : Made CN H H' p lA gA rA N W la) (h : H' T = none) : Made CN H (upd H' T o) p lA gA rA N W la := by
  obtain ⟨lv, n, hl⟩ := M.net
  exact ⟨⟨lv, n.keep (Same.new (Same.refl H') h), hl⟩, Same.new M.same h, M.fg, M.fr, M.fl⟩
theorem Made.go {CN : Addr} {H H' H2 : Hp} {p lA gA rA : Addr} {N : Nat} {W W' : List Way} {la : List Addr} {lv' : List (List Nat)} (M : Made CN H H' p lA gA rA N W la) (n : NtAt CN H2 p lA gA rA N W' la lv' (rl W')) (hl : ∀ v, (lAt lv' v).length ≤ 2 * W'.length)
    (k : ∀ x o, H' x = some o → x ≠ gA → x ≠ rA → x ∉ la → H2 x = some o) : Made CN H H2 p lA gA rA N W' la :=
  ⟨⟨lv', n, hl⟩, fun b o hb => k b o (M.same b o hb) (ne_of_none hb M.fg) (ne_of_none hb M.fr) (fun z => by rw [M.fl b z] at hb; cases hb), M.fg, M.fr, M.fl⟩
theorem wtake {ws : List Way} {i : Nat} (h : i < ws.length) : ws.take (i + 1) = ws.take i ++ [wAt ws i] := by
  unfold wAt
  rw [List.take_succ, List.getD_eq_getElem?_getD, List.getElem?_eq_getElem h]
  rfl
theorem ok_brought {f C CN fI fW fA : Addr} {fd fdI fdW fdA : FuncData} (F : Fun K "most_brought" "Lots.most_brought" lBrought f fd) (T : TxL K mg C) (TN : TxN K mg CN) (mgN : mg "Net" = some (.ref CN)) (MN : Mk K CN fI)
    (FI : Fun K "__init__" "Net.__init__" nInit fI fdI) (bI : Binds K fdI ["self", "nodes"] [])
    (GW : FnOk P w K mg base CX0 2 fW fdW ["self", "source", "goal", "room"] (spWay CN)) (bW : Binds K fdW ["self", "source", "goal", "room"] []) (mW : Meth K CN "add_way" fW)
    (GA : FnOk P w K mg base CX0 3 fA fdA ["self", "source", "sink"] (spAll CN)) (bA : Binds K fdA ["self", "source", "sink"] []) (mA : Meth K CN "send_all" fA) : FnOk P w K mg base CX0 4 f fd ["self", "marked", "tanks"] (spBrought C) := by
  have GI : FnOk P w K mg base CX0 1 fI fdI ["self", "nodes"] (spNet CN) := ok_net FI TN
  refine F.ok sc_brought (fun vs H Q E h => ?_) (fun cdv A outer sh H vs Q E hr h => ?_)
  · obtain ⟨q, nA, loA, hiA, wA, ma, ta, n, now, los, his, mk, tanks, ws, wa, rfl, _⟩ := h
    rfl
  · obtain ⟨q, nA, loA, hiA, wA, ma, ta, n, now, los, his, mk, tanks, ws, wa, rfl, L, hm, hta, I, htn, z1, z2, z3, k⟩ := h
    obtain ⟨dx, hq⟩ := L.ins
    have hr2 : Room 2 _ := hr.mono (by decide)
    refine ⟨_, (pss_cons (ps_set (i := 3) sc_brought.nd rfl (Or.inl rfl) (pe_callB call_len_seq (by rfl) T.len PySem.boot_len (pa_cons (pv 1) pa_nil)))
      (pss_cons (ps_set (i := 4) sc_brought.nd rfl (Or.inl rfl) (pe_op op_add (pv 3) pe_int))
      (pss_cons (ps_set (i := 5) sc_brought.nd rfl (Or.inl rfl) (pe_make MN GI hr2 rfl mgN bI .nil pass0 (pa_cons (pe_op op_add (pv 4) pe_int) pa_nil)))
      (pss_cons (ps_for PassesOwn.never rfl (pi_enum rfl T.enumerate (pa_cons (pv 1) pa_nil)) (pg_tup rfl (pgs_cons (pg_name (i := 6) sc_brought.nd rfl (Or.inl rfl)) (pgs_cons (pg_name (i := 7) sc_brought.nd rfl (Or.inl rfl)) pgs_nil)))
        (pss_one (ps_expr (pe_meth (pv 5) TN.cl mW GW hr2 bW .nil pass0 (pa_cons (pv 3) (pa_cons (pv 6) (pa_cons (pv 7) pa_nil)))))))
      (pss_cons (ps_for PassesOwn.never rfl (pi_list (pe_fld (pv 0) rfl)) (pg_tup rfl (pgs_cons (pg_name (i := 8) sc_brought.nd rfl (Or.inl rfl)) (pgs_cons (pg_name (i := 9) sc_brought.nd rfl (Or.inl rfl)) (pgs_cons (pg_name (i := 10) sc_brought.nd rfl (Or.inl rfl)) pgs_nil))))
        (pss_one (ps_expr (pe_meth (pv 5) TN.cl mW GW hr2 bW .nil pass0 (pa_cons (pv 8) (pa_cons (pv 9) (pa_cons (pv 10) pa_nil)))))))
      (pss_cons (ps_for PassesOwn.never rfl (pi_list (pv 2)) (pg_name (i := 11) sc_brought.nd rfl (Or.inl rfl))
        (pss_one (ps_expr (pe_meth (pv 5) TN.cl mW GW hr2 bW .nil pass0 (pa_cons (pe_ix ix_list (pe_fld (pv 0) rfl) (pv 11) (fun _ _ => rfl)) (pa_cons (pv 4) (pa_cons (pe_callB (cr_sum rfl) (by rfl) T.sum boot_sum (pa_cons (pv 1) pa_nil)) pa_nil)))))))
      (pss_one (ps_ret (pe_meth (pv 5) TN.cl mA GA hr bA .nil pass0 (pa_cons (pv 3) (pa_cons (pv 4) pa_nil))))))))))), ?_⟩
    have noW : ∀ l g r : Addr, (nf l g r).lookup ("add_way" : Str) = none := fun l g r => nf_no _ _ _ (by decide +kernel) (by decide +kernel) (by decide +kernel)
    have noA : ∀ l g r : Addr, (nf l g r).lookup ("send_all" : Str) = none := fun l g r => nf_no _ _ _ (by decide +kernel) (by decide +kernel) (by decide +kernel)
    have iw := I.wlt
    have il := I.lt
    -- source = len(marked); sink = source + 1; net = Net(sink + 1)
    refine ⟨_, rfl, ma, _, rfl, .inl (SqL.of hm), ?_⟩
    rw [nats_length]
    refine ⟨_, rfl, _, _, rfl, rfl, ?_⟩
    refine ⟨_, rfl, _, _, rfl, rfl, ?_⟩
    intro p dp np ndp nedp
    have e0 : (fun i j : Int => i + j) ((fun i j : Int => i + j) (mk.length : Int) 1) 1 = ((mk.length + 2 : Nat) : Int) := by
      show (mk.length : Int) + 1 + 1 = _
      omega
    refine ⟨p, dp, mk.length + 2, congrArg (fun z => [V.ref p, V.int z]) e0, upd_same, by omega, fun H1 lA gA rA la fg fr fl n1 k1 => ⟨rfl, ?_⟩⟩
    have s1 : Same H H1 := Same.made np ndp k1
    have free : ∀ b, upd (upd H dp (.own p)) p (.ins CN dp []) b = none → H b = none := fun b hb => (upd_none (upd_none hb).2).2
    have M0 : Made CN H H1 p lA gA rA (mk.length + 2) [] la := ⟨⟨_, n1, fun v => by rw [lAt_rep]; exact Nat.zero_le _⟩, s1, free _ fg, free _ fr, fun a ha => free _ (fl a ha)⟩
    have e1 : (fun i j : Int => i + j) (mk.length : Int) 1 = ((mk.length + 1 : Nat) : Int) := by
      show (mk.length : Int) + 1 = _
      omega
    -- the ways from the source
    have hm1 := s1 _ _ hm
    refine ⟨_, rfl, ma, _, rfl, SqL.of hm1, for_enum (xs := nats mk) (fun i σ H2 => ∃ v6 v7 : Option V, σ = [some (.ref q), some (.ref ma), some (.ref ta), some (.int (mk.length : Int)), some (.int ((mk.length + 1 : Nat) : Int)), some (.ref p), v6, v7, none, none, none, none] ∧ Made CN H H2 p lA gA rA (mk.length + 2) ((wS mk).take i) la)
      ⟨none, none, rfl, M0⟩ (fun i σ H2 _ z => ?_) (fun i x σ H2 T2 hx z hT2 => ?_) (fun σ H2 z => ?_)⟩
    · obtain ⟨v6, v7, rfl, M⟩ := z
      exact SqL.of (M.same _ _ hm)
    · obtain ⟨v6, v7, rfl, M⟩ := z
      obtain ⟨g, hg, rfl⟩ := nats_of hx
      have hi : i < mk.length := (List.getElem?_eq_some_iff.mp hg).1
      have M2 := M.new (o := .tup [.int ((i : Nat) : Int), .int (g : Int)]) hT2
      obtain ⟨lv2, n2, hlv2⟩ := M2.net
      obtain ⟨dx2, hp2⟩ := n2.ins
      have tl : ((wS mk).take i).length = i := by rw [List.length_take, wS_len]; omega
      refine ⟨T2, _, rfl, SqT.of upd_same, rfl, _, _, rfl, _, _, rfl, rfl, ?_⟩
      refine ⟨_, rfl, p, dx2, _, rfl, hp2, noW _ _ _, _, rfl, _, rfl, _, rfl, p, lA, gA, rA, mk.length + 2, _, la, lv2, mk.length, i, g, rfl, n2, by omega, by omega, by omega, hlv2, fun H3 lv3 n3 hlv3 k3 => ?_⟩
      have eg : mk.getD i 0 = g := by rw [List.getD_eq_getElem?_getD, hg]; rfl
      have ew : (wS mk).take i ++ [(mk.length, i, g)] = (wS mk).take (i + 1) := by rw [wtake (by rw [wS_len]; exact hi), wS_at hi, eg]
      rw [ew] at n3 hlv3
      exact ⟨_, _, rfl, M2.go n3 hlv3 k3⟩
    obtain ⟨v6, v7, rfl, M⟩ := z
    rw [nats_length, ← wS_len, List.take_length] at M
    -- the ways between the lots
    obtain ⟨dxa, hqa⟩ := (L.keep M.same).ins
    refine ⟨_, rfl, q, C, dxa, _, _, rfl, hqa, T.cl, T.nW, lf_w nA loA hiA wA, wA, rfl, ⟨_, SqL.of (M.same _ _ L.hw)⟩, for_list (xs := wa.map V.ref) (fun i σ H2 => ∃ v8 v9 v10 : Option V, σ = [some (.ref q), some (.ref ma), some (.ref ta), some (.int (mk.length : Int)), some (.int ((mk.length + 1 : Nat) : Int)), some (.ref p), v6, v7, v8, v9, v10, none] ∧ Made CN H H2 p lA gA rA (mk.length + 2) (wS mk ++ ws.take i) la)
      ⟨none, none, none, rfl, by rw [List.take_zero, List.append_nil, ← wS_len]; exact M⟩ (fun i σ H2 _ z => ?_) (fun i x σ H2 hx z => ?_) (fun σ H2 z => ?_)⟩
    · obtain ⟨v8, v9, v10, rfl, M⟩ := z
      exact SqL.of (M.same _ _ L.hw)
    · obtain ⟨v8, v9, v10, rfl, M⟩ := z
      obtain ⟨a, ha, rfl⟩ : ∃ a, wa[i]? = some a ∧ x = V.ref a := by
        rw [List.getElem?_map] at hx
        cases e : wa[i]? with
        | none =>
          rw [e] at hx
          cases hx
        | some a =>
          rw [e] at hx
          cases hx
          exact ⟨a, rfl, rfl⟩
      have hi : i < ws.length := by
        rw [← L.wl]
        exact (List.getElem?_eq_some_iff.mp ha).1
      obtain ⟨lv2, n2, hlv2⟩ := M.net
      obtain ⟨dx2, hp2⟩ := n2.ins
      have tl : (wS mk ++ ws.take i).length = mk.length + i := by rw [List.length_append, wS_len, List.length_take]; omega
      obtain ⟨w1, w2⟩ := iw i hi
      refine ⟨a, _, rfl, SqT.of (M.same _ _ (L.each i a ha)), rfl, _, _, rfl, _, _, rfl, _, _, rfl, rfl, ?_⟩
      refine ⟨_, rfl, p, dx2, _, rfl, hp2, noW _ _ _, _, rfl, _, rfl, _, rfl, p, lA, gA, rA, mk.length + 2, _, la, lv2, (wAt ws i).1, (wAt ws i).2.1, (wAt ws i).2.2, rfl, n2, by omega, by omega, by omega, hlv2, fun H3 lv3 n3 hlv3 k3 => ?_⟩
      have ew : wS mk ++ ws.take i ++ [((wAt ws i).1, (wAt ws i).2.1, (wAt ws i).2.2)] = wS mk ++ ws.take (i + 1) := by rw [wtake hi, List.append_assoc]
      rw [ew] at n3 hlv3
      exact ⟨_, _, _, rfl, M.go n3 hlv3 k3⟩
    obtain ⟨v8, v9, v10, rfl, M⟩ := z
    rw [List.length_map, L.wl, List.take_length] at M
    -- the ways to the sink
    refine ⟨_, rfl, ta, rfl, ⟨_, SqL.of (M.same _ _ hta)⟩, for_list (xs := nats tanks) (fun i σ H2 => ∃ v11 : Option V, σ = [some (.ref q), some (.ref ma), some (.ref ta), some (.int (mk.length : Int)), some (.int ((mk.length + 1 : Nat) : Int)), some (.ref p), v6, v7, v8, v9, v10, v11] ∧ Made CN H H2 p lA gA rA (mk.length + 2) (wS mk ++ ws ++ (wT mk now tanks).take i) la)
      ⟨none, rfl, by rw [List.take_zero, List.append_nil]; exact M⟩ (fun i σ H2 _ z => ?_) (fun i x σ H2 hx z => ?_) (fun σ H2 z => ?_)⟩
    · obtain ⟨v11, rfl, M⟩ := z
      exact SqL.of (M.same _ _ hta)
    · obtain ⟨v11, rfl, M⟩ := z
      obtain ⟨t, ht, rfl⟩ := nats_of hx
      have hi : i < tanks.length := (List.getElem?_eq_some_iff.mp ht).1
      have tn : t < n := htn t (List.mem_of_getElem? ht)
      obtain ⟨lv2, n2, hlv2⟩ := M.net
      obtain ⟨dx2, hp2⟩ := n2.ins
      obtain ⟨dxb, hqb⟩ := (L.keep M.same).ins
      have tl : (wS mk ++ ws ++ (wT mk now tanks).take i).length = mk.length + ws.length + i := by rw [List.length_append, List.length_append, wS_len, List.length_take, wT_len]; omega
      have t1 := il t tn
      refine ⟨_, rfl, p, dx2, _, rfl, hp2, noW _ _ _, _, rfl, q, C, dxb, _, _, rfl, hqb, T.cl, T.nN, lf_n nA loA hiA wA, _, rfl, nA, _, _, _, rfl, rfl, SqL.of (M.same _ _ L.hn), atI_nat (nats_get (by rw [I.nlen]; exact tn)), _, rfl, _, rfl, ma, mk.map (fun (n : Nat) => (n : Int)), rfl, SqL.of (by rw [M.same _ _ hm, nats_ints]), ?_⟩
      rw [sum_on]
      refine ⟨p, lA, gA, rA, mk.length + 2, _, la, lv2, now.getD t 0, mk.length + 1, onP mk.length allT mk, rfl, n2, by omega, by omega, by omega, hlv2, fun H3 lv3 n3 hlv3 k3 => ?_⟩
      have et : tanks.getD i 0 = t := by rw [List.getD_eq_getElem?_getD, ht]; rfl
      have ew : wS mk ++ ws ++ (wT mk now tanks).take i ++ [(now.getD t 0, mk.length + 1, onP mk.length allT mk)] = wS mk ++ ws ++ (wT mk now tanks).take (i + 1) := by rw [wtake (by rw [wT_len]; exact hi), wT_at hi, et, ← List.append_assoc]
      rw [ew] at n3 hlv3
      exact ⟨_, rfl, M.go n3 hlv3 k3⟩
    obtain ⟨v11, rfl, M⟩ := z
    have etk : (wT mk now tanks).take (nats tanks).length = wT mk now tanks := by rw [nats_length, ← wT_len mk now tanks, List.take_length]
    rw [etk] at M
    -- return net.send_all(source, sink)
    obtain ⟨lv2, n2, hlv2⟩ := M.net
    obtain ⟨dx2, hp2⟩ := n2.ins
    refine ⟨_, rfl, p, dx2, _, rfl, hp2, noA _ _ _, _, rfl, _, rfl, p, lA, gA, rA, mk.length + 2, _, la, lv2, mk.length, mk.length + 1, rfl, n2, by omega, by omega, by omega, by omega, fun H3 rm3 F3 R3 mx fr3 => ?_⟩
    exact k H3 _ F3 R3 mx fun b o hb => fr3 b o (M.same b o hb) (ne_of_none hb M.fr)
/-! ### most_in, least_in -/
def spMostIn (C : Addr) : Sp := fun vs H Q _ => ∃ (q nA loA hiA wA ta : Addr) (n : Nat) (now los his tanks : List Nat) (ws : List Way) (wa : List Addr), vs = [.ref q, .ref ta] ∧ LtAt C H q nA loA hiA wA now los his ws wa ∧ H ta = some (.lst (nats tanks)) ∧ LInv n now his ws ∧ (∀ t, t ∈ tanks → t < n) ∧ his.length < 1000 ∧ ws.length < 1000 ∧ tanks.length < 1000 ∧
  ∀ (H' : Hp) (r : Nat → Int) (F : Int) (R : Nat → Bool), Max (wAll his now ws tanks) his.length (his.length + 1) r F R → Same H H' → Q (.int F) H'
theorem sc_mostin : FnScope ["self", "tanks"] ["self", "tanks"] (defScope lMost) := ⟨rfl, rfl, rfl, by decide +kernel, rfl, by decide +kernel, by decide +kernel⟩
theorem ok_mostin {f C fB : Addr} {fd fdB : FuncData} (F : Fun K "most_in" "Lots.most_in" lMost f fd) (T : TxL K mg C) (GB : FnOk P w K mg base CX0 4 fB fdB ["self", "marked", "tanks"] (spBrought C)) (bB : Binds K fdB ["self", "marked", "tanks"] []) (mB : Meth K C "most_brought" fB) : FnOk P w K mg base CX0 5 f fd ["self", "tanks"] (spMostIn C) := by
  refine F.ok sc_mostin (fun vs H Q E h => ?_) (fun cdv A outer sh H vs Q E hr h => ?_)
  · obtain ⟨q, nA, loA, hiA, wA, ta, n, now, los, his, tanks, ws, wa, rfl, _⟩ := h
    rfl
  · obtain ⟨q, nA, loA, hiA, wA, ta, n, now, los, his, tanks, ws, wa, rfl, L, hta, I, htn, z1, z2, z3, k⟩ := h
    obtain ⟨dx, hq⟩ := L.ins
    refine ⟨_, (pss_one (ps_ret (pe_meth (pv 0) T.cl mB GB hr bB .nil pass0 (pa_cons (pe_fld (pv 0) rfl) (pa_cons (pv 1) pa_nil))))), ?_⟩
    refine ⟨_, rfl, q, dx, _, rfl, hq, lf_no _ _ _ _ (by decide +kernel) (by decide +kernel) (by decide +kernel) (by decide +kernel), _, rfl, q, C, dx, _, _, rfl, hq, T.cl, T.nHi, lf_hi nA loA hiA wA, _, rfl, q, nA, loA, hiA, wA, hiA, ta, n, now, los, his, his, tanks, ws, wa, rfl, L, L.hhi, hta, I, htn, z1, z2, z3, k⟩
def spLeastIn (C : Addr) : Sp := fun vs H Q _ => ∃ (q nA loA hiA wA ta : Addr) (n : Nat) (now los his tanks : List Nat) (ws : List Way) (wa : List Addr), vs = [.ref q, .ref ta] ∧ LtAt C H q nA loA hiA wA now los his ws wa ∧ H ta = some (.lst (nats tanks)) ∧ LInv n now los ws ∧ (∀ t, t ∈ tanks → t < n) ∧ los.length < 1000 ∧ ws.length < 1000 ∧ tanks.length < 1000 ∧
  ∀ (H' : Hp) (r : Nat → Int) (F : Int) (R : Nat → Bool), Max (wAll los now ws tanks) los.length (los.length + 1) r F R → Same H H' → Q (.int (((onP los.length allT los : Nat) : Int) - F)) H'
theorem sc_leastin : FnScope ["self", "others"] ["self", "others"] (defScope lLeast) := ⟨rfl, rfl, rfl, by decide +kernel, rfl, by decide +kernel, by decide +kernel⟩
theorem ok_leastin {f C fB : Addr} {fd fdB : FuncData} (F : Fun K "least_in" "Lots.least_in" lLeast f fd) (T : TxL K mg C) (GB : FnOk P w K mg base CX0 4 fB fdB ["self", "marked", "tanks"] (spBrought C)) (bB : Binds K fdB ["self", "marked", "tanks"] []) (mB : Meth K C "most_brought" fB) : FnOk P w K mg base CX0 5 f fd ["self", "others"] (spLeastIn C) := by
  refine F.ok sc_leastin (fun vs H Q E h => ?_) (fun cdv A outer sh H vs Q E hr h => ?_)
  · obtain ⟨q, nA, loA, hiA, wA, ta, n, now, los, his, tanks, ws, wa, rfl, _⟩ := h
    rfl
  · obtain ⟨q, nA, loA, hiA, wA, ta, n, now, los, his, tanks, ws, wa, rfl, L, hta, I, htn, z1, z2, z3, k⟩ := h
    obtain ⟨dx, hq⟩ := L.ins
    refine ⟨_, (pss_one (ps_ret (pe_op op_sub (pe_callB (cr_sum rfl) (by rfl) T.sum boot_sum (pa_cons (pe_fld (pv 0) rfl) pa_nil)) (pe_meth (pv 0) T.cl mB GB hr bB .nil pass0 (pa_cons (pe_fld (pv 0) rfl) (pa_cons (pv 1) pa_nil)))))), ?_⟩
    refine ⟨_, rfl, q, C, dx, _, _, rfl, hq, T.cl, T.nLo, lf_lo nA loA hiA wA, loA, los.map (fun (n : Nat) => (n : Int)), rfl, SqL.of (by rw [L.hlo, nats_ints]), ?_⟩
    rw [sum_on]
    refine ⟨_, rfl, q, dx, _, rfl, hq, lf_no _ _ _ _ (by decide +kernel) (by decide +kernel) (by decide +kernel) (by decide +kernel), _, rfl, q, C, dx, _, _, rfl, hq, T.cl, T.nLo, lf_lo nA loA hiA wA, _, rfl, q, nA, loA, hiA, wA, loA, ta, n, now, los, his, los, tanks, ws, wa, rfl, L, L.hlo, hta, I, htn, z1, z2, z3, fun H' r F R mx same => ⟨_, _, rfl, rfl, k H' r F R mx same⟩⟩
end
end Mg

set_option Elab.async false
set_option linter.all false
set_option maxRecDepth 100000
set_option maxHeartbeats 4000000
namespace Mg
open PySem PySem.Spec PyProof.Rows L2
open PySem.W (Codec)
open Ks175 (Went Abs)
open MG MD MN
abbrev tInit : Stmt := inClass (top 15) 0
abbrev tBegin : Stmt := inClass (top 15) 1
abbrev tIn : Stmt := inClass (top 15) 2
abbrev tPour : Stmt := inClass (top 15) 3
abbrev tHas : Stmt := inClass (top 15) 4
abbrev tMost : Stmt := inClass (top 15) 5
abbrev tLeast : Stmt := inClass (top 15) 6
abbrev tThere : Stmt := inClass (top 15) 7
abbrev tAre : Stmt := inClass (top 15) 8
abbrev tWith : Stmt := inClass (top 15) 9
abbrev tFull : Stmt := inClass (top 15) 10
abbrev tCount : Stmt := inClass (top 15) 11
abbrev sAns1 : Stmt := top 16
abbrev sAns : Stmt := top 17
def tf (g q : Addr) (e : Nat) : List (Str × V) := putF "events" (.int (e : Int)) (putF "lots" (.ref q) (putF "grains" (.ref g) []))
theorem s21 : ¬ ("grains" : Str) = "lots" := by decide +kernel
theorem s22 : ¬ ("grains" : Str) = "events" := by decide +kernel
theorem s23 : ¬ ("lots" : Str) = "events" := by decide +kernel
theorem tf_g (g q : Addr) (e : Nat) : (tf g q e).lookup ("grains" : Str) = some (.ref g) := by
  unfold tf
  rw [lookup_putF, if_neg s22, lookup_putF, if_neg s21, lookup_putF, if_pos rfl]
theorem tf_l (g q : Addr) (e : Nat) : (tf g q e).lookup ("lots" : Str) = some (.ref q) := by
  unfold tf
  rw [lookup_putF, if_neg s23, lookup_putF, if_pos rfl]
theorem tf_e (g q : Addr) (e : Nat) : (tf g q e).lookup ("events" : Str) = some (.int (e : Int)) := by
  unfold tf
  rw [lookup_putF, if_pos rfl]
theorem tf_no (g q : Addr) (e : Nat) {m : Str} (h1 : ¬ m = "grains") (h2 : ¬ m = "lots") (h3 : ¬ m = "events") : (tf g q e).lookup m = none := by
  unfold tf
  rw [lookup_putF, if_neg h3, lookup_putF, if_neg h2, lookup_putF, if_neg h1]
  all_goals rfl
theorem tf_eq (g q : Addr) (e : Nat) : tf g q e = [(("grains" : Str), V.ref g), (("lots" : Str), V.ref q), (("events" : Str), V.int (e : Int))] := by
  have e1 : putF "lots" (V.ref q) (putF "grains" (V.ref g) []) = [(("grains" : Str), V.ref g), (("lots" : Str), V.ref q)] := by
    show (if ("grains" : Str) = "lots" then [(("grains" : Str), V.ref q)] else [(("grains" : Str), V.ref g), (("lots" : Str), V.ref q)]) = ([(("grains" : Str), V.ref g), (("lots" : Str), V.ref q)] : List (Str × V))
    rw [if_neg s21]
  unfold tf
  rw [e1]
  show (if ("grains" : Str) = "events" then _ else (("grains" : Str), V.ref g) :: (if ("lots" : Str) = "events" then _ else [(("lots" : Str), V.ref q), (("events" : Str), V.int (e : Int))])) = ([(("grains" : Str), V.ref g), (("lots" : Str), V.ref q), (("events" : Str), V.int (e : Int))] : List (Str × V))
  rw [if_neg s22, if_neg s23]
theorem tf_putg (g q g' : Addr) (e : Nat) : putF "grains" (.ref g') (tf g q e) = tf g' q e := by
  rw [tf_eq, tf_eq]
  show (if ("grains" : Str) = "grains" then [(("grains" : Str), V.ref g'), (("lots" : Str), V.ref q), (("events" : Str), V.int (e : Int))] else _) = _
  rw [if_pos rfl]
theorem tf_putl (g q q' : Addr) (e : Nat) : putF "lots" (.ref q') (tf g q e) = tf g q' e := by
  rw [tf_eq, tf_eq]
  show (if ("grains" : Str) = "lots" then _ else (("grains" : Str), V.ref g) :: (if ("lots" : Str) = "lots" then [(("lots" : Str), V.ref q'), (("events" : Str), V.int (e : Int))] else _)) = _
  rw [if_neg s21, if_pos rfl]
theorem tf_pute (g q : Addr) (e e' : Nat) : putF "events" (.int (e' : Int)) (tf g q e) = tf g q e' := by
  rw [tf_eq, tf_eq]
  show (if ("grains" : Str) = "events" then _ else (("grains" : Str), V.ref g) :: (if ("lots" : Str) = "events" then _ else (("lots" : Str), V.ref q) :: (if ("events" : Str) = "events" then [(("events" : Str), V.int (e' : Int))] else _))) = _
  rw [if_neg s22, if_neg s23, if_pos rfl]
structure TxT (K : PySem.W.Frag) (mg : Str → Option Value) (C : Addr) : Prop where
  cl : Cls K C
  nG : NoAttr K C "grains"
  nL : NoAttr K C "lots"
  nE : NoAttr K C "events"
  gTanks : ∃ t, mg "MOST_TANKS" = some (.int 32 t)
  gAmount : ∃ t, mg "MOST_AMOUNT" = some (.int 1048576 t)
  gEvents : ∃ t, mg "MOST_EVENTS" = some (.int 256 t)
  gWrong : ∃ t, mg "WRONG_VALUE" = some (.int (-22) t)
  gRoom : ∃ t, mg "NO_ROOM" = some (.int (-28) t)
  gFew : ∃ t, mg "TOO_FEW" = some (.int (-33) t)
  len : mg "len" = none
  range : mg "range" = none
/-- the Tanks at p -/
structure TkAt (C CL : Addr) (H : Hp) (p g q nA loA hiA wA : Addr) (s : Abs) (now los his : List Nat) (ws : List Way) (wa : List Addr) : Prop where
  ins : ∃ dx, H p = some (.ins C dx (tf g q s.went.length))
  gr : H g = some (.lst (nats (MG.gr s.tanks s.went)))
  lots : LtAt CL H q nA loA hiA wA now los his ws wa
  lo : LotsOf loC s.tanks s.went now los ws
  hi : LotsOf hiC s.tanks s.went now his ws
  ll : los.length = his.length
  g1 : g ≠ nA
  g2 : g ≠ loA
  g3 : g ≠ hiA
  g4 : g ≠ wA
  pq : p ≠ q
def own (p g q nA loA hiA wA b : Addr) : Prop := b = p ∨ b = g ∨ b = q ∨ b = nA ∨ b = loA ∨ b = hiA ∨ b = wA
/-- the Tanks at p, all that it changes within S -/
def Tk (C CL : Addr) (H : Hp) (p : Addr) (S : Addr → Prop) (s : Abs) : Prop := ∃ (g q nA loA hiA wA : Addr) (now los his : List Nat) (ws : List Way) (wa : List Addr), TkAt C CL H p g q nA loA hiA wA s now los his ws wa ∧ ∀ b, own p g q nA loA hiA wA b → S b
theorem Tk.mono {C CL : Addr} {H : Hp} {p : Addr} {S S' : Addr → Prop} {s : Abs} (h : Tk C CL H p S s) (m : ∀ b, S b → S' b) : Tk C CL H p S' s := by
  obtain ⟨g, q, nA, loA, hiA, wA, now, los, his, ws, wa, t, o⟩ := h
  exact ⟨g, q, nA, loA, hiA, wA, now, los, his, ws, wa, t, fun b hb => m b (o b hb)⟩
theorem Tk.keep {C CL : Addr} {H H' : Hp} {p : Addr} {S : Addr → Prop} {s : Abs} (h : Tk C CL H p S s) (k : Same H H') : Tk C CL H' p S s := by
  obtain ⟨g, q, nA, loA, hiA, wA, now, los, his, ws, wa, t, o⟩ := h
  obtain ⟨dx, hp⟩ := t.ins
  exact ⟨g, q, nA, loA, hiA, wA, now, los, his, ws, wa, ⟨⟨dx, k _ _ hp⟩, k _ _ t.gr, t.lots.keep k, t.lo, t.hi, t.ll, t.g1, t.g2, t.g3, t.g4, t.pq⟩, o⟩
theorem Tk.put {C CL : Addr} {H : Hp} {p l : Addr} {S : Addr → Prop} {s : Abs} {xs : List V} {o : HO} (h : Tk C CL H p S s) (hl : H l = some (.lst xs)) (nl : ¬ S l) : Tk C CL (upd H l o) p S s := by
  obtain ⟨g, q, nA, loA, hiA, wA, now, los, his, ws, wa, t, ow⟩ := h
  obtain ⟨dx, hp⟩ := t.ins
  have n : ∀ b, own p g q nA loA hiA wA b → l ≠ b := fun b hb z => nl (by rw [z]; exact ow b hb)
  refine ⟨g, q, nA, loA, hiA, wA, now, los, his, ws, wa, ⟨⟨dx, ?_⟩, ?_, ?_, t.lo, t.hi, t.ll, t.g1, t.g2, t.g3, t.g4, t.pq⟩, ow⟩
  · rw [upd_ne (n p (.inl rfl)).symm]
    exact hp
  · rw [upd_ne (n g (.inr (.inl rfl))).symm]
    exact t.gr
  · refine t.lots.put (n q (.inr (.inr (.inl rfl)))) (n nA (.inr (.inr (.inr (.inl rfl))))) (n loA (.inr (.inr (.inr (.inr (.inl rfl)))))) (n hiA (.inr (.inr (.inr (.inr (.inr (.inl rfl))))))) (n wA (.inr (.inr (.inr (.inr (.inr (.inr rfl))))))) fun xs z => ?_
    rw [hl] at z
    cases z
section
variable {P : Program} {w : World} {K : PySem.W.Frag} {mg : Str → Option Value} {base : Heap}
/-! ### the small ones -/
def spThere (C CL : Addr) : Sp := fun vs H Q _ => ∃ (p : Addr) (S : Addr → Prop) (s : Abs) (t : Nat), vs = [.ref p, .int (t : Int)] ∧ Tk C CL H p S s ∧ Q (.bl (decide (t < s.tanks))) H
theorem sc_there : FnScope ["self", "tank"] ["self", "tank"] (defScope tThere) := ⟨rfl, rfl, rfl, by decide +kernel, rfl, by decide +kernel, by decide +kernel⟩
theorem ok_there {f C CL : Addr} {fd : FuncData} (F : Fun K "is_there" "Tanks.is_there" tThere f fd) (T : TxT K mg C) : FnOk P w K mg base CX0 1 f fd ["self", "tank"] (spThere C CL) := by
  refine F.ok sc_there (fun vs H Q E h => ?_) (fun cdv A outer sh H vs Q E hr h => ?_)
  · obtain ⟨p, S, s, t, rfl, _⟩ := h
    rfl
  · obtain ⟨p, S, s, t, rfl, ⟨g, q, nA, loA, hiA, wA, now, los, his, ws, wa, tk, _⟩, k⟩ := h
    obtain ⟨dx, hp⟩ := tk.ins
    refine ⟨_, pss_one (ps_ret (pe_cmpR op_lt (pv 1) (pe_callB call_len_seq (by rfl) T.len PySem.boot_len (pa_cons (pe_fld (pv 0) rfl) pa_nil)) (nomark _))), ?_⟩
    refine ⟨_, rfl, _, rfl, p, C, dx, _, _, rfl, hp, T.cl, T.nG, tf_g g q _, g, _, rfl, .inl (SqL.of tk.gr), _, _, rfl, rfl, ?_⟩
    have e1 : decide ((t : Int) < ((nats (MG.gr s.tanks s.went)).length : Int)) = decide (t < s.tanks) := by
      rw [nats_length, gr_length]
      exact decide_eq_decide.mpr (by omega)
    show Q (.bl (decide ((t : Int) < ((nats (MG.gr s.tanks s.went)).length : Int)))) H
    rw [e1]
    exact k
def spAre (C CL : Addr) : Sp := fun vs H Q _ => ∃ (p : Addr) (S : Addr → Prop) (s : Abs) (t : Nat), vs = [.ref p, .int (t : Int)] ∧ Tk C CL H p S s ∧ Q (.bl (s.isSet t)) H
theorem sc_are : FnScope ["self", "tank_set"] ["self", "tank_set"] (defScope tAre) := ⟨rfl, rfl, rfl, by decide +kernel, rfl, by decide +kernel, by decide +kernel⟩
theorem shr_nat (a n : Nat) : (a : Int) / 2 ^ ((n : Int)).toNat = ((a / 2 ^ n : Nat) : Int) := by
  show (a : Int) / 2 ^ n = _
  rw [Int.natCast_ediv, Int.natCast_pow]
  rfl
theorem ok_are {f C CL : Addr} {fd : FuncData} (F : Fun K "are_there" "Tanks.are_there" tAre f fd) (T : TxT K mg C) : FnOk P w K mg base CX0 1 f fd ["self", "tank_set"] (spAre C CL) := by
  refine F.ok sc_are (fun vs H Q E h => ?_) (fun cdv A outer sh H vs Q E hr h => ?_)
  · obtain ⟨p, S, s, t, rfl, _⟩ := h
    rfl
  · obtain ⟨p, S, s, t, rfl, ⟨g, q, nA, loA, hiA, wA, now, los, his, ws, wa, tk, _⟩, k⟩ := h
    obtain ⟨dx, hp⟩ := tk.ins
    refine ⟨_, (pss_one (ps_ret (pe_cmpR op_eq (pe_op op_shr (pv 1) (pe_callB call_len_seq (by rfl) T.len PySem.boot_len (pa_cons (pe_fld (pv 0) rfl) pa_nil))) pe_int (nomark _)))), ?_⟩
    refine ⟨_, rfl, _, rfl, p, C, dx, _, _, rfl, hp, T.cl, T.nG, tf_g g q _, g, _, rfl, .inl (SqL.of tk.gr), _, _, rfl, rfl, Int.natCast_nonneg _, rfl, ?_⟩
    have e1 : decide (V.int ((t : Int) / 2 ^ (((nats (MG.gr s.tanks s.went)).length : Int)).toNat) = V.int 0) = s.isSet t := by
      rw [v_int_eq, nats_length, gr_length, shr_nat]
      unfold Abs.isSet
      refine decide_eq_decide.mpr ?_
      have hp : 0 < 2 ^ s.tanks := Nat.two_pow_pos _
      constructor
      · intro h
        have h : t / 2 ^ s.tanks = 0 := by omega
        exact (Nat.div_eq_zero_iff_lt hp).mp h
      · intro h
        rw [Nat.div_eq_of_lt h]
        rfl
    show Q (.bl (decide (V.int ((t : Int) / 2 ^ (((nats (MG.gr s.tanks s.went)).length : Int)).toNat) = V.int 0))) H
    rw [e1]
    exact k
def spFull (C CL : Addr) : Sp := fun vs H Q _ => ∃ (p : Addr) (S : Addr → Prop) (s : Abs), vs = [.ref p] ∧ Tk C CL H p S s ∧ Q (.bl (decide (256 ≤ s.went.length))) H
theorem sc_full : FnScope ["self"] ["self"] (defScope tFull) := ⟨rfl, rfl, rfl, by decide +kernel, rfl, by decide +kernel, by decide +kernel⟩
theorem ok_full {f C CL : Addr} {fd : FuncData} (F : Fun K "is_full" "Tanks.is_full" tFull f fd) (T : TxT K mg C) : FnOk P w K mg base CX0 1 f fd ["self"] (spFull C CL) := by
  refine F.ok sc_full (fun vs H Q E h => ?_) (fun cdv A outer sh H vs Q E hr h => ?_)
  · obtain ⟨p, S, s, rfl, _⟩ := h
    rfl
  · obtain ⟨p, S, s, rfl, ⟨g, q, nA, loA, hiA, wA, now, los, his, ws, wa, tk, _⟩, k⟩ := h
    obtain ⟨dx, hp⟩ := tk.ins
    obtain ⟨t1, m1⟩ := T.gEvents
    refine ⟨_, (pss_one (ps_ret (pe_cmpR op_ge (pe_fld (pv 0) rfl) (pe_glob (v := .int (256)) rfl m1 ⟨_, rfl⟩) (nomark _)))), ?_⟩
    refine ⟨_, rfl, p, C, dx, _, _, rfl, hp, T.cl, T.nE, tf_e g q _, _, _, rfl, rfl, ?_⟩
    have e1 : decide ((256 : Int) ≤ (s.went.length : Int)) = decide (256 ≤ s.went.length) := decide_eq_decide.mpr (by omega)
    show Q (.bl (decide ((256 : Int) ≤ (s.went.length : Int)))) H
    rw [e1]
    exact k
/-- before = self.events; self.events += 1; return before -/
def spCount (C : Addr) : Sp := fun vs H Q _ => ∃ (p dx g q : Addr) (e : Nat), vs = [.ref p] ∧ H p = some (.ins C dx (tf g q e)) ∧ Q (.int (e : Int)) (upd H p (.ins C dx (tf g q (e + 1))))
theorem sc_count : FnScope ["self", "before"] ["self"] (defScope tCount) := ⟨rfl, rfl, rfl, by decide +kernel, rfl, by decide +kernel, by decide +kernel⟩
theorem ok_count {f C : Addr} {fd : FuncData} (F : Fun K "count_event" "Tanks.count_event" tCount f fd) (T : TxT K mg C) : FnOk P w K mg base CX0 1 f fd ["self"] (spCount C) := by
  refine F.ok sc_count (fun vs H Q E h => ?_) (fun cdv A outer sh H vs Q E hr h => ?_)
  · obtain ⟨p, dx, g, q, e, rfl, _⟩ := h
    rfl
  · obtain ⟨p, dx, g, q, e, rfl, hp, k⟩ := h
    refine ⟨_, (pss_cons (ps_set (i := 1) sc_count.nd rfl (Or.inl rfl) (pe_fld (pv 0) rfl))
      (pss_cons (ps_fldaug (pv 0) pe_int in_add)
      (pss_one (ps_ret (pv 1))))), ?_⟩
    refine ⟨_, rfl, p, C, dx, _, _, rfl, hp, T.cl, T.nE, tf_e g q e, ?_⟩
    refine ⟨_, rfl, p, C, dx, _, _, rfl, hp, T.cl, T.nE, tf_e g q e, _, _, rfl, rfl, dx, _, hp, (by rw [tf_eq]; show 3 < 1000; decide), ?_⟩
    refine ⟨_, rfl, ?_⟩
    have e1 : putF "events" (.int ((e : Int) + 1)) (tf g q e) = tf g q (e + 1) := tf_pute g q e (e + 1)
    rw [e1]
    exact k
/-- the tanks whose bit is so -/
def spWith (C CL : Addr) : Sp := fun vs H Q _ => ∃ (p : Addr) (S : Addr → Prop) (s : Abs) (set bit : Nat), vs = [.ref p, .int (set : Int), .int (bit : Int)] ∧ Tk C CL H p S s ∧ s.tanks ≤ 32 ∧
  ∀ (a : Addr) (tanks : List Nat), H a = none → (∀ t, t ∈ tanks ↔ t < s.tanks ∧ (set / 2 ^ t) % 2 = bit) → tanks.length ≤ 32 → Q (.ref a) (upd H a (.lst (nats tanks)))
theorem sc_with : FnScope ["self", "tank_set", "bit", "tank"] ["self", "tank_set", "bit"] (defScope tWith) := ⟨rfl, rfl, rfl, by decide +kernel, rfl, by decide +kernel, by decide +kernel⟩
def pick (set bit : Nat) (i : Nat) : List Nat := (List.range i).filter fun t => decide ((set / 2 ^ t) % 2 = bit)
theorem pick_succ (set bit i : Nat) : pick set bit (i + 1) = if (set / 2 ^ i) % 2 = bit then pick set bit i ++ [i] else pick set bit i := by
  unfold pick
  rw [List.range_succ, List.filter_append]
  by_cases c : (set / 2 ^ i) % 2 = bit
  · rw [if_pos c]
    simp [c]
  · rw [if_neg c]
    simp [c]
theorem pick_len (set bit i : Nat) : (pick set bit i).length ≤ i := by
  unfold pick
  have := List.length_filter_le (fun t => decide ((set / 2 ^ t) % 2 = bit)) (List.range i)
  rw [List.length_range] at this
  exact this
theorem ok_with {f C CL : Addr} {fd : FuncData} (F : Fun K "tanks_with" "Tanks.tanks_with" tWith f fd) (T : TxT K mg C) : FnOk P w K mg base CX0 1 f fd ["self", "tank_set", "bit"] (spWith C CL) := by
  refine F.ok sc_with (fun vs H Q E h => ?_) (fun cdv A outer sh H vs Q E hr h => ?_)
  · obtain ⟨p, S, s, set, bit, rfl, _⟩ := h
    rfl
  · obtain ⟨p, S, s, set, bit, rfl, ⟨g, q, nA, loA, hiA, wA, now, los, his, ws, wa, tk, _⟩, h32, k⟩ := h
    obtain ⟨dx, hp⟩ := tk.ins
    refine ⟨_, (pss_one (ps_ret (pe_lc rfl sc_with.nd (pi_range1 rfl T.range (pa_cons (pe_callB call_len_seq (by rfl) T.len PySem.boot_len (pa_cons (pe_fld (pv 0) rfl) pa_nil)) pa_nil)) (blkOk_by (own := [("tank", 3)]) (by show blkC ["self", "tank_set", "bit", "tank"] (defScope tWith) _ _ = true; decide +kernel)) (fun _ _ _ _ _ => (pg_name (i := 3) sc_with.nd rfl (Or.inl rfl))) (fun _ _ _ _ _ => (pts_one (pt_cmpR op_eq (pe_op op_and (pe_op op_shr (pv 1) (pv 3)) pe_int) (pv 2) (nomark _)))) (fun _ _ _ _ _ => (pv 3))))), ?_⟩
    refine ⟨_, rfl, p, C, dx, _, _, rfl, hp, T.cl, T.nG, tf_g g q _, g, _, rfl, .inl (SqL.of tk.gr), ?_⟩
    rw [nats_length, gr_length]
    refine ⟨(s.tanks : Int), rfl, by omega, by omega, fun D hD => lc_range (lo := 0) (fun i H' => H' = upd H D (.lst (nats (pick set bit i)))) rfl (fun i H' hi e' => ?_) (fun H' e' => ?_)⟩
    · subst e'
      have hi : i < s.tanks := hi
      have pl := pick_len set bit i
      refine ⟨rfl, ?_⟩
      refine ⟨_, rfl, _, rfl, _, _, rfl, rfl, (by show (0 : Int) ≤ 0 + (i : Int); omega), _, _, rfl, rfl, _, rfl, rfl, _, rfl, ?_⟩
      have e2 : Builtin.bitAnd ((set : Int) / 2 ^ ((0 : Int) + (i : Int)).toNat) 1 = ((set / 2 ^ i % 2 : Nat) : Int) := by
        rw [PyProof.Rows.bitAnd_m1, show (0 : Int) + (i : Int) = ((i : Nat) : Int) by omega, shr_nat]
        omega
      refine ite2 (fun c => ?_) (fun c => ?_)
      · rw [v_int_eq, decide_eq_true_eq, e2] at c
        have c : set / 2 ^ i % 2 = bit := by omega
        refine ⟨_, rfl, _, upd_same, (by rw [nats_length]; exact small5 (by omega)), ?_⟩
        rw [upd_upd, pick_succ, if_pos c, ← nats_snoc, Int.zero_add]
      · rw [v_int_eq, decide_eq_true_eq, e2] at c
        have c : ¬ set / 2 ^ i % 2 = bit := by omega
        show upd H D (.lst (nats (pick set bit i))) = upd H D (.lst (nats (pick set bit (i + 1))))
        rw [pick_succ, if_neg c]
    · have e' : H' = upd H D (.lst (nats (pick set bit s.tanks))) := e'
      subst e'
      refine k D _ hD (fun t => ?_) (by have := pick_len set bit s.tanks; omega)
      unfold pick
      rw [List.mem_filter, List.mem_range, decide_eq_true_eq]
end
end Mg

set_option Elab.async false
set_option linter.all false
set_option maxRecDepth 100000
set_option maxHeartbeats 4000000
namespace Mg
open PySem PySem.Spec PyProof.Rows L2
open PySem.W (Codec)
open Ks175 (Went Abs)
open MG MD MN
section
variable {P : Program} {w : World} {K : PySem.W.Frag} {mg : Str → Option Value} {base : Heap}
theorem act_start (s : Abs) (n : Nat) : Ks175.act s (.start n) = if n = 0 ∨ 32 < n then (s, Ks175.say (-22)) else (Ks175.start n, Ks175.say 0) := rfl
theorem act_in (s : Abs) (t n lo hi : Nat) : Ks175.act s (.in_ t n lo hi) = if s.tanks ≤ t ∨ n = 0 ∨ 1048576 < n ∨ hi < lo ∨ n < hi then (s, Ks175.say (-22)) else s.goes (.in_ t n lo hi) := rfl
theorem act_pour (s : Abs) (f t n : Nat) : Ks175.act s (.pour f t n) = if s.tanks ≤ f ∨ s.tanks ≤ t ∨ f = t ∨ n = 0 then (s, Ks175.say (-22)) else if s.has f < n then (s, Ks175.say (-33)) else s.goes (.pour f t n) := rfl
theorem goes_eq (s : Abs) (e : Went) : s.goes e = if 256 ≤ s.went.length then (s, Ks175.say (-28)) else ({ s with went := s.went ++ [e] }, Ks175.say s.went.length) := rfl
/-! ### __init__, begin -/
def spInit (C CL : Addr) : Sp := fun vs H Q _ => ∃ (p dx : Addr), vs = [.ref p] ∧ H p = some (.ins C dx []) ∧ ∀ (H' : Hp), Tk C CL H' p (fun b => b = p ∨ H b = none) Ks175Neutral.start → (∀ b o, H b = some o → b ≠ p → H' b = some o) → Q .non H'
theorem sc_init : FnScope ["self"] ["self"] (defScope tInit) := ⟨rfl, rfl, rfl, by decide +kernel, rfl, by decide +kernel, by decide +kernel⟩
theorem ok_init {f C CL fL : Addr} {fd fdL : FuncData} (F : Fun K "__init__" "Tanks.__init__" tInit f fd) (T : TxT K mg C) (TL : TxL K mg CL) (mgL : mg "Lots" = some (.ref CL)) (ML : Mk K CL fL) (FL : Fun K "__init__" "Lots.__init__" lInit fL fdL) (bL : Binds K fdL ["self", "tanks"] []) :
    FnOk P w K mg base CX0 3 f fd ["self"] (spInit C CL) := by
  have GL : FnOk P w K mg base CX0 1 fL fdL ["self", "tanks"] (spLots CL) := ok_lots FL TL
  refine F.ok sc_init (fun vs H Q E h => ?_) (fun cdv A outer sh H vs Q E hr h => ?_)
  · obtain ⟨p, dx, rfl, _⟩ := h
    rfl
  · obtain ⟨p, dx, rfl, hp, k⟩ := h
    refine ⟨_, (pss_cons (ps_fld (pv 0) (pe_lst pa_nil) rfl)
      (pss_cons (ps_fld (pv 0) (pe_make ML GL hr rfl mgL bL .nil pass0 (pa_cons pe_int pa_nil)) rfl)
      (pss_one (ps_fld (pv 0) pe_int rfl)))), ?_⟩
    refine ⟨Nat.zero_le _, fun g hg => ?_⟩
    have npg : p ≠ g := ne_of_none hp hg
    refine ⟨_, rfl, p, C, dx, [], rfl, (by rw [upd_ne npg]; exact hp), T.cl, T.nG, (by show 0 < 1000; decide), ?_⟩
    generalize hH1 : upd (upd H g (.lst [])) p (.ins C dx (putF "grains" (.ref g) [])) = H1
    have hp1 : H1 p = some (.ins C dx (putF "grains" (.ref g) [])) := by rw [← hH1, upd_same]
    have hg1 : H1 g = some (.lst []) := by rw [← hH1, upd_ne npg.symm, upd_same]
    have k1 : ∀ b o, H b = some o → b ≠ p → H1 b = some o := fun b o hb nb => by
      rw [← hH1, upd_ne nb, upd_ne (ne_of_none hb hg)]
      exact hb
    have fr1 : ∀ b, H1 b = none → H b = none := fun b hb => by
      cases z : H b with
      | none => rfl
      | some o =>
        by_cases y : b = p
        · rw [y, hp1] at hb
          cases hb
        · rw [k1 b o z y] at hb
          cases hb
    intro q dq nq ndq nedq
    refine ⟨q, dq, 0, rfl, upd_same, by decide, fun H2 nA loA hiA wA f1 f2 f3 f4 L k2 => ⟨rfl, ?_⟩⟩
    have s2 : Same H1 H2 := Same.made nq ndq k2
    have fr2 : ∀ b, upd (upd H1 dq (.own q)) q (.ins CL dq []) b = none → H1 b = none := fun b hb => (upd_none (upd_none hb).2).2
    have pq : p ≠ q := ne_of_none hp1 nq
    have hp2 := s2 _ _ hp1
    refine ⟨_, rfl, p, C, dx, _, rfl, hp2, T.cl, T.nL, (by show 1 < 1000; decide), ?_⟩
    refine ⟨_, rfl, p, C, dx, _, rfl, upd_same, T.cl, T.nE, (by show 2 < 1000; decide), ?_⟩
    rw [upd_upd]
    have a1 := fr2 _ f1
    have a2 := fr2 _ f2
    have a3 := fr2 _ f3
    have a4 := fr2 _ f4
    refine k _ ⟨g, q, nA, loA, hiA, wA, _, _, _, _, [], ⟨⟨dx, upd_same⟩, ?_, ?_, .nil, .nil, rfl, ne_of_none hg1 a1, ne_of_none hg1 a2, ne_of_none hg1 a3, ne_of_none hg1 a4, pq⟩, fun b hb => ?_⟩ fun b o hb nb => ?_
    · rw [upd_ne npg.symm]
      exact s2 _ _ hg1
    · exact L.put pq (ne_of_none hp1 a1) (ne_of_none hp1 a2) (ne_of_none hp1 a3) (ne_of_none hp1 a4) (fun xs z => by rw [hp2] at z; cases z)
    · rcases hb with rfl | rfl | rfl | rfl | rfl | rfl | rfl
      · exact .inl rfl
      · exact .inr hg
      · exact .inr (fr1 _ nq)
      · exact .inr (fr1 _ a1)
      · exact .inr (fr1 _ a2)
      · exact .inr (fr1 _ a3)
      · exact .inr (fr1 _ a4)
    · rw [upd_ne nb]
      exact s2 _ _ (k1 b o hb nb)
def SpAct (C CL : Addr) (call : Ks175.Call) (args : List V) : Sp := fun vs H Q _ => ∃ (p : Addr) (S : Addr → Prop) (s : Abs), vs = .ref p :: args ∧ Tk C CL H p S s ∧ Good s ∧
  ∀ (H' : Hp), Tk C CL H' p (fun b => S b ∨ H b = none) (Ks175.act s call).1 → (∀ b o, H b = some o → ¬ S b → H' b = some o) → Q (.int (Ks175.act s call).2.ret) H'
def spBegin (C CL : Addr) : Sp := fun vs H Q E => ∃ n : Nat, SpAct C CL (.start n) [.int (n : Int)] vs H Q E
theorem sc_begin : FnScope ["self", "tanks", "tank"] ["self", "tanks"] (defScope tBegin) := ⟨rfl, rfl, rfl, by decide +kernel, rfl, by decide +kernel, by decide +kernel⟩
theorem ok_begin {f C CL fL : Addr} {fd fdL : FuncData} (F : Fun K "begin" "Tanks.begin" tBegin f fd) (T : TxT K mg C) (TL : TxL K mg CL) (mgL : mg "Lots" = some (.ref CL)) (ML : Mk K CL fL) (FL : Fun K "__init__" "Lots.__init__" lInit fL fdL) (bL : Binds K fdL ["self", "tanks"] []) :
    FnOk P w K mg base CX0 3 f fd ["self", "tanks"] (spBegin C CL) := by
  have GL : FnOk P w K mg base CX0 1 fL fdL ["self", "tanks"] (spLots CL) := ok_lots FL TL
  refine F.ok sc_begin (fun vs H Q E h => ?_) (fun cdv A outer sh H vs Q E hr h => ?_)
  · obtain ⟨n, p, S, s, rfl, _⟩ := h
    rfl
  · obtain ⟨n, p, S, s, rfl, hT, good, k⟩ := h
    have hT0 := hT
    obtain ⟨g0, q0, nA0, loA0, hiA0, wA0, now0, los0, his0, ws0, wa0, tk, ow⟩ := hT
    obtain ⟨dx, hp⟩ := tk.ins
    obtain ⟨t1, m1⟩ := T.gTanks
    obtain ⟨t2, m2⟩ := T.gWrong
    refine ⟨_, (pss_cons (ps_if (PW.pt (pw_or (pt_cmpR op_eq (pv 1) pe_int (nomark _)) (pw_or1 (pt_cmpR op_gt (pv 1) (pe_glob (v := .int (32)) rfl m1 ⟨_, rfl⟩) (nomark _)))))
        (pss_one (ps_ret (pe_glob (v := .int (-22)) rfl m2 ⟨_, rfl⟩)))
        pss_nil)
      (pss_cons (ps_fld (pv 0) (pe_lc rfl sc_begin.nd (pi_range1 rfl T.range (pa_cons (pv 1) pa_nil)) (blkOk_by (own := [("tank", 2)]) (by show blkC ["self", "tanks", "tank"] (defScope tBegin) _ _ = true; decide +kernel)) (fun _ _ _ _ _ => (pg_name (i := 2) sc_begin.nd rfl (Or.inl rfl))) (fun _ _ _ _ _ => pts_nil) (fun _ _ _ _ _ => pe_int)) rfl)
      (pss_cons (ps_fld (pv 0) (pe_make ML GL hr rfl mgL bL .nil pass0 (pa_cons (pv 1) pa_nil)) rfl)
      (pss_cons (ps_fld (pv 0) pe_int rfl)
      (pss_one (ps_ret pe_int)))))), ?_⟩
    have bad : (n = 0 ∨ 32 < n) → Q (.int (-22)) H := fun hb => by
      have ea : Ks175.act s (.start n) = (s, Ks175.say (-22)) := by rw [act_start, if_pos hb]
      have k' := k H
      rw [ea] at k'
      exact k' (hT0.mono fun b hb => .inl hb) fun b o hb _ => hb
    refine ⟨_, rfl, rfl, _, rfl, ite2 (fun h0 => ?_) (fun h0 => ?_)⟩
    · rw [v_int_eq, decide_eq_true_eq] at h0
      exact iteT (bad (.inl (by omega)))
    · rw [v_int_eq, decide_eq_true_eq] at h0
      refine ⟨_, rfl, _, _, rfl, rfl, _, rfl, ite2 (fun h1 => ?_) (fun h1 => ?_)⟩
      · rw [decide_eq_true_eq] at h1
        exact bad (.inr (by omega))
      · rw [decide_eq_true_eq] at h1
        have ea : Ks175.act s (.start n) = (Ks175.start n, Ks175.say 0) := by rw [act_start, if_neg (show ¬ (n = 0 ∨ 32 < n) by omega)]
        rw [ea] at k
        refine ⟨_, rfl, (n : Int), rfl, by omega, by omega, fun g hg => lc_range (lo := 0) (fun i H' => H' = upd H g (.lst (nats (List.replicate i 0)))) rfl (fun i H' hi e' => ?_) (fun H' e' => ?_)⟩
        · subst e'
          refine ⟨rfl, ?_⟩
          dsimp only [tYes, tC]
          refine iteT ⟨_, upd_same, ?_, ?_⟩
          · rw [nats_length, List.length_replicate]
            exact small5 (show i < 100000 by omega)
          · rw [upd_upd, nats_rep]
        have e' : H' = upd H g (.lst (nats (List.replicate n 0))) := e'
        subst e'
        have npg : p ≠ g := ne_of_none hp hg
        refine ⟨_, rfl, p, C, dx, _, rfl, (by rw [upd_ne npg]; exact hp), T.cl, T.nG, (by rw [tf_eq]; show 3 < 1000; decide), ?_⟩
        rw [tf_putg]
        generalize hH1 : upd (upd H g (.lst (nats (List.replicate n 0)))) p (.ins C dx (tf g q0 s.went.length)) = H1
        have hp1 : H1 p = some (.ins C dx (tf g q0 s.went.length)) := by rw [← hH1, upd_same]
        have hg1 : H1 g = some (.lst (nats (List.replicate n 0))) := by rw [← hH1, upd_ne npg.symm, upd_same]
        have k1 : ∀ b o, H b = some o → b ≠ p → H1 b = some o := fun b o hb nb => by
          rw [← hH1, upd_ne nb, upd_ne (ne_of_none hb hg)]
          exact hb
        have fr1 : ∀ b, H1 b = none → H b = none := fun b hb => by
          cases z : H b with
          | none => rfl
          | some o =>
            by_cases y : b = p
            · rw [y, hp1] at hb
              cases hb
            · rw [k1 b o z y] at hb
              cases hb
        refine ⟨_, rfl, ?_⟩
        intro q dq nq ndq nedq
        refine ⟨q, dq, n, rfl, upd_same, by omega, fun H2 nA loA hiA wA f1 f2 f3 f4 L k2 => ⟨rfl, ?_⟩⟩
        have s2 : Same H1 H2 := Same.made nq ndq k2
        have fr2 : ∀ b, upd (upd H1 dq (.own q)) q (.ins CL dq []) b = none → H1 b = none := fun b hb => (upd_none (upd_none hb).2).2
        have pq : p ≠ q := ne_of_none hp1 nq
        have hp2 := s2 _ _ hp1
        refine ⟨_, rfl, p, C, dx, _, rfl, hp2, T.cl, T.nL, (by rw [tf_eq]; show 3 < 1000; decide), ?_⟩
        rw [tf_putl]
        refine ⟨_, rfl, p, C, dx, _, rfl, upd_same, T.cl, T.nE, (by rw [tf_eq]; show 3 < 1000; decide), ?_⟩
        rw [upd_upd]
        have e0 : putF "events" (.int 0) (tf g q s.went.length) = tf g q 0 := tf_pute g q _ 0
        rw [e0]
        have a1 := fr2 _ f1
        have a2 := fr2 _ f2
        have a3 := fr2 _ f3
        have a4 := fr2 _ f4
        refine k _ ⟨g, q, nA, loA, hiA, wA, _, _, _, _, [], ⟨⟨dx, upd_same⟩, ?_, ?_, .nil, .nil, rfl, ne_of_none hg1 a1, ne_of_none hg1 a2, ne_of_none hg1 a3, ne_of_none hg1 a4, pq⟩, fun b hb => ?_⟩ fun b o hb nb => ?_
        · rw [upd_ne npg.symm]
          exact s2 _ _ hg1
        · exact L.put pq (ne_of_none hp1 a1) (ne_of_none hp1 a2) (ne_of_none hp1 a3) (ne_of_none hp1 a4) (fun xs z => by rw [hp2] at z; cases z)
        · rcases hb with rfl | rfl | rfl | rfl | rfl | rfl | rfl
          · exact .inl (ow _ (.inl rfl))
          · exact .inr hg
          · exact .inr (fr1 _ nq)
          · exact .inr (fr1 _ a1)
          · exact .inr (fr1 _ a2)
          · exact .inr (fr1 _ a3)
          · exact .inr (fr1 _ a4)
        · have nbp : b ≠ p := fun z => nb (ow _ (.inl z))
          rw [upd_ne nbp]
          exact s2 _ _ (k1 b o hb nbp)
/-! ### come_in, pour -/
def spIn (C CL : Addr) : Sp := fun vs H Q E => ∃ t n lo hi : Nat, SpAct C CL (.in_ t n lo hi) [.int (t : Int), .int (n : Int), .int (lo : Int), .int (hi : Int)] vs H Q E
theorem sc_in : FnScope ["self", "tank", "amount", "least", "most"] ["self", "tank", "amount", "least", "most"] (defScope tIn) := ⟨rfl, rfl, rfl, by decide +kernel, rfl, by decide +kernel, by decide +kernel⟩
theorem ok_in {f C CL fT fF fC fJ : Addr} {fd fdT fdF fdC fdJ : FuncData} (F : Fun K "come_in" "Tanks.come_in" tIn f fd) (T : TxT K mg C) (TL : TxL K mg CL)
    (FT : Fun K "is_there" "Tanks.is_there" tThere fT fdT) (bT : Binds K fdT ["self", "tank"] []) (mT : Meth K C "is_there" fT)
    (FF : Fun K "is_full" "Tanks.is_full" tFull fF fdF) (bF : Binds K fdF ["self"] []) (mF : Meth K C "is_full" fF)
    (FC : Fun K "count_event" "Tanks.count_event" tCount fC fdC) (bC : Binds K fdC ["self"] []) (mC : Meth K C "count_event" fC)
    (FJ : Fun K "join_lot" "Lots.join_lot" lJoin fJ fdJ) (bJ : Binds K fdJ ["self", "tank", "least", "most"] []) (mJ : Meth K CL "join_lot" fJ) : FnOk P w K mg base CX0 2 f fd ["self", "tank", "amount", "least", "most"] (spIn C CL) := by
  have GT : FnOk P w K mg base CX0 1 fT fdT ["self", "tank"] (spThere C CL) := ok_there FT T
  have GF : FnOk P w K mg base CX0 1 fF fdF ["self"] (spFull C CL) := ok_full FF T
  have GC : FnOk P w K mg base CX0 1 fC fdC ["self"] (spCount C) := ok_count FC T
  have GJ : FnOk P w K mg base CX0 1 fJ fdJ ["self", "tank", "least", "most"] (spJoin CL) := ok_join FJ TL
  refine F.ok sc_in (fun vs H Q E h => ?_) (fun cdv A outer sh H vs Q E hr h => ?_)
  · obtain ⟨t, n, lo, hi, p, S, s, rfl, _⟩ := h
    rfl
  · obtain ⟨t, n, lo, hi, p, S, s, rfl, hT, good, k⟩ := h
    have hT0 := hT
    obtain ⟨g, q, nA, loA, hiA, wA, now, los, his, ws, wa, tk, ow⟩ := hT
    obtain ⟨dx, hp⟩ := tk.ins
    obtain ⟨t1, m1⟩ := T.gAmount
    obtain ⟨t2, m2⟩ := T.gWrong
    obtain ⟨t3, m3⟩ := T.gRoom
    refine ⟨_, (pss_cons (ps_if (PW.pt (pw_or (pt_not (pt_val (pe_meth (pv 0) T.cl mT GT hr bT .nil pass0 (pa_cons (pv 1) pa_nil)))) (pw_or (pt_cmpR op_eq (pv 2) pe_int (nomark _)) (pw_or1 (pt_cmpR op_gt (pv 2) (pe_glob (v := .int (1048576)) rfl m1 ⟨_, rfl⟩) (nomark _))))))
        (pss_one (ps_ret (pe_glob (v := .int (-22)) rfl m2 ⟨_, rfl⟩)))
        pss_nil)
      (pss_cons (ps_if (PW.pt (pw_or (pt_cmpR op_gt (pv 3) (pv 4) (nomark _)) (pw_or1 (pt_cmpR op_gt (pv 4) (pv 2) (nomark _)))))
        (pss_one (ps_ret (pe_glob (v := .int (-22)) rfl m2 ⟨_, rfl⟩)))
        pss_nil)
      (pss_cons (ps_if (pt_val (pe_meth0 (pv 0) T.cl mF GF hr bF .nil pass0))
        (pss_one (ps_ret (pe_glob (v := .int (-28)) rfl m3 ⟨_, rfl⟩)))
        pss_nil)
      (pss_cons (ps_augS (pe_fld (pv 0) rfl) (pv 1) get_list (pv 2) ip_add set_list)
      (pss_cons (ps_expr (pe_meth (pe_fld (pv 0) rfl) TL.cl mJ GJ hr bJ .nil pass0 (pa_cons (pv 1) (pa_cons (pv 3) (pa_cons (pv 4) pa_nil)))))
      (pss_one (ps_ret (pe_meth0 (pv 0) T.cl mC GC hr bC .nil pass0)))))))), ?_⟩
    have gl := gr_length s.tanks s.went
    have no : ∀ {m : Str}, ¬ m = "grains" → ¬ m = "lots" → ¬ m = "events" → (tf g q s.went.length).lookup m = none := fun h1 h2 h3 => tf_no g q _ h1 h2 h3
    have bad : (s.tanks ≤ t ∨ n = 0 ∨ 1048576 < n ∨ hi < lo ∨ n < hi) → Q (.int (-22)) H := fun hb => by
      have ea : Ks175.act s (.in_ t n lo hi) = (s, Ks175.say (-22)) := by rw [act_in, if_pos hb]
      have k' := k H
      rw [ea] at k'
      exact k' (hT0.mono fun b hb => .inl hb) fun b o hb _ => hb
    refine ⟨_, rfl, p, dx, _, rfl, hp, no (by decide +kernel) (by decide +kernel) (by decide +kernel), _, rfl, p, S, s, t, rfl, hT0, _, rfl, ite2 (fun h0 => ?_) (fun h0 => ?_)⟩
    · exact iteT (bad (.inl (by simpa using h0)))
    · have h0 : t < s.tanks := by simpa using h0
      refine ⟨_, rfl, rfl, _, rfl, ite2 (fun h1 => ?_) (fun h1 => ?_)⟩
      · rw [v_int_eq, decide_eq_true_eq] at h1
        exact iteT (bad (.inr (.inl (by omega))))
      · rw [v_int_eq, decide_eq_true_eq] at h1
        refine ⟨_, rfl, _, _, rfl, rfl, _, rfl, ite2 (fun h2 => ?_) (fun h2 => ?_)⟩
        · rw [decide_eq_true_eq] at h2
          exact bad (.inr (.inr (.inl (by omega))))
        · rw [decide_eq_true_eq] at h2
          refine ⟨_, rfl, _, rfl, _, _, rfl, rfl, _, rfl, ite2 (fun h3 => ?_) (fun h3 => ?_)⟩
          · rw [decide_eq_true_eq] at h3
            exact iteT (bad (.inr (.inr (.inr (.inl (by omega))))))
          · rw [decide_eq_true_eq] at h3
            refine ⟨_, rfl, _, rfl, _, _, rfl, rfl, _, rfl, ite2 (fun h4 => ?_) (fun h4 => ?_)⟩
            · rw [decide_eq_true_eq] at h4
              exact bad (.inr (.inr (.inr (.inr (by omega)))))
            · rw [decide_eq_true_eq] at h4
              have ea : Ks175.act s (.in_ t n lo hi) = s.goes (.in_ t n lo hi) := by rw [act_in, if_neg (show ¬ (s.tanks ≤ t ∨ n = 0 ∨ 1048576 < n ∨ hi < lo ∨ n < hi) by omega)]
              rw [ea] at k
              refine ⟨_, rfl, p, dx, _, rfl, hp, no (by decide +kernel) (by decide +kernel) (by decide +kernel), p, S, s, rfl, hT0, _, rfl, ite2 (fun h5 => ?_) (fun h5 => ?_)⟩
              · rw [decide_eq_true_eq] at h5
                have eg : s.goes (.in_ t n lo hi) = (s, Ks175.say (-28)) := by rw [goes_eq, if_pos h5]
                rw [eg] at k
                exact k H (hT0.mono fun b hb => .inl hb) fun b o hb _ => hb
              · rw [decide_eq_true_eq] at h5
                have eg : s.goes (.in_ t n lo hi) = ({ s with went := s.went ++ [.in_ t n lo hi] }, Ks175.say s.went.length) := by rw [goes_eq, if_neg h5]
                rw [eg] at k
                have ok := good.ok
                have Io := linv tk.lo ok
                have Ih := linv tk.hi ok
                -- self.grains[tank] += amount
                refine ⟨_, rfl, p, C, dx, _, _, rfl, hp, T.cl, T.nG, tf_g g q _, _, rfl, g, _, _, _, rfl, rfl, SqL.of tk.gr, atI_nat (nats_get (by omega)), _, rfl, _, _, rfl, rfl, g, _, _, t, rfl, rfl, tk.gr, ixN_nat (by rw [nats_length]; omega), ?_⟩
                have e2 : (nats (MG.gr s.tanks s.went)).set t (V.int (((MG.gr s.tanks s.went).getD t 0 : Nat) + (n : Int))) = nats (MG.gr s.tanks (s.went ++ [.in_ t n lo hi])) := by
                  rw [MG.gr_snoc]
                  exact nats_set _ _ _
                dsimp only
                rw [e2]
                obtain ⟨dq, hq⟩ := tk.lots.ins
                have gp : g ≠ p := ne_of tk.gr hp (by intro z; cases z)
                have gq : g ≠ q := ne_of tk.gr hq (by intro z; cases z)
                generalize hH1 : upd H g (.lst (nats (MG.gr s.tanks (s.went ++ [.in_ t n lo hi])))) = H1
                have L1 : LtAt CL H1 q nA loA hiA wA now los his ws wa := by
                  rw [← hH1]
                  exact tk.lots.put gq tk.g1 tk.g2 tk.g3 tk.g4 (fun xs z => by rw [tk.gr] at z; cases z)
                have hp1 : H1 p = some (.ins C dx (tf g q s.went.length)) := by
                  rw [← hH1, upd_ne gp.symm]
                  exact hp
                have hg1 : H1 g = some (.lst (nats (MG.gr s.tanks (s.went ++ [.in_ t n lo hi])))) := by rw [← hH1, upd_same]
                obtain ⟨dq1, hq1⟩ := L1.ins
                -- self.lots.join_lot(tank, least, most)
                refine ⟨_, rfl, p, C, dx, _, _, rfl, hp1, T.cl, T.nL, tf_l g q _, q, dq1, _, rfl, hq1, lf_no _ _ _ _ (by decide +kernel) (by decide +kernel) (by decide +kernel) (by decide +kernel), _, rfl, _, rfl, _, rfl, q, nA, loA, hiA, wA, now, los, his, ws, wa, t, lo, hi, rfl, L1, by rw [Io.nlen]; exact h0, Io.lt t h0, Ih.lt t h0, fun H2 L2 k2 => ?_⟩
                have hp2 : H2 p = some (.ins C dx (tf g q s.went.length)) := k2 _ _ hp1 (ne_of hp1 L1.hlo (by intro z; cases z)) (ne_of hp1 L1.hhi (by intro z; cases z))
                have hg2 := k2 _ _ hg1 tk.g2 tk.g3
                -- return self.count_event()
                refine ⟨_, rfl, p, dx, _, rfl, hp2, no (by decide +kernel) (by decide +kernel) (by decide +kernel), p, dx, g, q, s.went.length, rfl, hp2, ?_⟩
                refine k _ ⟨g, q, nA, loA, hiA, wA, now, _, _, ws, wa, ⟨⟨dx, ?_⟩, ?_, ?_, .in_ t n lo hi tk.lo, .in_ t n lo hi tk.hi, ?_, tk.g1, tk.g2, tk.g3, tk.g4, tk.pq⟩, fun b hb => .inl (ow b hb)⟩ fun b o hb nb => ?_
                · rw [upd_same]
                  show some (HO.ins C dx (tf g q (s.went.length + 1))) = some (HO.ins C dx (tf g q (s.went ++ [Went.in_ t n lo hi]).length))
                  rw [List.length_append]
                  rfl
                · rw [upd_ne gp]
                  exact hg2
                · exact L2.put tk.pq (ne_of hp2 L2.hn (by intro z; cases z)) (ne_of hp2 L2.hlo (by intro z; cases z)) (ne_of hp2 L2.hhi (by intro z; cases z)) (ne_of hp2 L2.hw (by intro z; cases z)) (fun xs z => by rw [hp2] at z; cases z)
                · rw [add_length, add_length]
                  exact tk.ll
                · have nb' : ∀ x, own p g q nA loA hiA wA x → b ≠ x := fun x hx z => nb (by rw [z]; exact ow x hx)
                  rw [upd_ne (nb' p (.inl rfl))]
                  refine k2 _ _ ?_ (nb' loA (.inr (.inr (.inr (.inr (.inl rfl)))))) (nb' hiA (.inr (.inr (.inr (.inr (.inr (.inl rfl)))))))
                  rw [← hH1, upd_ne (nb' g (.inr (.inl rfl)))]
                  exact hb
def spPour (C CL : Addr) : Sp := fun vs H Q E => ∃ a b n : Nat, SpAct C CL (.pour a b n) [.int (a : Int), .int (b : Int), .int (n : Int)] vs H Q E
theorem sc_pour : FnScope ["self", "source", "goal", "amount"] ["self", "source", "goal", "amount"] (defScope tPour) := ⟨rfl, rfl, rfl, by decide +kernel, rfl, by decide +kernel, by decide +kernel⟩
theorem ok_pour {f C CL fT fF fC fJ : Addr} {fd fdT fdF fdC fdJ : FuncData} (F : Fun K "pour" "Tanks.pour" tPour f fd) (T : TxT K mg C) (TL : TxL K mg CL)
    (FT : Fun K "is_there" "Tanks.is_there" tThere fT fdT) (bT : Binds K fdT ["self", "tank"] []) (mT : Meth K C "is_there" fT)
    (FF : Fun K "is_full" "Tanks.is_full" tFull fF fdF) (bF : Binds K fdF ["self"] []) (mF : Meth K C "is_full" fF)
    (FC : Fun K "count_event" "Tanks.count_event" tCount fC fdC) (bC : Binds K fdC ["self"] []) (mC : Meth K C "count_event" fC)
    (FJ : Fun K "part_lot" "Lots.part_lot" lPart fJ fdJ) (bJ : Binds K fdJ ["self", "source", "goal", "amount", "rest"] []) (mJ : Meth K CL "part_lot" fJ) : FnOk P w K mg base CX0 2 f fd ["self", "source", "goal", "amount"] (spPour C CL) := by
  have GT : FnOk P w K mg base CX0 1 fT fdT ["self", "tank"] (spThere C CL) := ok_there FT T
  have GF : FnOk P w K mg base CX0 1 fF fdF ["self"] (spFull C CL) := ok_full FF T
  have GC : FnOk P w K mg base CX0 1 fC fdC ["self"] (spCount C) := ok_count FC T
  have GJ : FnOk P w K mg base CX0 1 fJ fdJ ["self", "source", "goal", "amount", "rest"] (spPart CL) := ok_part FJ TL
  refine F.ok sc_pour (fun vs H Q E h => ?_) (fun cdv A outer sh H vs Q E hr h => ?_)
  · obtain ⟨a, b, n, p, S, s, rfl, _⟩ := h
    rfl
  · obtain ⟨a, b, n, p, S, s, rfl, hT, good, k⟩ := h
    have hT0 := hT
    obtain ⟨g, q, nA, loA, hiA, wA, now, los, his, ws, wa, tk, ow⟩ := hT
    obtain ⟨dx, hp⟩ := tk.ins
    obtain ⟨t2, m2⟩ := T.gWrong
    obtain ⟨t3, m3⟩ := T.gRoom
    obtain ⟨t5, m5⟩ := T.gFew
    refine ⟨_, (pss_cons (ps_if (PW.pt (pw_or (pt_not (pt_val (pe_meth (pv 0) T.cl mT GT hr bT .nil pass0 (pa_cons (pv 1) pa_nil)))) (pw_or1 (pt_not (pt_val (pe_meth (pv 0) T.cl mT GT hr bT .nil pass0 (pa_cons (pv 2) pa_nil)))))))
        (pss_one (ps_ret (pe_glob (v := .int (-22)) rfl m2 ⟨_, rfl⟩)))
        pss_nil)
      (pss_cons (ps_if (PW.pt (pw_or (pt_cmpR op_eq (pv 1) (pv 2) (nomark _)) (pw_or1 (pt_cmpR op_eq (pv 3) pe_int (nomark _)))))
        (pss_one (ps_ret (pe_glob (v := .int (-22)) rfl m2 ⟨_, rfl⟩)))
        pss_nil)
      (pss_cons (ps_if (pt_cmpR op_lt (pe_ix ix_list (pe_fld (pv 0) rfl) (pv 1) (fun _ _ => rfl)) (pv 3) (nomark _))
        (pss_one (ps_ret (pe_glob (v := .int (-33)) rfl m5 ⟨_, rfl⟩)))
        pss_nil)
      (pss_cons (ps_if (pt_val (pe_meth0 (pv 0) T.cl mF GF hr bF .nil pass0))
        (pss_one (ps_ret (pe_glob (v := .int (-28)) rfl m3 ⟨_, rfl⟩)))
        pss_nil)
      (pss_cons (ps_augS (pe_fld (pv 0) rfl) (pv 1) get_list (pv 3) ip_sub set_list)
      (pss_cons (ps_augS (pe_fld (pv 0) rfl) (pv 2) get_list (pv 3) ip_add set_list)
      (pss_cons (ps_expr (pe_meth (pe_fld (pv 0) rfl) TL.cl mJ GJ hr bJ .nil pass0 (pa_cons (pv 1) (pa_cons (pv 2) (pa_cons (pv 3) (pa_cons (pe_ix ix_list (pe_fld (pv 0) rfl) (pv 1) (fun _ _ => rfl)) pa_nil))))))
      (pss_one (ps_ret (pe_meth0 (pv 0) T.cl mC GC hr bC .nil pass0)))))))))), ?_⟩
    have gl := gr_length s.tanks s.went
    have no : ∀ {m : Str}, ¬ m = "grains" → ¬ m = "lots" → ¬ m = "events" → (tf g q s.went.length).lookup m = none := fun h1 h2 h3 => tf_no g q _ h1 h2 h3
    have bad : (s.tanks ≤ a ∨ s.tanks ≤ b ∨ a = b ∨ n = 0) → Q (.int (-22)) H := fun hb => by
      have ea : Ks175.act s (.pour a b n) = (s, Ks175.say (-22)) := by rw [act_pour, if_pos hb]
      have k' := k H
      rw [ea] at k'
      exact k' (hT0.mono fun b hb => .inl hb) fun b o hb _ => hb
    refine ⟨_, rfl, p, dx, _, rfl, hp, no (by decide +kernel) (by decide +kernel) (by decide +kernel), _, rfl, p, S, s, a, rfl, hT0, _, rfl, ite2 (fun h0 => ?_) (fun h0 => ?_)⟩
    · exact iteT (bad (.inl (by simpa using h0)))
    · have h0 : a < s.tanks := by simpa using h0
      refine ⟨_, rfl, p, dx, _, rfl, hp, no (by decide +kernel) (by decide +kernel) (by decide +kernel), _, rfl, p, S, s, b, rfl, hT0, _, rfl, ite2 (fun h1 => ?_) (fun h1 => ?_)⟩
      · exact bad (.inr (.inl (by simpa using h1)))
      · have h1 : b < s.tanks := by simpa using h1
        refine ⟨_, rfl, _, rfl, rfl, _, rfl, ite2 (fun h2 => ?_) (fun h2 => ?_)⟩
        · rw [v_int_eq, decide_eq_true_eq] at h2
          exact iteT (bad (.inr (.inr (.inl (by omega)))))
        · rw [v_int_eq, decide_eq_true_eq] at h2
          refine ⟨_, rfl, rfl, _, rfl, ite2 (fun h3 => ?_) (fun h3 => ?_)⟩
          · rw [v_int_eq, decide_eq_true_eq] at h3
            exact bad (.inr (.inr (.inr (by omega))))
          · rw [v_int_eq, decide_eq_true_eq] at h3
            have ea : Ks175.act s (.pour a b n) = if s.has a < n then (s, Ks175.say (-33)) else s.goes (.pour a b n) := by rw [act_pour, if_neg (show ¬ (s.tanks ≤ a ∨ s.tanks ≤ b ∨ a = b ∨ n = 0) by omega)]
            rw [ea] at k
            refine ⟨_, rfl, p, C, dx, _, _, rfl, hp, T.cl, T.nG, tf_g g q _, _, rfl, g, _, _, _, rfl, rfl, SqL.of tk.gr, atI_nat (nats_get (show a < _ by omega)), _, rfl, _, _, rfl, rfl, _, rfl, ite2 (fun h4 => ?_) (fun h4 => ?_)⟩
            · rw [decide_eq_true_eq] at h4
              rw [if_pos (show s.has a < n from Int.ofNat_lt.mp h4)] at k
              exact k H (hT0.mono fun b hb => .inl hb) fun b o hb _ => hb
            · rw [decide_eq_true_eq] at h4
              have h4' : ¬ s.has a < n := fun z => h4 (Int.ofNat_lt.mpr z)
              rw [if_neg h4'] at k
              refine ⟨_, rfl, p, dx, _, rfl, hp, no (by decide +kernel) (by decide +kernel) (by decide +kernel), p, S, s, rfl, hT0, _, rfl, ite2 (fun h5 => ?_) (fun h5 => ?_)⟩
              · rw [decide_eq_true_eq] at h5
                have eg : s.goes (.pour a b n) = (s, Ks175.say (-28)) := by rw [goes_eq, if_pos h5]
                rw [eg] at k
                exact k H (hT0.mono fun b hb => .inl hb) fun b o hb _ => hb
              · rw [decide_eq_true_eq] at h5
                have eg : s.goes (.pour a b n) = ({ s with went := s.went ++ [.pour a b n] }, Ks175.say s.went.length) := by rw [goes_eq, if_neg h5]
                rw [eg] at k
                have ok := good.ok
                have few := good.few
                have glen := good.len
                have Io := linv tk.lo ok
                have mm := mk_many tk.lo
                have nab : a ≠ b := fun z => h2 (by rw [z])
                have ll := tk.ll
                obtain ⟨dq, hq⟩ := tk.lots.ins
                have gp : g ≠ p := ne_of tk.gr hp (by intro z; cases z)
                have gq : g ≠ q := ne_of tk.gr hq (by intro z; cases z)
                -- self.grains[source] -= amount
                refine ⟨_, rfl, p, C, dx, _, _, rfl, hp, T.cl, T.nG, tf_g g q _, _, rfl, g, _, _, _, rfl, rfl, SqL.of tk.gr, atI_nat (nats_get (show a < _ by omega)), _, rfl, _, _, rfl, rfl, g, _, _, a, rfl, rfl, tk.gr, ixN_nat (by rw [nats_length]; omega), ?_⟩
                have h4n : n ≤ (MG.gr s.tanks s.went).getD a 0 := Nat.le_of_not_lt h4'
                have e1 : (nats (MG.gr s.tanks s.went)).set a (V.int (((MG.gr s.tanks s.went).getD a 0 : Nat) - (n : Int))) = nats (Ks175.less (MG.gr s.tanks s.went) a n) := by
                  rw [show (((MG.gr s.tanks s.went).getD a 0 : Nat) - (n : Int)) = (((MG.gr s.tanks s.went).getD a 0 - n : Nat) : Int) by omega]
                  exact nats_set _ _ _
                dsimp only
                rw [e1]
                have gl1 : (Ks175.less (MG.gr s.tanks s.went) a n).length = s.tanks := by rw [MG.less_length, gl]
                have hp1 : upd H g (.lst (nats (Ks175.less (MG.gr s.tanks s.went) a n))) p = some (.ins C dx (tf g q s.went.length)) := by
                  rw [upd_ne gp.symm]
                  exact hp
                -- self.grains[goal] += amount
                refine ⟨_, rfl, p, C, dx, _, _, rfl, hp1, T.cl, T.nG, tf_g g q _, _, rfl, g, _, _, _, rfl, rfl, SqL.of upd_same, atI_nat (nats_get (show b < _ by omega)), _, rfl, _, _, rfl, rfl, g, _, _, b, rfl, rfl, upd_same, ixN_nat (by rw [nats_length]; omega), ?_⟩
                have e2 : (nats (Ks175.less (MG.gr s.tanks s.went) a n)).set b (V.int (((Ks175.less (MG.gr s.tanks s.went) a n).getD b 0 : Nat) + (n : Int))) = nats (MG.gr s.tanks (s.went ++ [.pour a b n])) := by
                  rw [MG.gr_snoc]
                  exact nats_set _ _ _
                dsimp only
                rw [e2, upd_upd]
                generalize hH1 : upd H g (.lst (nats (MG.gr s.tanks (s.went ++ [.pour a b n])))) = H1
                have L1 : LtAt CL H1 q nA loA hiA wA now los his ws wa := by
                  rw [← hH1]
                  exact tk.lots.put gq tk.g1 tk.g2 tk.g3 tk.g4 (fun xs z => by rw [tk.gr] at z; cases z)
                have hp1 : H1 p = some (.ins C dx (tf g q s.went.length)) := by
                  rw [← hH1, upd_ne gp.symm]
                  exact hp
                have hg1 : H1 g = some (.lst (nats (MG.gr s.tanks (s.went ++ [.pour a b n])))) := by rw [← hH1, upd_same]
                obtain ⟨dq1, hq1⟩ := L1.ins
                have gl2 := gr_length s.tanks (s.went ++ [.pour a b n])
                have er : (MG.gr s.tanks (s.went ++ [.pour a b n])).getD a 0 = (MG.gr s.tanks s.went).getD a 0 - n := by
                  rw [gr_snoc]
                  show (Ks175.add (Ks175.less (MG.gr s.tanks s.went) a n) b n).getD a 0 = _
                  rw [pour_at n a (by omega) (by omega) nab, if_pos rfl]
                -- self.lots.part_lot(source, goal, amount, self.grains[source])
                refine ⟨_, rfl, p, C, dx, _, _, rfl, hp1, T.cl, T.nL, tf_l g q _, q, dq1, _, rfl, hq1, lf_no _ _ _ _ (by decide +kernel) (by decide +kernel) (by decide +kernel) (by decide +kernel), _, rfl, _, rfl, _, rfl, _, rfl, p, C, dx, _, _, rfl, hp1, T.cl, T.nG, tf_g g q _, _, rfl, g, _, _, _, rfl, rfl, SqL.of hg1, atI_nat (nats_get (show a < _ by omega)), ?_⟩
                rw [er]
                refine ⟨q, nA, loA, hiA, wA, now, los, his, ws, wa, a, b, n, _, rfl, L1, by rw [Io.nlen]; exact h0, by rw [Io.nlen]; exact h1, nab, by omega, by omega, by omega, fun H2 wa' L2 k2 => ?_⟩
                have hp2 : H2 p = some (.ins C dx (tf g q s.went.length)) := k2 _ _ hp1 (ne_of hp1 L1.hn (by intro z; cases z)) (ne_of hp1 L1.hlo (by intro z; cases z)) (ne_of hp1 L1.hhi (by intro z; cases z)) (ne_of hp1 L1.hw (by intro z; cases z))
                have hg2 := k2 _ _ hg1 tk.g1 tk.g2 tk.g3 tk.g4
                -- return self.count_event()
                refine ⟨_, rfl, p, dx, _, rfl, hp2, no (by decide +kernel) (by decide +kernel) (by decide +kernel), p, dx, g, q, s.went.length, rfl, hp2, ?_⟩
                have lo2 := LotsOf.pour a b n tk.lo
                have hi2 := LotsOf.pour a b n tk.hi
                rw [← ll] at hi2
                refine k _ ⟨g, q, nA, loA, hiA, wA, _, _, _, _, wa', ⟨⟨dx, ?_⟩, ?_, ?_, lo2, hi2, ?_, tk.g1, tk.g2, tk.g3, tk.g4, tk.pq⟩, fun b hb => .inl (ow b hb)⟩ fun x o hx nx => ?_
                · rw [upd_same]
                  show some (HO.ins C dx (tf g q (s.went.length + 1))) = some (HO.ins C dx (tf g q (s.went ++ [Went.pour a b n]).length))
                  rw [List.length_append]
                  rfl
                · rw [upd_ne gp]
                  exact hg2
                · exact L2.put tk.pq (ne_of hp2 L2.hn (by intro z; cases z)) (ne_of hp2 L2.hlo (by intro z; cases z)) (ne_of hp2 L2.hhi (by intro z; cases z)) (ne_of hp2 L2.hw (by intro z; cases z)) (fun xs z => by rw [hp2] at z; cases z)
                · rw [List.length_append, List.length_append, ll]
                · have nb' : ∀ y, own p g q nA loA hiA wA y → x ≠ y := fun y hy z => nx (by rw [z]; exact ow y hy)
                  rw [upd_ne (nb' p (.inl rfl))]
                  refine k2 _ _ ?_ (nb' nA (.inr (.inr (.inr (.inl rfl))))) (nb' loA (.inr (.inr (.inr (.inr (.inl rfl)))))) (nb' hiA (.inr (.inr (.inr (.inr (.inr (.inl rfl))))))) (nb' wA (.inr (.inr (.inr (.inr (.inr (.inr rfl)))))))
                  rw [← hH1, upd_ne (nb' g (.inr (.inl rfl)))]
                  exact hx
end
end Mg

set_option Elab.async false
set_option linter.all false
set_option maxRecDepth 100000
set_option maxHeartbeats 4000000
namespace Mg
open PySem PySem.Spec PyProof.Rows L2
open PySem.W (Codec)
open Ks175 (Went Abs)
open MG MD MN
section
variable {P : Program} {w : World} {K : PySem.W.Frag} {mg : Str → Option Value} {base : Heap}
theorem act_has (s : Abs) (t : Nat) : Ks175.act s (.has t) = (s, Ks175.say (if s.tanks ≤ t then -22 else (s.has t : Nat))) := rfl
theorem act_most (s : Abs) (t : Nat) : Ks175.act s (.most t) = (s, Ks175.say (if s.isSet t then (s.most t : Nat) else -22)) := rfl
theorem act_least (s : Abs) (t : Nat) : Ks175.act s (.least t) = (s, Ks175.say (if s.isSet t then (s.least t : Nat) else -22)) := rfl
def spHas (C CL : Addr) : Sp := fun vs H Q E => ∃ t : Nat, SpAct C CL (.has t) [.int (t : Int)] vs H Q E
theorem sc_has : FnScope ["self", "tank"] ["self", "tank"] (defScope tHas) := ⟨rfl, rfl, rfl, by decide +kernel, rfl, by decide +kernel, by decide +kernel⟩
theorem ok_has {f C CL fT : Addr} {fd fdT : FuncData} (F : Fun K "has" "Tanks.has" tHas f fd) (T : TxT K mg C)
    (FT : Fun K "is_there" "Tanks.is_there" tThere fT fdT) (bT : Binds K fdT ["self", "tank"] []) (mT : Meth K C "is_there" fT) : FnOk P w K mg base CX0 2 f fd ["self", "tank"] (spHas C CL) := by
  have GT : FnOk P w K mg base CX0 1 fT fdT ["self", "tank"] (spThere C CL) := ok_there FT T
  refine F.ok sc_has (fun vs H Q E h => ?_) (fun cdv A outer sh H vs Q E hr h => ?_)
  · obtain ⟨t, p, S, s, rfl, _⟩ := h
    rfl
  · obtain ⟨t, p, S, s, rfl, hT, good, k⟩ := h
    have hT0 := hT
    obtain ⟨g, q, nA, loA, hiA, wA, now, los, his, ws, wa, tk, ow⟩ := hT
    obtain ⟨dx, hp⟩ := tk.ins
    obtain ⟨t2, m2⟩ := T.gWrong
    refine ⟨_, (pss_cons (ps_if (pt_not (pt_val (pe_meth (pv 0) T.cl mT GT hr bT .nil pass0 (pa_cons (pv 1) pa_nil))))
        (pss_one (ps_ret (pe_glob (v := .int (-22)) rfl m2 ⟨_, rfl⟩)))
        pss_nil)
      (pss_one (ps_ret (pe_ix ix_list (pe_fld (pv 0) rfl) (pv 1) (fun _ _ => rfl))))), ?_⟩
    have gl := gr_length s.tanks s.went
    have k' := k H (hT0.mono fun b hb => .inl hb) fun b o hb _ => hb
    rw [act_has] at k'
    refine ⟨_, rfl, p, dx, _, rfl, hp, tf_no g q _ (by decide +kernel) (by decide +kernel) (by decide +kernel), _, rfl, p, S, s, t, rfl, hT0, _, rfl, ite2 (fun h0 => ?_) (fun h0 => ?_)⟩
    · have h0 : s.tanks ≤ t := by simpa using h0
      rw [if_pos h0] at k'
      exact k'
    · have h0 : t < s.tanks := by simpa using h0
      rw [if_neg (by omega)] at k'
      refine ⟨_, rfl, p, C, dx, _, _, rfl, hp, T.cl, T.nG, tf_g g q _, _, rfl, g, _, _, _, rfl, rfl, SqL.of tk.gr, atI_nat (nats_get (show t < _ by omega)), ?_⟩
      exact k'
theorem bit_one (s t : Nat) : (s / 2 ^ t % 2 = 1) ↔ s.testBit t = true := by
  rw [Nat.testBit_eq_decide_div_mod_eq, decide_eq_true_eq]
theorem bit_zero (s t : Nat) : (s / 2 ^ t % 2 = 0) ↔ s.testBit t = false := by
  rw [Nat.testBit_eq_decide_div_mod_eq, decide_eq_false_iff_not]
  omega
def spMost (C CL : Addr) : Sp := fun vs H Q E => ∃ t : Nat, SpAct C CL (.most t) [.int (t : Int)] vs H Q E
theorem sc_most : FnScope ["self", "tank_set"] ["self", "tank_set"] (defScope tMost) := ⟨rfl, rfl, rfl, by decide +kernel, rfl, by decide +kernel, by decide +kernel⟩
theorem ok_most {f C CL fA fW fM : Addr} {fd fdA fdW fdM : FuncData} (F : Fun K "most" "Tanks.most" tMost f fd) (T : TxT K mg C) (TL : TxL K mg CL)
    (FA : Fun K "are_there" "Tanks.are_there" tAre fA fdA) (bA : Binds K fdA ["self", "tank_set"] []) (mA : Meth K C "are_there" fA)
    (FW : Fun K "tanks_with" "Tanks.tanks_with" tWith fW fdW) (bW : Binds K fdW ["self", "tank_set", "bit"] []) (mW : Meth K C "tanks_with" fW)
    (GM : FnOk P w K mg base CX0 5 fM fdM ["self", "tanks"] (spMostIn CL)) (bM : Binds K fdM ["self", "tanks"] []) (mM : Meth K CL "most_in" fM) : FnOk P w K mg base CX0 6 f fd ["self", "tank_set"] (spMost C CL) := by
  have GA : FnOk P w K mg base CX0 1 fA fdA ["self", "tank_set"] (spAre C CL) := ok_are FA T
  have GW : FnOk P w K mg base CX0 1 fW fdW ["self", "tank_set", "bit"] (spWith C CL) := ok_with FW T
  refine F.ok sc_most (fun vs H Q E h => ?_) (fun cdv A outer sh H vs Q E hr h => ?_)
  · obtain ⟨t, p, S, s, rfl, _⟩ := h
    rfl
  · obtain ⟨t, p, S, s, rfl, hT, good, k⟩ := h
    have hT0 := hT
    obtain ⟨g, q, nA, loA, hiA, wA, now, los, his, ws, wa, tk, ow⟩ := hT
    obtain ⟨dx, hp⟩ := tk.ins
    obtain ⟨t2, m2⟩ := T.gWrong
    have hr1 : Room 1 _ := hr.mono (by decide)
    refine ⟨_, (pss_cons (ps_if (pt_not (pt_val (pe_meth (pv 0) T.cl mA GA hr1 bA .nil pass0 (pa_cons (pv 1) pa_nil))))
        (pss_one (ps_ret (pe_glob (v := .int (-22)) rfl m2 ⟨_, rfl⟩)))
        pss_nil)
      (pss_one (ps_ret (pe_meth (pe_fld (pv 0) rfl) TL.cl mM GM hr bM .nil pass0 (pa_cons (pe_meth (pv 0) T.cl mW GW hr1 bW .nil pass0 (pa_cons (pv 1) (pa_cons pe_int pa_nil))) pa_nil))))), ?_⟩
    rw [act_most] at k
    refine ⟨_, rfl, p, dx, _, rfl, hp, tf_no g q _ (by decide +kernel) (by decide +kernel) (by decide +kernel), _, rfl, p, S, s, t, rfl, hT0, _, rfl, ite2 (fun h0 => ?_) (fun h0 => ?_)⟩
    · have h0 : s.isSet t = false := by simpa using h0
      have k' := k H (hT0.mono fun b hb => .inl hb) fun b o hb _ => hb
      rw [h0] at k'
      exact k'
    · have h0 : s.isSet t = true := by simpa using h0
      rw [h0] at k
      obtain ⟨dq, hq⟩ := tk.lots.ins
      have few := good.few
      have glen := good.len
      have mm := mk_many tk.hi
      refine ⟨_, rfl, p, C, dx, _, _, rfl, hp, T.cl, T.nL, tf_l g q _, q, dq, _, rfl, hq, lf_no _ _ _ _ (by decide +kernel) (by decide +kernel) (by decide +kernel) (by decide +kernel),
        _, rfl, p, dx, _, rfl, hp, tf_no g q _ (by decide +kernel) (by decide +kernel) (by decide +kernel), _, rfl, p, S, s, t, 1, rfl, hT0, few, fun a tanks ha hmem hlen => ?_⟩
      have s1 : Same H (upd H a (.lst (nats tanks))) := Same.new (Same.refl H) ha
      refine ⟨q, nA, loA, hiA, wA, a, s.tanks, now, los, his, tanks, ws, wa, rfl, tk.lots.keep s1, upd_same, linv tk.hi good.ok, fun u hu => ((hmem u).mp hu).1, by omega, by omega, by omega, fun H' r F R mx same => ?_⟩
      have s2 := Same.trans s1 same
      have e := most_due tk.hi good.ok (s := t) (fun u => by rw [hmem, bit_one]) mx
      have k' := k H' ((hT0.keep s2).mono fun b hb => .inl hb) fun b o hb _ => s2 b o hb
      rw [← e]
      exact k'
def spLeast (C CL : Addr) : Sp := fun vs H Q E => ∃ t : Nat, SpAct C CL (.least t) [.int (t : Int)] vs H Q E
theorem sc_least : FnScope ["self", "tank_set"] ["self", "tank_set"] (defScope tLeast) := ⟨rfl, rfl, rfl, by decide +kernel, rfl, by decide +kernel, by decide +kernel⟩
theorem ok_least {f C CL fA fW fM : Addr} {fd fdA fdW fdM : FuncData} (F : Fun K "least" "Tanks.least" tLeast f fd) (T : TxT K mg C) (TL : TxL K mg CL)
    (FA : Fun K "are_there" "Tanks.are_there" tAre fA fdA) (bA : Binds K fdA ["self", "tank_set"] []) (mA : Meth K C "are_there" fA)
    (FW : Fun K "tanks_with" "Tanks.tanks_with" tWith fW fdW) (bW : Binds K fdW ["self", "tank_set", "bit"] []) (mW : Meth K C "tanks_with" fW)
    (GM : FnOk P w K mg base CX0 5 fM fdM ["self", "others"] (spLeastIn CL)) (bM : Binds K fdM ["self", "others"] []) (mM : Meth K CL "least_in" fM) : FnOk P w K mg base CX0 6 f fd ["self", "tank_set"] (spLeast C CL) := by
  have GA : FnOk P w K mg base CX0 1 fA fdA ["self", "tank_set"] (spAre C CL) := ok_are FA T
  have GW : FnOk P w K mg base CX0 1 fW fdW ["self", "tank_set", "bit"] (spWith C CL) := ok_with FW T
  refine F.ok sc_least (fun vs H Q E h => ?_) (fun cdv A outer sh H vs Q E hr h => ?_)
  · obtain ⟨t, p, S, s, rfl, _⟩ := h
    rfl
  · obtain ⟨t, p, S, s, rfl, hT, good, k⟩ := h
    have hT0 := hT
    obtain ⟨g, q, nA, loA, hiA, wA, now, los, his, ws, wa, tk, ow⟩ := hT
    obtain ⟨dx, hp⟩ := tk.ins
    obtain ⟨t2, m2⟩ := T.gWrong
    have hr1 : Room 1 _ := hr.mono (by decide)
    refine ⟨_, (pss_cons (ps_if (pt_not (pt_val (pe_meth (pv 0) T.cl mA GA hr1 bA .nil pass0 (pa_cons (pv 1) pa_nil))))
        (pss_one (ps_ret (pe_glob (v := .int (-22)) rfl m2 ⟨_, rfl⟩)))
        pss_nil)
      (pss_one (ps_ret (pe_meth (pe_fld (pv 0) rfl) TL.cl mM GM hr bM .nil pass0 (pa_cons (pe_meth (pv 0) T.cl mW GW hr1 bW .nil pass0 (pa_cons (pv 1) (pa_cons pe_int pa_nil))) pa_nil))))), ?_⟩
    rw [act_least] at k
    refine ⟨_, rfl, p, dx, _, rfl, hp, tf_no g q _ (by decide +kernel) (by decide +kernel) (by decide +kernel), _, rfl, p, S, s, t, rfl, hT0, _, rfl, ite2 (fun h0 => ?_) (fun h0 => ?_)⟩
    · have h0 : s.isSet t = false := by simpa using h0
      have k' := k H (hT0.mono fun b hb => .inl hb) fun b o hb _ => hb
      rw [h0] at k'
      exact k'
    · have h0 : s.isSet t = true := by simpa using h0
      rw [h0] at k
      obtain ⟨dq, hq⟩ := tk.lots.ins
      have few := good.few
      have glen := good.len
      have mm := mk_many tk.lo
      refine ⟨_, rfl, p, C, dx, _, _, rfl, hp, T.cl, T.nL, tf_l g q _, q, dq, _, rfl, hq, lf_no _ _ _ _ (by decide +kernel) (by decide +kernel) (by decide +kernel) (by decide +kernel),
        _, rfl, p, dx, _, rfl, hp, tf_no g q _ (by decide +kernel) (by decide +kernel) (by decide +kernel), _, rfl, p, S, s, t, 0, rfl, hT0, few, fun a tanks ha hmem hlen => ?_⟩
      have s1 : Same H (upd H a (.lst (nats tanks))) := Same.new (Same.refl H) ha
      refine ⟨q, nA, loA, hiA, wA, a, s.tanks, now, los, his, tanks, ws, wa, rfl, tk.lots.keep s1, upd_same, linv tk.lo good.ok, fun u hu => ((hmem u).mp hu).1, by omega, by omega, by omega, fun H' r F R mx same => ?_⟩
      have s2 := Same.trans s1 same
      have e := least_due tk.lo good.ok (s := t) (fun u => by rw [hmem, bit_zero]) mx
      have k' := k H' ((hT0.keep s2).mono fun b hb => .inl hb) fun b o hb _ => s2 b o hb
      rw [← e]
      exact k'
end
end Mg

set_option Elab.async false
set_option linter.all false
set_option maxRecDepth 100000
set_option maxHeartbeats 4000000
namespace Mg
open PySem PySem.Spec PyProof.Rows L2
open PySem.W (Codec)
open Ks175 (Went Abs)
open MG MD MN
def wid : Nat → Nat
  | 1 => 4
  | 2 => 3
  | _ => 1
theorem call_shape {c : List (List Int)} (h : CallIs c) : ∃ (k : Nat) (xs : List Int), c = [(k : Int) :: xs] ∧ k < 6 ∧ xs.length = wid k := by
  cases h with
  | start a => exact ⟨0, _, rfl, by decide, rfl⟩
  | in_ a b c d => exact ⟨1, _, rfl, by decide, rfl⟩
  | pour a b c => exact ⟨2, _, rfl, by decide, rfl⟩
  | has a => exact ⟨3, _, rfl, by decide, rfl⟩
  | most a => exact ⟨4, _, rfl, by decide, rfl⟩
  | least a => exact ⟨5, _, rfl, by decide, rfl⟩
/-- the promise of answer: one call -/
def spOne (C CL : Addr) : Sp := fun vs H Q _ => ∃ (p v : Addr) (S : Addr → Prop) (s : Abs) (k : Nat) (xs : List Int), vs = [.ref p, .int (k : Int), .ref v] ∧ H v = some (.lst (vints xs)) ∧ CallIs [(k : Int) :: xs] ∧ Good s ∧ Tk C CL H p S s ∧
  ∀ (r : Int) (H' : Hp), (Ks175Neutral.step s [(k : Int) :: xs]).2 = [r] → Tk C CL H' p (fun b => S b ∨ H b = none) (Ks175Neutral.step s [(k : Int) :: xs]).1 → (∀ b o, H b = some o → ¬ S b → H' b = some o) → Q (.int r) H'
section
variable {P : Program} {w : World} {K : PySem.W.Frag} {mg : Str → Option Value} {base : Heap}
theorem sc_one : FnScope ["tanks", "number", "values"] ["tanks", "number", "values"] (defScope sAns1) := ⟨rfl, rfl, rfl, by decide +kernel, rfl, by decide +kernel, by decide +kernel⟩
structure TxA (mg : Str → Option Value) : Prop where
  gStart : ∃ t, mg "START" = some (.int 0 t)
  gIn : ∃ t, mg "COME_IN" = some (.int 1 t)
  gPour : ∃ t, mg "POUR" = some (.int 2 t)
  gHas : ∃ t, mg "HAS" = some (.int 3 t)
  gMost : ∃ t, mg "MOST" = some (.int 4 t)
theorem ok_one {f C CL fB fN fP fH fM fL : Addr} {fd fdB fdN fdP fdH fdM fdL : FuncData} (F : Fun K "answer" "answer" sAns1 f fd) (T : TxT K mg C) (TA : TxA mg)
    (GB : FnOk P w K mg base CX0 3 fB fdB ["self", "tanks"] (spBegin C CL)) (bB : Binds K fdB ["self", "tanks"] []) (mB : Meth K C "begin" fB)
    (GN : FnOk P w K mg base CX0 2 fN fdN ["self", "tank", "amount", "least", "most"] (spIn C CL)) (bN : Binds K fdN ["self", "tank", "amount", "least", "most"] []) (mN : Meth K C "come_in" fN)
    (GP : FnOk P w K mg base CX0 2 fP fdP ["self", "source", "goal", "amount"] (spPour C CL)) (bP : Binds K fdP ["self", "source", "goal", "amount"] []) (mP : Meth K C "pour" fP)
    (GH : FnOk P w K mg base CX0 2 fH fdH ["self", "tank"] (spHas C CL)) (bH : Binds K fdH ["self", "tank"] []) (mH : Meth K C "has" fH)
    (GM : FnOk P w K mg base CX0 6 fM fdM ["self", "tank_set"] (spMost C CL)) (bM : Binds K fdM ["self", "tank_set"] []) (mM : Meth K C "most" fM)
    (GL : FnOk P w K mg base CX0 6 fL fdL ["self", "tank_set"] (spLeast C CL)) (bL : Binds K fdL ["self", "tank_set"] []) (mL : Meth K C "least" fL) : FnOk P w K mg base CX0 7 f fd ["tanks", "number", "values"] (spOne C CL) := by
  refine F.ok sc_one (fun vs H Q E h => ?_) (fun cdv A outer sh H vs Q E hr h => ?_)
  · obtain ⟨p, v, S, s, k, xs, rfl, _⟩ := h
    rfl
  · obtain ⟨p, v, S, s, k, xs, rfl, hv, ci, good, hT, kk⟩ := h
    have hT0 := hT
    obtain ⟨g, q, nA, loA, hiA, wA, now, los, his, ws, wa, tk, ow⟩ := hT
    obtain ⟨dx, hp⟩ := tk.ins
    have hr2 : Room 2 _ := hr.mono (by decide)
    have hr3 : Room 3 _ := hr.mono (by decide)
    obtain ⟨t0, m0⟩ := TA.gStart
    obtain ⟨t1, m1⟩ := TA.gIn
    obtain ⟨t2, m2⟩ := TA.gPour
    obtain ⟨t3, m3⟩ := TA.gHas
    obtain ⟨t4, m4⟩ := TA.gMost
    refine ⟨_, (pss_cons (ps_if (pt_cmpR op_eq (pv 1) (pe_glob (v := .int (0)) rfl m0 ⟨_, rfl⟩) (nomark _))
        (pss_one (ps_ret (pe_meth (pv 0) T.cl mB GB hr3 bB .nil pass0 (pa_cons (pe_ix ix_list (pv 2) pe_int (fun _ _ => rfl)) pa_nil))))
        pss_nil)
      (pss_cons (ps_if (pt_cmpR op_eq (pv 1) (pe_glob (v := .int (1)) rfl m1 ⟨_, rfl⟩) (nomark _))
        (pss_one (ps_ret (pe_meth (pv 0) T.cl mN GN hr2 bN .nil pass0 (pa_cons (pe_ix ix_list (pv 2) pe_int (fun _ _ => rfl)) (pa_cons (pe_ix ix_list (pv 2) pe_int (fun _ _ => rfl)) (pa_cons (pe_ix ix_list (pv 2) pe_int (fun _ _ => rfl)) (pa_cons (pe_ix ix_list (pv 2) pe_int (fun _ _ => rfl)) pa_nil)))))))
        pss_nil)
      (pss_cons (ps_if (pt_cmpR op_eq (pv 1) (pe_glob (v := .int (2)) rfl m2 ⟨_, rfl⟩) (nomark _))
        (pss_one (ps_ret (pe_meth (pv 0) T.cl mP GP hr2 bP .nil pass0 (pa_cons (pe_ix ix_list (pv 2) pe_int (fun _ _ => rfl)) (pa_cons (pe_ix ix_list (pv 2) pe_int (fun _ _ => rfl)) (pa_cons (pe_ix ix_list (pv 2) pe_int (fun _ _ => rfl)) pa_nil))))))
        pss_nil)
      (pss_cons (ps_if (pt_cmpR op_eq (pv 1) (pe_glob (v := .int (3)) rfl m3 ⟨_, rfl⟩) (nomark _))
        (pss_one (ps_ret (pe_meth (pv 0) T.cl mH GH hr2 bH .nil pass0 (pa_cons (pe_ix ix_list (pv 2) pe_int (fun _ _ => rfl)) pa_nil))))
        pss_nil)
      (pss_cons (ps_if (pt_cmpR op_eq (pv 1) (pe_glob (v := .int (4)) rfl m4 ⟨_, rfl⟩) (nomark _))
        (pss_one (ps_ret (pe_meth (pv 0) T.cl mM GM hr bM .nil pass0 (pa_cons (pe_ix ix_list (pv 2) pe_int (fun _ _ => rfl)) pa_nil))))
        pss_nil)
      (pss_one (ps_ret (pe_meth (pv 0) T.cl mL GL hr bL .nil pass0 (pa_cons (pe_ix ix_list (pv 2) pe_int (fun _ _ => rfl)) pa_nil))))))))), ?_⟩
    have no : ∀ {m : Str}, ¬ m = "grains" → ¬ m = "lots" → ¬ m = "events" → (tf g q s.went.length).lookup m = none := fun h1 h2 h3 => tf_no g q _ h1 h2 h3
    refine ⟨_, rfl, rfl, _, rfl, ?_⟩
    rw [v_int_eq]
    generalize hc : [(k : Int) :: xs] = c at ci kk
    cases ci with
    | start a ha =>
      obtain ⟨e1, e2⟩ := List.cons.inj (List.cons.inj hc).1
      have hk0 : k = 0 := by omega
      subst hk0 e2
      rw [if_pos (by decide)]
      refine ⟨_, rfl, p, dx, _, rfl, hp, no (by decide +kernel) (by decide +kernel) (by decide +kernel), _, rfl, v, _, _, _, rfl, rfl, SqL.of hv, atI_nat (j := 0) rfl, a, p, S, s, rfl, hT0, good, fun H' h1 h2 => ?_⟩
      exact kk _ H' rfl h1 h2
    | in_ a b c d ha hb hc' hd =>
      obtain ⟨e1, e2⟩ := List.cons.inj (List.cons.inj hc).1
      have hk0 : k = 1 := by omega
      subst hk0 e2
      rw [if_neg (by decide)]
      refine ⟨_, rfl, rfl, _, rfl, iteP (by rw [v_int_eq]; decide) ?_⟩
      refine ⟨_, rfl, p, dx, _, rfl, hp, no (by decide +kernel) (by decide +kernel) (by decide +kernel), _, rfl, v, _, _, _, rfl, rfl, SqL.of hv, atI_nat (j := 0) rfl, _, rfl, v, _, _, _, rfl, rfl, SqL.of hv, atI_nat (j := 1) rfl,
        _, rfl, v, _, _, _, rfl, rfl, SqL.of hv, atI_nat (j := 2) rfl, _, rfl, v, _, _, _, rfl, rfl, SqL.of hv, atI_nat (j := 3) rfl, a, b, c, d, p, S, s, rfl, hT0, good, fun H' h1 h2 => ?_⟩
      exact kk _ H' rfl h1 h2
    | pour a b c ha hb hc' =>
      obtain ⟨e1, e2⟩ := List.cons.inj (List.cons.inj hc).1
      have hk0 : k = 2 := by omega
      subst hk0 e2
      rw [if_neg (by decide)]
      refine ⟨_, rfl, rfl, _, rfl, iteN (by rw [v_int_eq]; decide) ?_⟩
      refine ⟨_, rfl, rfl, _, rfl, iteP (by rw [v_int_eq]; decide) ?_⟩
      refine ⟨_, rfl, p, dx, _, rfl, hp, no (by decide +kernel) (by decide +kernel) (by decide +kernel), _, rfl, v, _, _, _, rfl, rfl, SqL.of hv, atI_nat (j := 0) rfl, _, rfl, v, _, _, _, rfl, rfl, SqL.of hv, atI_nat (j := 1) rfl,
        _, rfl, v, _, _, _, rfl, rfl, SqL.of hv, atI_nat (j := 2) rfl, a, b, c, p, S, s, rfl, hT0, good, fun H' h1 h2 => ?_⟩
      exact kk _ H' rfl h1 h2
    | has a ha =>
      obtain ⟨e1, e2⟩ := List.cons.inj (List.cons.inj hc).1
      have hk0 : k = 3 := by omega
      subst hk0 e2
      rw [if_neg (by decide)]
      refine ⟨_, rfl, rfl, _, rfl, iteN (by rw [v_int_eq]; decide) ?_⟩
      refine ⟨_, rfl, rfl, _, rfl, iteN (by rw [v_int_eq]; decide) ?_⟩
      refine ⟨_, rfl, rfl, _, rfl, iteP (by rw [v_int_eq]; decide) ?_⟩
      refine ⟨_, rfl, p, dx, _, rfl, hp, no (by decide +kernel) (by decide +kernel) (by decide +kernel), _, rfl, v, _, _, _, rfl, rfl, SqL.of hv, atI_nat (j := 0) rfl, a, p, S, s, rfl, hT0, good, fun H' h1 h2 => ?_⟩
      exact kk _ H' rfl h1 h2
    | most a ha =>
      obtain ⟨e1, e2⟩ := List.cons.inj (List.cons.inj hc).1
      have hk0 : k = 4 := by omega
      subst hk0 e2
      rw [if_neg (by decide)]
      refine ⟨_, rfl, rfl, _, rfl, iteN (by rw [v_int_eq]; decide) ?_⟩
      refine ⟨_, rfl, rfl, _, rfl, iteN (by rw [v_int_eq]; decide) ?_⟩
      refine ⟨_, rfl, rfl, _, rfl, iteN (by rw [v_int_eq]; decide) ?_⟩
      refine ⟨_, rfl, rfl, _, rfl, iteP (by rw [v_int_eq]; decide) ?_⟩
      refine ⟨_, rfl, p, dx, _, rfl, hp, no (by decide +kernel) (by decide +kernel) (by decide +kernel), _, rfl, v, _, _, _, rfl, rfl, SqL.of hv, atI_nat (j := 0) rfl, a, p, S, s, rfl, hT0, good, fun H' h1 h2 => ?_⟩
      exact kk _ H' rfl h1 h2
    | least a ha =>
      obtain ⟨e1, e2⟩ := List.cons.inj (List.cons.inj hc).1
      have hk0 : k = 5 := by omega
      subst hk0 e2
      rw [if_neg (by decide)]
      refine ⟨_, rfl, rfl, _, rfl, iteN (by rw [v_int_eq]; decide) ?_⟩
      refine ⟨_, rfl, rfl, _, rfl, iteN (by rw [v_int_eq]; decide) ?_⟩
      refine ⟨_, rfl, rfl, _, rfl, iteN (by rw [v_int_eq]; decide) ?_⟩
      refine ⟨_, rfl, rfl, _, rfl, iteN (by rw [v_int_eq]; decide) ?_⟩
      refine ⟨_, rfl, p, dx, _, rfl, hp, no (by decide +kernel) (by decide +kernel) (by decide +kernel), _, rfl, v, _, _, _, rfl, rfl, SqL.of hv, atI_nat (j := 0) rfl, a, p, S, s, rfl, hT0, good, fun H' h1 h2 => ?_⟩
      exact kk _ H' rfl h1 h2
theorem cut_mid (A B : List Int) (k : Int) (R : List Int) : cutV (vints (A ++ (k :: B) ++ R)) (some ((A.length : Int) + 1)) (some ((A.length : Int) + 1 + (B.length : Int))) = vints B := by
  unfold cutV
  have e1 : ((A.length : Int) + 1) = ((A.length + 1 : Nat) : Int) := by omega
  have e2 : ((A.length : Int) + 1 + (B.length : Int)) = ((A.length + 1 + B.length : Nat) : Int) := by omega
  rw [e2, e1, HT.sIx_nat, HT.sIx_nat]
  have hl : (vints (A ++ (k :: B) ++ R)).length = A.length + 1 + B.length + R.length := by
    simp [vints]
    omega
  rw [hl, show min (A.length + 1) (A.length + 1 + B.length + R.length) = A.length + 1 by omega, show min (A.length + 1 + B.length) (A.length + 1 + B.length + R.length) = A.length + 1 + B.length by omega,
    show A.length + 1 + B.length - (A.length + 1) = B.length by omega]
  unfold vints
  rw [← List.map_drop, ← List.map_take]
  congr 1
  rw [show A ++ k :: B ++ R = (A ++ [k]) ++ (B ++ R) by simp]
  rw [show A.length + 1 = (A ++ [k]).length by simp, List.drop_left, List.take_left]
theorem get_mid (A B : List Int) (k : Int) : (vints (A ++ k :: B))[A.length]? = some (V.int k) := by
  unfold vints
  rw [List.getElem?_map, List.getElem?_append_right (Nat.le_refl _)]
  simp
/-- answers: a list of ints is handed in, the list that is due comes out -/
def spAns (K : PySem.W.Frag) : Sp := fun vs H Q _ => ∃ (a : Addr) (ns : List Int) (todo : List (List (List Int))), vs = [.ref a] ∧ SqL K H a (vints ns) ∧ Mid ns [] todo ∧ ns.length ≤ 30000 ∧
  ∀ (H' : Hp) (q : Addr), H' q = some (.lst (vints (PyKs175.answers ns))) → Q (.ref q) H'
theorem sc_ans : FnScope ["calls", "tanks", "answered", "place", "number", "behind"] ["calls"] (defScope sAns) := ⟨rfl, rfl, rfl, by decide +kernel, rfl, by decide +kernel, by decide +kernel⟩
/-- between two turns -/
structure Turn (C CL : Addr) (H0 H : Hp) (ns : List Int) (p l : Addr) (done todo : List (List (List Int))) : Prop where
  mid : Mid ns done todo
  same : Same H0 H
  fl : H0 l = none
  out : H l = some (.lst (vints (said done)))
  tk : Tk C CL H p (fun b => H0 b = none ∧ b ≠ l) (runS Ks175Neutral.start done)
theorem ok_ans {f C CL fI fA aw : Addr} {fd fdI fdA : FuncData} {ws : List V} (F : Fun K "answers" "answers" sAns f fd) (T : TxT K mg C) (mgT : mg "Tanks" = some (.ref C)) (M : Mk K C fI) (GI : FnOk P w K mg base CX0 3 fI fdI ["self"] (spInit C CL)) (bI : Binds K fdI ["self"] [])
    (FA : FnOk P w K mg base CX0 7 fA fdA ["tanks", "number", "values"] (spOne C CL)) (bA : Binds K fdA ["tanks", "number", "values"] []) (mgA : mg "answer" = some (.ref fA)) (kpA : PySem.W.keepIn K (.ref fA) = true)
    (mgW : mg "WIDTHS" = some (.ref aw)) (hW : ∀ H, SqT K H aw ws) (hws : ∀ k : Nat, k < 6 → ws[k]? = some (.int (wid k : Int))) : FnOk P w K mg base CX0 8 f fd ["calls"] (spAns K) := by
  refine F.ok sc_ans (fun vs H Q E h => ?_) (fun cdv A outer s H vs Q E hr h => ?_)
  · obtain ⟨a, ns, todo, rfl, _⟩ := h
    rfl
  · obtain ⟨a, ns, todo, rfl, hS, hM, hlen, k⟩ := h
    have hr4 : Room 4 _ := hr.mono (by decide)
    refine ⟨_, pss_cons (ps_set (i := 1) sc_ans.nd rfl (Or.inl rfl) (pe_make0 M GI hr4 rfl mgT bI .nil pass0))
      (pss_cons (ps_set (i := 2) sc_ans.nd rfl (Or.inl rfl) (pe_lst pa_nil))
      (pss_cons (ps_set (i := 3) sc_ans.nd rfl (Or.inl rfl) pe_int)
      (pss_cons (ps_while PassesOwn.never (pt_cmpR op_lt (pv 3) (pe_callB call_len_seq (by rfl) T.len PySem.boot_len (pa_cons (pv 0) pa_nil)) (nomark _))
        (pss_cons (ps_set (i := 4) sc_ans.nd rfl (Or.inl rfl) (pe_ix ix_list (pv 0) (pv 3) (fun _ _ => rfl)))
        (pss_cons (ps_set (i := 5) sc_ans.nd rfl (Or.inl rfl) (pe_op op_add (pe_op op_add (pv 3) pe_int) (pe_ix ix_tup (pe_glob (v := .ref aw) rfl mgW rfl) (pv 4) (fun _ _ => rfl))))
        (pss_cons (ps_expr (pe_bm PySem.F.plainAttrs_list PySem.F.slot_list_append PySem.F.type_list_append mt_append (pv 2) (pa_cons pe_int pa_nil)))
        (pss_cons (ps_expr (pe_bm PySem.F.plainAttrs_list PySem.F.slot_list_append PySem.F.type_list_append mt_append (pv 2) (pa_cons (pe_call FA hr rfl mgA kpA bA .nil pass0 (pa_cons (pv 1) (pa_cons (pv 4) (pa_cons (pe_slice sl_list (pv 0) (po_some (pe_op op_add (pv 3) pe_int)) (po_some (pv 5))) pa_nil)))) pa_nil)))
        (pss_one (ps_set (i := 3) sc_ans.nd rfl (Or.inl rfl) (pv 5))))))))
      (pss_one (ps_ret (pv 2)))))), ?_⟩
    -- tanks = Tanks(); answered = []; place = 0
    intro p dx np ndx nex
    refine ⟨p, dx, rfl, upd_same, fun H1 hT kp => ⟨rfl, ?_⟩⟩
    have s1 : Same H H1 := Same.made np ndx kp
    refine ⟨Nat.zero_le _, fun l hl => ?_⟩
    have fl : H l = none := s1.free hl
    have tk0 : Tk C CL (upd H1 l (.lst [])) p (fun b => H b = none ∧ b ≠ l) Ks175Neutral.start := by
      obtain ⟨g, q, nA, loA, hiA, wA, now, los, his, ws', wa, t, ow⟩ := hT.keep (Same.new (o := .lst []) (Same.refl H1) hl)
      obtain ⟨d0, h0⟩ := t.ins
      obtain ⟨d1, h1⟩ := t.lots.ins
      have pl : ∀ b o, upd H1 l (.lst []) b = some o → (H1 b ≠ none ∨ o ≠ .lst []) → b ≠ l := fun b o hb z e => by
        subst e
        rw [upd_same] at hb
        cases hb
        rcases z with z | z
        · exact z hl
        · exact z rfl
      have key : ∀ b, (b = p ∨ upd (upd H dx (.own p)) p (.ins C dx []) b = none) → H b = none := fun b hb => by
        rcases hb with rfl | hb
        · exact np
        · exact (upd_none (upd_none hb).2).2
      obtain ⟨g', q', nA', loA', hiA', wA', now', los', his', ws'', wa', t', ow'⟩ := hT
      obtain ⟨d0', h0'⟩ := t'.ins
      obtain ⟨d1', h1'⟩ := t'.lots.ins
      have t2 := t'.lots.keep (Same.new (o := .lst []) (Same.refl H1) hl)
      have sm := Same.new (o := .lst []) (Same.refl H1) hl
      refine ⟨g', q', nA', loA', hiA', wA', now', los', his', ws'', wa', ⟨⟨d0', sm _ _ h0'⟩, sm _ _ t'.gr, t2, t'.lo, t'.hi, t'.ll, t'.g1, t'.g2, t'.g3, t'.g4, t'.pq⟩, fun b hb => ⟨key b (ow' b hb), ?_⟩⟩
      rcases hb with rfl | rfl | rfl | rfl | rfl | rfl | rfl
      · exact ne_of_none h0' hl
      · exact ne_of_none t'.gr hl
      · exact ne_of_none h1' hl
      · exact ne_of_none t'.lots.hn hl
      · exact ne_of_none t'.lots.hlo hl
      · exact ne_of_none t'.lots.hhi hl
      · exact ne_of_none t'.lots.hw hl
    have t0 : Turn C CL H (upd H1 l (.lst [])) ns p l [] todo := ⟨hM, Same.new s1 hl, fl, upd_same, tk0⟩
    refine ⟨fun m σ H' => ∃ (done todo : List (List (List Int))) (v4 v5 : Option V), σ = [some (.ref a), some (.ref p), some (.ref l), some (.int ((PyFlat.put done).length : Int)), v4, v5] ∧ m = todo.length ∧ Turn C CL H H' ns p l done todo,
      ⟨_, [], todo, none, none, rfl, rfl, t0⟩, ?_⟩
    rintro m σ H' ⟨done, todo, v4, v5, rfl, rfl, t⟩
    have hS' : SqL K H' a (vints ns) := t.same.seq hS
    refine ⟨_, rfl, _, rfl, a, _, rfl, .inl hS', _, _, rfl, rfl, _, rfl, ?_⟩
    rw [show (vints ns).length = ns.length from List.length_map _]
    cases todo with
    | nil =>
      have e0 : ns = PyFlat.put done := by
        have := t.mid.all
        rw [this]
        exact List.append_nil _
      refine iteN (by rw [decide_eq_true_eq, e0]; omega) ?_
      refine ⟨_, rfl, ?_⟩
      refine k H' l ?_
      rw [t.mid.done]
      exact t.out
    | cons c todo =>
      have ci : CallIs c := t.mid.is c (List.mem_append.mpr (.inr List.mem_cons_self))
      obtain ⟨kk, xs, rfl, hk6, hxl⟩ := call_shape ci
      have e0 : ns = PyFlat.put done ++ ((kk : Int) :: xs) ++ PyFlat.put todo := by
        rw [t.mid.all, List.append_assoc]
        show _ ++ (PyFlat.put1 [(kk : Int) :: xs] ++ PyFlat.put todo) = _
        rw [MG.put1_of ci]
        rfl
      have hlt : (PyFlat.put done).length < ns.length := by
        rw [e0]
        simp
      refine iteP (by rw [decide_eq_true_eq]; omega) ?_
      refine ⟨fun σ' H2 => ∃ m', m' < (([(kk : Int) :: xs]) :: todo).length ∧ ∃ (done todo : List (List (List Int))) (v4 v5 : Option V), σ' = [some (.ref a), some (.ref p), some (.ref l), some (.int ((PyFlat.put done).length : Int)), v4, v5] ∧ m' = todo.length ∧ Turn C CL H H2 ns p l done todo,
        fun _ _ h => h, ?_⟩
      -- number = calls[place]
      refine ⟨_, rfl, _, rfl, a, _, _, _, rfl, rfl, hS', atI_nat (v := V.int (kk : Int)) (by rw [e0, List.append_assoc]; exact get_mid _ _ _), ?_⟩
      -- behind = place + 1 + WIDTHS[number]
      refine ⟨_, rfl, _, _, rfl, rfl, _, rfl, aw, _, _, _, rfl, rfl, hW _, atI_nat (hws kk hk6), _, _, rfl, rfl, ?_⟩
      -- answered.append(1)
      have hso : (said done).length ≤ 600 := by
        rw [MG.said_length done fun d hd => t.mid.is d (List.mem_append.mpr (.inl hd))]
        have := t.mid.few
        rw [List.length_append] at this
        omega
      refine ⟨_, rfl, .inl ⟨rfl, _, SqL.of t.out⟩, l, _, _, rfl, rfl, t.out, (by show (vints (said done)).length < sizeLine; rw [vints_length]; exact small5 (by omega)), ?_⟩
      -- answered.append(answer(..))
      have tk1 := t.tk.put (o := .lst (vints (said done) ++ [.int 1])) t.out (fun z => z.2 rfl)
      have same1 : Same H (upd H' l (.lst (vints (said done) ++ [.int 1]))) := Same.put t.same t.fl
      refine ⟨_, rfl, .inl ⟨rfl, _, SqL.of upd_same⟩, ?_⟩
      refine ⟨_, rfl, _, rfl, _, rfl, _, rfl, _, _, rfl, rfl, _, rfl, _, rfl, _, rfl, a, _, rfl, same1.seq hS, fun v hv => ?_⟩
      have hcut : cutV (vints ns) (some (((PyFlat.put done).length : Int) + 1)) (some (((PyFlat.put done).length : Int) + 1 + (wid kk : Int))) = vints xs := by
        rw [e0, ← hxl]
        exact cut_mid _ _ _ _
      dsimp only
      rw [hcut]
      have tk2 := tk1.keep (Same.new (o := .lst (vints xs)) (Same.refl _) hv)
      have hlv : l ≠ v := ne_of_none upd_same hv
      refine ⟨p, v, _, _, kk, xs, rfl, upd_same, ci, t.mid.good, tk2, fun r H2 hr1 hT' kp' => ?_⟩
      have hlB : upd (upd H' l (.lst (vints (said done) ++ [.int 1]))) v (.lst (vints xs)) l = some (.lst (vints (said done) ++ [.int 1])) := by
        rw [upd_ne hlv]
        exact upd_same
      have hl2 : H2 l = some (.lst (vints (said done) ++ [.int 1])) := kp' l _ hlB (fun z => z.2 rfl)
      refine ⟨l, _, _, rfl, rfl, hl2, (by rw [List.length_append, vints_length]; exact small5 (by simp; omega)), ?_⟩
      -- place = behind
      have sB : Same H (upd (upd H' l (.lst (vints (said done) ++ [.int 1]))) v (.lst (vints xs))) := Same.new same1 hv
      refine ⟨_, rfl, todo.length, Nat.lt_succ_self _, done ++ [[(kk : Int) :: xs]], todo, some (.int (kk : Int)), some (.int (((PyFlat.put done).length : Int) + 1 + (wid kk : Int))), ?_, rfl, ?_⟩
      · have ep : ((PyFlat.put (done ++ [[(kk : Int) :: xs]])).length : Int) = ((PyFlat.put done).length : Int) + 1 + (wid kk : Int) := by
          rw [MG.put_append, List.length_append, ← hxl]
          show (((PyFlat.put done).length + (PyFlat.put1 [(kk : Int) :: xs] ++ []).length : Nat) : Int) = _
          rw [MG.put1_of ci, List.append_nil]
          show (((PyFlat.put done).length + (xs.length + 1) : Nat) : Int) = _
          omega
        rw [ep]
        rfl
      · have same2 : Same H H2 := fun b o hb => kp' b o (sB b o hb) (fun z => by rw [z.1] at hb; cases hb)
        have hT2 : Tk C CL H2 p (fun b => H b = none ∧ b ≠ l) (Ks175Neutral.step (runS Ks175Neutral.start done) [(kk : Int) :: xs]).1 := hT'.mono fun b hb => by
          rcases hb with z | z
          · exact z
          · exact ⟨sB.free z, fun y => by rw [y, hlB] at z; cases z⟩
        refine ⟨t.mid.next, Same.put same2 t.fl, t.fl, ?_, ?_⟩
        · rw [upd_same, MG.said_snoc hr1]
          unfold vints
          rw [List.map_append, List.append_assoc]
          all_goals rfl
        · rw [MG.runS_snoc]
          exact hT2.put hl2 (fun z => z.2 rfl)
end
end Mg

set_option Elab.async false
set_option linter.all false
set_option maxRecDepth 100000
set_option maxHeartbeats 4000000
namespace Mg
open PySem PySem.Spec PyProof.Rows L2
open PySem.W (Codec)
theorem all_mk {P : Program} {w : World} {K : PySem.W.Frag} {h : Heap} {mg : Str → Option Value} {fa : Addr} (X : K.In h) (G : h.Ns mainGlobals mg) (hfa : mg "answers" = some (.ref fa))
    {CN : Addr} {fNi : Addr} {odNi anNi : Option Addr} {slNi : Array (Option Value)} {ocNi kVNi dcNi pmNi cdNi ctNi : Value} {fNw : Addr} {odNw anNw : Option Addr} {slNw : Array (Option Value)} {ocNw kVNw dcNw pmNw cdNw ctNw : Value} {fNh : Addr} {odNh anNh : Option Addr} {slNh : Array (Option Value)} {ocNh kVNh dcNh pmNh cdNh ctNh : Value} {fNa : Addr} {odNa anNa : Option Addr} {slNa : Array (Option Value)} {ocNa kVNa dcNa pmNa cdNa ctNa : Value} {fNs : Addr} {odNs anNs : Option Addr} {slNs : Array (Option Value)} {ocNs kVNs dcNs pmNs cdNs ctNs : Value} {fNt : Addr} {odNt anNt : Option Addr} {slNt : Array (Option Value)} {ocNt kVNt dcNt pmNt cdNt ctNt : Value} {fNl : Addr} {odNl anNl : Option Addr} {slNl : Array (Option Value)} {ocNl kVNl dcNl pmNl cdNl ctNl : Value} {fNr : Addr} {odNr anNr : Option Addr} {slNr : Array (Option Value)} {ocNr kVNr dcNr pmNr cdNr ctNr : Value} {CL : Addr} {fLi : Addr} {odLi anLi : Option Addr} {slLi : Array (Option Value)} {ocLi kVLi dcLi pmLi cdLi ctLi : Value} {fLj : Addr} {odLj anLj : Option Addr} {slLj : Array (Option Value)} {ocLj kVLj dcLj pmLj cdLj ctLj : Value} {fLp : Addr} {odLp anLp : Option Addr} {slLp : Array (Option Value)} {ocLp kVLp dcLp pmLp cdLp ctLp : Value} {fLm : Addr} {odLm anLm : Option Addr} {slLm : Array (Option Value)} {ocLm kVLm dcLm pmLm cdLm ctLm : Value} {fLl : Addr} {odLl anLl : Option Addr} {slLl : Array (Option Value)} {ocLl kVLl dcLl pmLl cdLl ctLl : Value} {fLb : Addr} {odLb anLb : Option Addr} {slLb : Array (Option Value)} {ocLb kVLb dcLb pmLb cdLb ctLb : Value} {CT : Addr} {fTi : Addr} {odTi anTi : Option Addr} {slTi : Array (Option Value)} {ocTi kVTi dcTi pmTi cdTi ctTi : Value} {fTb : Addr} {odTb anTb : Option Addr} {slTb : Array (Option Value)} {ocTb kVTb dcTb pmTb cdTb ctTb : Value} {fTn : Addr} {odTn anTn : Option Addr} {slTn : Array (Option Value)} {ocTn kVTn dcTn pmTn cdTn ctTn : Value} {fTp : Addr} {odTp anTp : Option Addr} {slTp : Array (Option Value)} {ocTp kVTp dcTp pmTp cdTp ctTp : Value} {fTh : Addr} {odTh anTh : Option Addr} {slTh : Array (Option Value)} {ocTh kVTh dcTh pmTh cdTh ctTh : Value} {fTm : Addr} {odTm anTm : Option Addr} {slTm : Array (Option Value)} {ocTm kVTm dcTm pmTm cdTm ctTm : Value} {fTl : Addr} {odTl anTl : Option Addr} {slTl : Array (Option Value)} {ocTl kVTl dcTl pmTl cdTl ctTl : Value} {fTe : Addr} {odTe anTe : Option Addr} {slTe : Array (Option Value)} {ocTe kVTe dcTe pmTe cdTe ctTe : Value} {fTa : Addr} {odTa anTa : Option Addr} {slTa : Array (Option Value)} {ocTa kVTa dcTa pmTa cdTa ctTa : Value} {fTw : Addr} {odTw anTw : Option Addr} {slTw : Array (Option Value)} {ocTw kVTw dcTw pmTw cdTw ctTw : Value} {fTf : Addr} {odTf anTf : Option Addr} {slTf : Array (Option Value)} {ocTf kVTf dcTf pmTf cdTf ctTf : Value} {fTc : Addr} {odTc anTc : Option Addr} {slTc : Array (Option Value)} {ocTc kVTc dcTc pmTc cdTc ctTc : Value} {fO : Addr} {odO anO : Option Addr} {slO : Array (Option Value)} {ocO kVO dcO pmO cdO ctO : Value} {fA : Addr} {odA anA : Option Addr} {slA : Array (Option Value)} {ocA kVA dcA pmA cdA ctA : Value} {tk0 : Tok} {tk1 : Tok} {tk2 : Tok} {tk3 : Tok} {tk4 : Tok} {tk5 : Tok} {tk6 : Tok} {tk7 : Tok} {tk8 : Tok} {tk9 : Tok} {tk10 : Tok} {aw0 : Addr} {odw0 : Option Addr} {slw0 : Array (Option Value)} {nw0 : Nat} {tw0_0 : Tok} {tw0_1 : Tok} {tw0_2 : Tok} {tw0_3 : Tok} {tw0_4 : Tok} {tw0_5 : Tok}
    (aCN : PySem.W.nsIn K mainGlobals "Net" = some (some (.ref CN)))
    (aNi : PySem.W.findIn K (.ref CN) "__init__" = some (some (.ref fNi)))
    (iNi : PySem.W.isFn K (.ref fNi) = true)
    (lNi : K.lookup fNi = some ⟨ocNi, odNi, .func (PySem.W.fnOf "__init__" "Net.__init__" (defArgs nInit) (defBody nInit) (defScope nInit) .none kVNi dcNi pmNi anNi cdNi ctNi), slNi⟩)
    (cNi : PySem.W.codeIn K cdNi "Net.__init__" = true)
    (kNi : PySem.W.keepIn K (.ref fNi) = true)
    (aNw : PySem.W.findIn K (.ref CN) "add_way" = some (some (.ref fNw)))
    (iNw : PySem.W.isFn K (.ref fNw) = true)
    (lNw : K.lookup fNw = some ⟨ocNw, odNw, .func (PySem.W.fnOf "add_way" "Net.add_way" (defArgs nWay) (defBody nWay) (defScope nWay) .none kVNw dcNw pmNw anNw cdNw ctNw), slNw⟩)
    (cNw : PySem.W.codeIn K cdNw "Net.add_way" = true)
    (kNw : PySem.W.keepIn K (.ref fNw) = true)
    (aNh : PySem.W.findIn K (.ref CN) "add_half" = some (some (.ref fNh)))
    (iNh : PySem.W.isFn K (.ref fNh) = true)
    (lNh : K.lookup fNh = some ⟨ocNh, odNh, .func (PySem.W.fnOf "add_half" "Net.add_half" (defArgs nHalf) (defBody nHalf) (defScope nHalf) .none kVNh dcNh pmNh anNh cdNh ctNh), slNh⟩)
    (cNh : PySem.W.codeIn K cdNh "Net.add_half" = true)
    (kNh : PySem.W.keepIn K (.ref fNh) = true)
    (aNa : PySem.W.findIn K (.ref CN) "send_all" = some (some (.ref fNa)))
    (iNa : PySem.W.isFn K (.ref fNa) = true)
    (lNa : K.lookup fNa = some ⟨ocNa, odNa, .func (PySem.W.fnOf "send_all" "Net.send_all" (defArgs nAll) (defBody nAll) (defScope nAll) .none kVNa dcNa pmNa anNa cdNa ctNa), slNa⟩)
    (cNa : PySem.W.codeIn K cdNa "Net.send_all" = true)
    (kNa : PySem.W.keepIn K (.ref fNa) = true)
    (aNs : PySem.W.findIn K (.ref CN) "steps_to" = some (some (.ref fNs)))
    (iNs : PySem.W.isFn K (.ref fNs) = true)
    (lNs : K.lookup fNs = some ⟨ocNs, odNs, .func (PySem.W.fnOf "steps_to" "Net.steps_to" (defArgs nSteps) (defBody nSteps) (defScope nSteps) .none kVNs dcNs pmNs anNs cdNs ctNs), slNs⟩)
    (cNs : PySem.W.codeIn K cdNs "Net.steps_to" = true)
    (kNs : PySem.W.keepIn K (.ref fNs) = true)
    (aNt : PySem.W.findIn K (.ref CN) "send_shortest" = some (some (.ref fNt)))
    (iNt : PySem.W.isFn K (.ref fNt) = true)
    (lNt : K.lookup fNt = some ⟨ocNt, odNt, .func (PySem.W.fnOf "send_shortest" "Net.send_shortest" (defArgs nShort) (defBody nShort) (defScope nShort) .none kVNt dcNt pmNt anNt cdNt ctNt), slNt⟩)
    (cNt : PySem.W.codeIn K cdNt "Net.send_shortest" = true)
    (kNt : PySem.W.keepIn K (.ref fNt) = true)
    (aNl : PySem.W.findIn K (.ref CN) "send_along" = some (some (.ref fNl)))
    (iNl : PySem.W.isFn K (.ref fNl) = true)
    (lNl : K.lookup fNl = some ⟨ocNl, odNl, .func (PySem.W.fnOf "send_along" "Net.send_along" (defArgs nAlong) (defBody nAlong) (defScope nAlong) .none kVNl dcNl pmNl anNl cdNl ctNl), slNl⟩)
    (cNl : PySem.W.codeIn K cdNl "Net.send_along" = true)
    (kNl : PySem.W.keepIn K (.ref fNl) = true)
    (aNr : PySem.W.findIn K (.ref CN) "with_room" = some (some (.ref fNr)))
    (iNr : PySem.W.isFn K (.ref fNr) = true)
    (lNr : K.lookup fNr = some ⟨ocNr, odNr, .func (PySem.W.fnOf "with_room" "Net.with_room" (defArgs nRoom) (defBody nRoom) (defScope nRoom) .none kVNr dcNr pmNr anNr cdNr ctNr), slNr⟩)
    (cNr : PySem.W.codeIn K cdNr "Net.with_room" = true)
    (kNr : PySem.W.keepIn K (.ref fNr) = true)
    (pgN : PySem.W.plainGet K CN Str.empty = true)
    (hdN : PySem.W.hasDictIn K CN = true)
    (poN : PySem.W.plainOver K CN = true)
    (saN : PySem.W.findIn K (.ref CN) "__setattr__" = some (some (.builtin "object.__setattr__")))
    (mkN : PySem.W.makesIn K CN = true)
    (kcN : PySem.W.keepIn K (.ref CN) = true)
    (nN_leaving : PySem.W.findIn K (.ref CN) "leaving" = some none)
    (nN_goals : PySem.W.findIn K (.ref CN) "goals" = some none)
    (nN_rooms : PySem.W.findIn K (.ref CN) "rooms" = some none)
    (aCL : PySem.W.nsIn K mainGlobals "Lots" = some (some (.ref CL)))
    (aLi : PySem.W.findIn K (.ref CL) "__init__" = some (some (.ref fLi)))
    (iLi : PySem.W.isFn K (.ref fLi) = true)
    (lLi : K.lookup fLi = some ⟨ocLi, odLi, .func (PySem.W.fnOf "__init__" "Lots.__init__" (defArgs lInit) (defBody lInit) (defScope lInit) .none kVLi dcLi pmLi anLi cdLi ctLi), slLi⟩)
    (cLi : PySem.W.codeIn K cdLi "Lots.__init__" = true)
    (kLi : PySem.W.keepIn K (.ref fLi) = true)
    (aLj : PySem.W.findIn K (.ref CL) "join_lot" = some (some (.ref fLj)))
    (iLj : PySem.W.isFn K (.ref fLj) = true)
    (lLj : K.lookup fLj = some ⟨ocLj, odLj, .func (PySem.W.fnOf "join_lot" "Lots.join_lot" (defArgs lJoin) (defBody lJoin) (defScope lJoin) .none kVLj dcLj pmLj anLj cdLj ctLj), slLj⟩)
    (cLj : PySem.W.codeIn K cdLj "Lots.join_lot" = true)
    (kLj : PySem.W.keepIn K (.ref fLj) = true)
    (aLp : PySem.W.findIn K (.ref CL) "part_lot" = some (some (.ref fLp)))
    (iLp : PySem.W.isFn K (.ref fLp) = true)
    (lLp : K.lookup fLp = some ⟨ocLp, odLp, .func (PySem.W.fnOf "part_lot" "Lots.part_lot" (defArgs lPart) (defBody lPart) (defScope lPart) .none kVLp dcLp pmLp anLp cdLp ctLp), slLp⟩)
    (cLp : PySem.W.codeIn K cdLp "Lots.part_lot" = true)
    (kLp : PySem.W.keepIn K (.ref fLp) = true)
    (aLm : PySem.W.findIn K (.ref CL) "most_in" = some (some (.ref fLm)))
    (iLm : PySem.W.isFn K (.ref fLm) = true)
    (lLm : K.lookup fLm = some ⟨ocLm, odLm, .func (PySem.W.fnOf "most_in" "Lots.most_in" (defArgs lMost) (defBody lMost) (defScope lMost) .none kVLm dcLm pmLm anLm cdLm ctLm), slLm⟩)
    (cLm : PySem.W.codeIn K cdLm "Lots.most_in" = true)
    (kLm : PySem.W.keepIn K (.ref fLm) = true)
    (aLl : PySem.W.findIn K (.ref CL) "least_in" = some (some (.ref fLl)))
    (iLl : PySem.W.isFn K (.ref fLl) = true)
    (lLl : K.lookup fLl = some ⟨ocLl, odLl, .func (PySem.W.fnOf "least_in" "Lots.least_in" (defArgs lLeast) (defBody lLeast) (defScope lLeast) .none kVLl dcLl pmLl anLl cdLl ctLl), slLl⟩)
    (cLl : PySem.W.codeIn K cdLl "Lots.least_in" = true)
    (kLl : PySem.W.keepIn K (.ref fLl) = true)
    (aLb : PySem.W.findIn K (.ref CL) "most_brought" = some (some (.ref fLb)))
    (iLb : PySem.W.isFn K (.ref fLb) = true)
    (lLb : K.lookup fLb = some ⟨ocLb, odLb, .func (PySem.W.fnOf "most_brought" "Lots.most_brought" (defArgs lBrought) (defBody lBrought) (defScope lBrought) .none kVLb dcLb pmLb anLb cdLb ctLb), slLb⟩)
    (cLb : PySem.W.codeIn K cdLb "Lots.most_brought" = true)
    (kLb : PySem.W.keepIn K (.ref fLb) = true)
    (pgL : PySem.W.plainGet K CL Str.empty = true)
    (hdL : PySem.W.hasDictIn K CL = true)
    (poL : PySem.W.plainOver K CL = true)
    (saL : PySem.W.findIn K (.ref CL) "__setattr__" = some (some (.builtin "object.__setattr__")))
    (mkL : PySem.W.makesIn K CL = true)
    (kcL : PySem.W.keepIn K (.ref CL) = true)
    (nL_now : PySem.W.findIn K (.ref CL) "now" = some none)
    (nL_leasts : PySem.W.findIn K (.ref CL) "leasts" = some none)
    (nL_mosts : PySem.W.findIn K (.ref CL) "mosts" = some none)
    (nL_ways : PySem.W.findIn K (.ref CL) "ways" = some none)
    (aCT : PySem.W.nsIn K mainGlobals "Tanks" = some (some (.ref CT)))
    (aTi : PySem.W.findIn K (.ref CT) "__init__" = some (some (.ref fTi)))
    (iTi : PySem.W.isFn K (.ref fTi) = true)
    (lTi : K.lookup fTi = some ⟨ocTi, odTi, .func (PySem.W.fnOf "__init__" "Tanks.__init__" (defArgs tInit) (defBody tInit) (defScope tInit) .none kVTi dcTi pmTi anTi cdTi ctTi), slTi⟩)
    (cTi : PySem.W.codeIn K cdTi "Tanks.__init__" = true)
    (kTi : PySem.W.keepIn K (.ref fTi) = true)
    (aTb : PySem.W.findIn K (.ref CT) "begin" = some (some (.ref fTb)))
    (iTb : PySem.W.isFn K (.ref fTb) = true)
    (lTb : K.lookup fTb = some ⟨ocTb, odTb, .func (PySem.W.fnOf "begin" "Tanks.begin" (defArgs tBegin) (defBody tBegin) (defScope tBegin) .none kVTb dcTb pmTb anTb cdTb ctTb), slTb⟩)
    (cTb : PySem.W.codeIn K cdTb "Tanks.begin" = true)
    (kTb : PySem.W.keepIn K (.ref fTb) = true)
    (aTn : PySem.W.findIn K (.ref CT) "come_in" = some (some (.ref fTn)))
    (iTn : PySem.W.isFn K (.ref fTn) = true)
    (lTn : K.lookup fTn = some ⟨ocTn, odTn, .func (PySem.W.fnOf "come_in" "Tanks.come_in" (defArgs tIn) (defBody tIn) (defScope tIn) .none kVTn dcTn pmTn anTn cdTn ctTn), slTn⟩)
    (cTn : PySem.W.codeIn K cdTn "Tanks.come_in" = true)
    (kTn : PySem.W.keepIn K (.ref fTn) = true)
    (aTp : PySem.W.findIn K (.ref CT) "pour" = some (some (.ref fTp)))
    (iTp : PySem.W.isFn K (.ref fTp) = true)
    (lTp : K.lookup fTp = some ⟨ocTp, odTp, .func (PySem.W.fnOf "pour" "Tanks.pour" (defArgs tPour) (defBody tPour) (defScope tPour) .none kVTp dcTp pmTp anTp cdTp ctTp), slTp⟩)
    (cTp : PySem.W.codeIn K cdTp "Tanks.pour" = true)
    (kTp : PySem.W.keepIn K (.ref fTp) = true)
    (aTh : PySem.W.findIn K (.ref CT) "has" = some (some (.ref fTh)))
    (iTh : PySem.W.isFn K (.ref fTh) = true)
    (lTh : K.lookup fTh = some ⟨ocTh, odTh, .func (PySem.W.fnOf "has" "Tanks.has" (defArgs tHas) (defBody tHas) (defScope tHas) .none kVTh dcTh pmTh anTh cdTh ctTh), slTh⟩)
    (cTh : PySem.W.codeIn K cdTh "Tanks.has" = true)
    (kTh : PySem.W.keepIn K (.ref fTh) = true)
    (aTm : PySem.W.findIn K (.ref CT) "most" = some (some (.ref fTm)))
    (iTm : PySem.W.isFn K (.ref fTm) = true)
    (lTm : K.lookup fTm = some ⟨ocTm, odTm, .func (PySem.W.fnOf "most" "Tanks.most" (defArgs tMost) (defBody tMost) (defScope tMost) .none kVTm dcTm pmTm anTm cdTm ctTm), slTm⟩)
    (cTm : PySem.W.codeIn K cdTm "Tanks.most" = true)
    (kTm : PySem.W.keepIn K (.ref fTm) = true)
    (aTl : PySem.W.findIn K (.ref CT) "least" = some (some (.ref fTl)))
    (iTl : PySem.W.isFn K (.ref fTl) = true)
    (lTl : K.lookup fTl = some ⟨ocTl, odTl, .func (PySem.W.fnOf "least" "Tanks.least" (defArgs tLeast) (defBody tLeast) (defScope tLeast) .none kVTl dcTl pmTl anTl cdTl ctTl), slTl⟩)
    (cTl : PySem.W.codeIn K cdTl "Tanks.least" = true)
    (kTl : PySem.W.keepIn K (.ref fTl) = true)
    (aTe : PySem.W.findIn K (.ref CT) "is_there" = some (some (.ref fTe)))
    (iTe : PySem.W.isFn K (.ref fTe) = true)
    (lTe : K.lookup fTe = some ⟨ocTe, odTe, .func (PySem.W.fnOf "is_there" "Tanks.is_there" (defArgs tThere) (defBody tThere) (defScope tThere) .none kVTe dcTe pmTe anTe cdTe ctTe), slTe⟩)
    (cTe : PySem.W.codeIn K cdTe "Tanks.is_there" = true)
    (kTe : PySem.W.keepIn K (.ref fTe) = true)
    (aTa : PySem.W.findIn K (.ref CT) "are_there" = some (some (.ref fTa)))
    (iTa : PySem.W.isFn K (.ref fTa) = true)
    (lTa : K.lookup fTa = some ⟨ocTa, odTa, .func (PySem.W.fnOf "are_there" "Tanks.are_there" (defArgs tAre) (defBody tAre) (defScope tAre) .none kVTa dcTa pmTa anTa cdTa ctTa), slTa⟩)
    (cTa : PySem.W.codeIn K cdTa "Tanks.are_there" = true)
    (kTa : PySem.W.keepIn K (.ref fTa) = true)
    (aTw : PySem.W.findIn K (.ref CT) "tanks_with" = some (some (.ref fTw)))
    (iTw : PySem.W.isFn K (.ref fTw) = true)
    (lTw : K.lookup fTw = some ⟨ocTw, odTw, .func (PySem.W.fnOf "tanks_with" "Tanks.tanks_with" (defArgs tWith) (defBody tWith) (defScope tWith) .none kVTw dcTw pmTw anTw cdTw ctTw), slTw⟩)
    (cTw : PySem.W.codeIn K cdTw "Tanks.tanks_with" = true)
    (kTw : PySem.W.keepIn K (.ref fTw) = true)
    (aTf : PySem.W.findIn K (.ref CT) "is_full" = some (some (.ref fTf)))
    (iTf : PySem.W.isFn K (.ref fTf) = true)
    (lTf : K.lookup fTf = some ⟨ocTf, odTf, .func (PySem.W.fnOf "is_full" "Tanks.is_full" (defArgs tFull) (defBody tFull) (defScope tFull) .none kVTf dcTf pmTf anTf cdTf ctTf), slTf⟩)
    (cTf : PySem.W.codeIn K cdTf "Tanks.is_full" = true)
    (kTf : PySem.W.keepIn K (.ref fTf) = true)
    (aTc : PySem.W.findIn K (.ref CT) "count_event" = some (some (.ref fTc)))
    (iTc : PySem.W.isFn K (.ref fTc) = true)
    (lTc : K.lookup fTc = some ⟨ocTc, odTc, .func (PySem.W.fnOf "count_event" "Tanks.count_event" (defArgs tCount) (defBody tCount) (defScope tCount) .none kVTc dcTc pmTc anTc cdTc ctTc), slTc⟩)
    (cTc : PySem.W.codeIn K cdTc "Tanks.count_event" = true)
    (kTc : PySem.W.keepIn K (.ref fTc) = true)
    (pgT : PySem.W.plainGet K CT Str.empty = true)
    (hdT : PySem.W.hasDictIn K CT = true)
    (poT : PySem.W.plainOver K CT = true)
    (saT : PySem.W.findIn K (.ref CT) "__setattr__" = some (some (.builtin "object.__setattr__")))
    (mkT : PySem.W.makesIn K CT = true)
    (kcT : PySem.W.keepIn K (.ref CT) = true)
    (nT_grains : PySem.W.findIn K (.ref CT) "grains" = some none)
    (nT_lots : PySem.W.findIn K (.ref CT) "lots" = some none)
    (nT_events : PySem.W.findIn K (.ref CT) "events" = some none)
    (aO : PySem.W.nsIn K mainGlobals "answer" = some (some (.ref fO)))
    (lO : K.lookup fO = some ⟨ocO, odO, .func (PySem.W.fnOf "answer" "answer" (defArgs sAns1) (defBody sAns1) (defScope sAns1) .none kVO dcO pmO anO cdO ctO), slO⟩)
    (cO : PySem.W.codeIn K cdO "answer" = true)
    (kO : PySem.W.keepIn K (.ref fO) = true)
    (aA : PySem.W.nsIn K mainGlobals "answers" = some (some (.ref fA)))
    (lA : K.lookup fA = some ⟨ocA, odA, .func (PySem.W.fnOf "answers" "answers" (defArgs sAns) (defBody sAns) (defScope sAns) .none kVA dcA pmA anA cdA ctA), slA⟩)
    (cA : PySem.W.codeIn K cdA "answers" = true)
    (kA : PySem.W.keepIn K (.ref fA) = true)
    (g_START : PySem.W.nsIn K mainGlobals "START" = some (some (.int (0) tk0)))
    (g_COME_IN : PySem.W.nsIn K mainGlobals "COME_IN" = some (some (.int (1) tk1)))
    (g_POUR : PySem.W.nsIn K mainGlobals "POUR" = some (some (.int (2) tk2)))
    (g_HAS : PySem.W.nsIn K mainGlobals "HAS" = some (some (.int (3) tk3)))
    (g_MOST : PySem.W.nsIn K mainGlobals "MOST" = some (some (.int (4) tk4)))
    (g_MOST_TANKS : PySem.W.nsIn K mainGlobals "MOST_TANKS" = some (some (.int (32) tk5)))
    (g_MOST_AMOUNT : PySem.W.nsIn K mainGlobals "MOST_AMOUNT" = some (some (.int (1048576) tk6)))
    (g_MOST_EVENTS : PySem.W.nsIn K mainGlobals "MOST_EVENTS" = some (some (.int (256) tk7)))
    (g_WRONG_VALUE : PySem.W.nsIn K mainGlobals "WRONG_VALUE" = some (some (.int (-22) tk8)))
    (g_NO_ROOM : PySem.W.nsIn K mainGlobals "NO_ROOM" = some (some (.int (-28) tk9)))
    (g_TOO_FEW : PySem.W.nsIn K mainGlobals "TOO_FEW" = some (some (.int (-33) tk10)))
    (g_WIDTHS : PySem.W.nsIn K mainGlobals "WIDTHS" = some (some (.ref aw0)))
    (l_WIDTHS : K.lookup aw0 = some ⟨.type "tuple", odw0, .seq #[.int 1 tw0_0, .int 4 tw0_1, .int 3 tw0_2, .int 1 tw0_3, .int 1 tw0_4, .int 1 tw0_5] nw0, slw0⟩)
    (b_len : PySem.W.nsIn K mainGlobals "len" = some none)
    (b_range : PySem.W.nsIn K mainGlobals "range" = some none)
    (b_min : PySem.W.nsIn K mainGlobals "min" = some none)
    (b_list : PySem.W.nsIn K mainGlobals "list" = some none)
    (b_sum : PySem.W.nsIn K mainGlobals "sum" = some none)
    (b_enumerate : PySem.W.nsIn K mainGlobals "enumerate" = some none)
    : ∃ fd : FuncData, (∀ (s : Shared) (us : List Value), us.length = (["calls"] : List Str).length → BindsTo s fd ⟨us, []⟩ ((["calls"] : List Str).zip us)) ∧ ∀ base : Heap, K.In base → base.Ns mainGlobals mg → FnOk P w K mg base CX0 8 fa fd ["calls"] (spAns K) := by
  have e := hfa.symm.trans (PySem.W.mg_of X G aA)
  cases e
  have FNi := fun_mk (st := nInit) lNi cNi kNi
  have bNi := FNi.binds (ps := ["self", "nodes"]) fun _ _ _ _ _ _ us hl => match us, hl with | [_, _], _ => rfl
  have FNw := fun_mk (st := nWay) lNw cNw kNw
  have bNw := FNw.binds (ps := ["self", "source", "goal", "room"]) fun _ _ _ _ _ _ us hl => match us, hl with | [_, _, _, _], _ => rfl
  have FNh := fun_mk (st := nHalf) lNh cNh kNh
  have bNh := FNh.binds (ps := ["self", "source", "goal", "room"]) fun _ _ _ _ _ _ us hl => match us, hl with | [_, _, _, _], _ => rfl
  have FNa := fun_mk (st := nAll) lNa cNa kNa
  have bNa := FNa.binds (ps := ["self", "source", "sink"]) fun _ _ _ _ _ _ us hl => match us, hl with | [_, _, _], _ => rfl
  have FNs := fun_mk (st := nSteps) lNs cNs kNs
  have bNs := FNs.binds (ps := ["self", "sink"]) fun _ _ _ _ _ _ us hl => match us, hl with | [_, _], _ => rfl
  have FNt := fun_mk (st := nShort) lNt cNt kNt
  have bNt := FNt.binds (ps := ["self", "source", "sink", "steps"]) fun _ _ _ _ _ _ us hl => match us, hl with | [_, _, _, _], _ => rfl
  have FNl := fun_mk (st := nAlong) lNl cNl kNl
  have bNl := FNl.binds (ps := ["self", "path"]) fun _ _ _ _ _ _ us hl => match us, hl with | [_, _], _ => rfl
  have FNr := fun_mk (st := nRoom) lNr cNr kNr
  have bNr := FNr.binds (ps := ["self", "path"]) fun _ _ _ _ _ _ us hl => match us, hl with | [_, _], _ => rfl
  have FLi := fun_mk (st := lInit) lLi cLi kLi
  have bLi := FLi.binds (ps := ["self", "tanks"]) fun _ _ _ _ _ _ us hl => match us, hl with | [_, _], _ => rfl
  have FLj := fun_mk (st := lJoin) lLj cLj kLj
  have bLj := FLj.binds (ps := ["self", "tank", "least", "most"]) fun _ _ _ _ _ _ us hl => match us, hl with | [_, _, _, _], _ => rfl
  have FLp := fun_mk (st := lPart) lLp cLp kLp
  have bLp := FLp.binds (ps := ["self", "source", "goal", "amount", "rest"]) fun _ _ _ _ _ _ us hl => match us, hl with | [_, _, _, _, _], _ => rfl
  have FLm := fun_mk (st := lMost) lLm cLm kLm
  have bLm := FLm.binds (ps := ["self", "tanks"]) fun _ _ _ _ _ _ us hl => match us, hl with | [_, _], _ => rfl
  have FLl := fun_mk (st := lLeast) lLl cLl kLl
  have bLl := FLl.binds (ps := ["self", "others"]) fun _ _ _ _ _ _ us hl => match us, hl with | [_, _], _ => rfl
  have FLb := fun_mk (st := lBrought) lLb cLb kLb
  have bLb := FLb.binds (ps := ["self", "marked", "tanks"]) fun _ _ _ _ _ _ us hl => match us, hl with | [_, _, _], _ => rfl
  have FTi := fun_mk (st := tInit) lTi cTi kTi
  have bTi := FTi.binds (ps := ["self"]) fun _ _ _ _ _ _ us hl => match us, hl with | [_], _ => rfl
  have FTb := fun_mk (st := tBegin) lTb cTb kTb
  have bTb := FTb.binds (ps := ["self", "tanks"]) fun _ _ _ _ _ _ us hl => match us, hl with | [_, _], _ => rfl
  have FTn := fun_mk (st := tIn) lTn cTn kTn
  have bTn := FTn.binds (ps := ["self", "tank", "amount", "least", "most"]) fun _ _ _ _ _ _ us hl => match us, hl with | [_, _, _, _, _], _ => rfl
  have FTp := fun_mk (st := tPour) lTp cTp kTp
  have bTp := FTp.binds (ps := ["self", "source", "goal", "amount"]) fun _ _ _ _ _ _ us hl => match us, hl with | [_, _, _, _], _ => rfl
  have FTh := fun_mk (st := tHas) lTh cTh kTh
  have bTh := FTh.binds (ps := ["self", "tank"]) fun _ _ _ _ _ _ us hl => match us, hl with | [_, _], _ => rfl
  have FTm := fun_mk (st := tMost) lTm cTm kTm
  have bTm := FTm.binds (ps := ["self", "tank_set"]) fun _ _ _ _ _ _ us hl => match us, hl with | [_, _], _ => rfl
  have FTl := fun_mk (st := tLeast) lTl cTl kTl
  have bTl := FTl.binds (ps := ["self", "tank_set"]) fun _ _ _ _ _ _ us hl => match us, hl with | [_, _], _ => rfl
  have FTe := fun_mk (st := tThere) lTe cTe kTe
  have bTe := FTe.binds (ps := ["self", "tank"]) fun _ _ _ _ _ _ us hl => match us, hl with | [_, _], _ => rfl
  have FTa := fun_mk (st := tAre) lTa cTa kTa
  have bTa := FTa.binds (ps := ["self", "tank_set"]) fun _ _ _ _ _ _ us hl => match us, hl with | [_, _], _ => rfl
  have FTw := fun_mk (st := tWith) lTw cTw kTw
  have bTw := FTw.binds (ps := ["self", "tank_set", "bit"]) fun _ _ _ _ _ _ us hl => match us, hl with | [_, _, _], _ => rfl
  have FTf := fun_mk (st := tFull) lTf cTf kTf
  have bTf := FTf.binds (ps := ["self"]) fun _ _ _ _ _ _ us hl => match us, hl with | [_], _ => rfl
  have FTc := fun_mk (st := tCount) lTc cTc kTc
  have bTc := FTc.binds (ps := ["self"]) fun _ _ _ _ _ _ us hl => match us, hl with | [_], _ => rfl
  have FO := fun_mk (st := sAns1) lO cO kO
  have bO := FO.binds (ps := ["tanks", "number", "values"]) fun _ _ _ _ _ _ us hl => match us, hl with | [_, _, _], _ => rfl
  have FA := fun_mk (st := sAns) lA cA kA
  have bA := FA.binds (ps := ["calls"]) fun _ _ _ _ _ _ us hl => match us, hl with | [_], _ => rfl
  have TN : TxN K mg CN := ⟨⟨pgN, hdN, poN, saN⟩, nN_leaving, nN_goals, nN_rooms, PySem.W.mg_none_of X G b_len, PySem.W.mg_none_of X G b_range, PySem.W.mg_none_of X G b_min⟩
  have TL : TxL K mg CL := ⟨⟨pgL, hdL, poL, saL⟩, nL_now, nL_leasts, nL_mosts, nL_ways, PySem.W.mg_none_of X G b_len, PySem.W.mg_none_of X G b_range, PySem.W.mg_none_of X G b_list, PySem.W.mg_none_of X G b_sum, PySem.W.mg_none_of X G b_enumerate⟩
  have TT : TxT K mg CT := ⟨⟨pgT, hdT, poT, saT⟩, nT_grains, nT_lots, nT_events, ⟨_, PySem.W.mg_of X G g_MOST_TANKS⟩, ⟨_, PySem.W.mg_of X G g_MOST_AMOUNT⟩, ⟨_, PySem.W.mg_of X G g_MOST_EVENTS⟩, ⟨_, PySem.W.mg_of X G g_WRONG_VALUE⟩, ⟨_, PySem.W.mg_of X G g_NO_ROOM⟩, ⟨_, PySem.W.mg_of X G g_TOO_FEW⟩, PySem.W.mg_none_of X G b_len, PySem.W.mg_none_of X G b_range⟩
  have TA : TxA mg := ⟨⟨_, PySem.W.mg_of X G g_START⟩, ⟨_, PySem.W.mg_of X G g_COME_IN⟩, ⟨_, PySem.W.mg_of X G g_POUR⟩, ⟨_, PySem.W.mg_of X G g_HAS⟩, ⟨_, PySem.W.mg_of X G g_MOST⟩⟩
  have mgN : mg "Net" = some (.ref CN) := PySem.W.mg_of X G aCN
  have mgL : mg "Lots" = some (.ref CL) := PySem.W.mg_of X G aCL
  have mgT : mg "Tanks" = some (.ref CT) := PySem.W.mg_of X G aCT
  have hW : ∀ H, SqT K H aw0 [.int 1, .int 4, .int 3, .int 1, .int 1, .int 1] := fun H => .inr ⟨_, _, _, l_WIDTHS, rfl, rfl, (by show 6 ≤ sizeLine; decide), .cons ⟨_, rfl⟩ (.cons ⟨_, rfl⟩ (.cons ⟨_, rfl⟩ (.cons ⟨_, rfl⟩ (.cons ⟨_, rfl⟩ (.cons ⟨_, rfl⟩ .nil)))))⟩
  have MN : Mk K CN fNi := ⟨mkN, aNi, iNi, kcN⟩
  have ML : Mk K CL fLi := ⟨mkL, aLi, iLi, kcL⟩
  have MT : Mk K CT fTi := ⟨mkT, aTi, iTi, kcT⟩
  refine ⟨PySem.W.fnOf "answers" "answers" (defArgs sAns) (defBody sAns) (defScope sAns) .none kVA dcA pmA anA cdA ctA, fun s us hu => match us, hu with | [_], _ => .of_eq rfl, fun base _ _ => ?_⟩
  have GW := ok_way (P := P) (w := w) (base := base) FNw TN FNh bNh ⟨aNh, iNh, kNh⟩
  have GS := ok_short (P := P) (w := w) (base := base) FNt TN FNl bNl ⟨aNl, iNl, kNl⟩ FNr bNr ⟨aNr, iNr, kNr⟩
  have GAll := ok_all (P := P) (w := w) (base := base) FNa TN FNs bNs ⟨aNs, iNs, kNs⟩ GS bNt ⟨aNt, iNt, kNt⟩
  have GBr := ok_brought (P := P) (w := w) (base := base) FLb TL TN mgN MN FNi bNi GW bNw ⟨aNw, iNw, kNw⟩ GAll bNa ⟨aNa, iNa, kNa⟩
  have GMi := ok_mostin (P := P) (w := w) (base := base) FLm TL GBr bLb ⟨aLb, iLb, kLb⟩
  have GLi := ok_leastin (P := P) (w := w) (base := base) FLl TL GBr bLb ⟨aLb, iLb, kLb⟩
  have GM := ok_most (P := P) (w := w) (base := base) FTm TT TL FTa bTa ⟨aTa, iTa, kTa⟩ FTw bTw ⟨aTw, iTw, kTw⟩ GMi bLm ⟨aLm, iLm, kLm⟩
  have GL := ok_least (P := P) (w := w) (base := base) FTl TT TL FTa bTa ⟨aTa, iTa, kTa⟩ FTw bTw ⟨aTw, iTw, kTw⟩ GLi bLl ⟨aLl, iLl, kLl⟩
  have GH := ok_has (P := P) (w := w) (base := base) (CL := CL) FTh TT FTe bTe ⟨aTe, iTe, kTe⟩
  have GN := ok_in (P := P) (w := w) (base := base) FTn TT TL FTe bTe ⟨aTe, iTe, kTe⟩ FTf bTf ⟨aTf, iTf, kTf⟩ FTc bTc ⟨aTc, iTc, kTc⟩ FLj bLj ⟨aLj, iLj, kLj⟩
  have GP := ok_pour (P := P) (w := w) (base := base) FTp TT TL FTe bTe ⟨aTe, iTe, kTe⟩ FTf bTf ⟨aTf, iTf, kTf⟩ FTc bTc ⟨aTc, iTc, kTc⟩ FLp bLp ⟨aLp, iLp, kLp⟩
  have GB := ok_begin (P := P) (w := w) (base := base) FTb TT TL mgL ML FLi bLi
  have GI := ok_init (P := P) (w := w) (base := base) FTi TT TL mgL ML FLi bLi
  have GO := ok_one FO TT TA GB bTb ⟨aTb, iTb, kTb⟩ GN bTn ⟨aTn, iTn, kTn⟩ GP bTp ⟨aTp, iTp, kTp⟩ GH bTh ⟨aTh, iTh, kTh⟩ GM bTm ⟨aTm, iTm, kTm⟩ GL bTl ⟨aTl, iTl, kTl⟩
  exact ok_ans FA TT mgT MT GI bTi GO bO (PySem.W.mg_of X G aO) kO (PySem.W.mg_of X G g_WIDTHS) hW (fun k hk => match k, hk with | 0, _ => rfl | 1, _ => rfl | 2, _ => rfl | 3, _ => rfl | 4, _ => rfl | 5, _ => rfl)
end Mg
open PySem PySem.W PyProof.Rows
set_option maxRecDepth 100000 in
set_option maxHeartbeats 0 in
theorem PySem.Challenge.cw_markedgrains_s01_answers_holds : PySem.Challenge.rw_markedgrains_s01_answers.Holds := by
  w_on; k_headS; (case hw => exact ⟨[.list [.int 0, .int 1]], by decide +kernel, by decide +kernel⟩)
  k_fillS
  refine L2.walk_specK (r := PySem.Challenge.rw_markedgrains_s01_answers) (k := 8) (CX := L2.CX0) (ps := ["calls"]) (sp := fun K => Mg.spAns K) (by decide +kernel) rfl rfl ⟨rfl, by decide, by decide⟩ (fun w h Y => PySem.W.kIn_of Y) ?F ?S (fun _ _ _ _ z => z)
  case F =>
    intro w mg fa h Y KX G hmg
    refine' Mg.all_mk KX G hmg ?aCN ?aNi ?iNi ?lNi ?cNi ?kNi ?aNw ?iNw ?lNw ?cNw ?kNw ?aNh ?iNh ?lNh ?cNh ?kNh ?aNa ?iNa ?lNa ?cNa ?kNa ?aNs ?iNs ?lNs ?cNs ?kNs ?aNt ?iNt ?lNt ?cNt ?kNt ?aNl ?iNl ?lNl ?cNl ?kNl ?aNr ?iNr ?lNr ?cNr ?kNr ?pgN ?hdN ?poN ?saN ?mkN ?kcN ?nN_leaving ?nN_goals ?nN_rooms ?aCL ?aLi ?iLi ?lLi ?cLi ?kLi ?aLj ?iLj ?lLj ?cLj ?kLj ?aLp ?iLp ?lLp ?cLp ?kLp ?aLm ?iLm ?lLm ?cLm ?kLm ?aLl ?iLl ?lLl ?cLl ?kLl ?aLb ?iLb ?lLb ?cLb ?kLb ?pgL ?hdL ?poL ?saL ?mkL ?kcL ?nL_now ?nL_leasts ?nL_mosts ?nL_ways ?aCT ?aTi ?iTi ?lTi ?cTi ?kTi ?aTb ?iTb ?lTb ?cTb ?kTb ?aTn ?iTn ?lTn ?cTn ?kTn ?aTp ?iTp ?lTp ?cTp ?kTp ?aTh ?iTh ?lTh ?cTh ?kTh ?aTm ?iTm ?lTm ?cTm ?kTm ?aTl ?iTl ?lTl ?cTl ?kTl ?aTe ?iTe ?lTe ?cTe ?kTe ?aTa ?iTa ?lTa ?cTa ?kTa ?aTw ?iTw ?lTw ?cTw ?kTw ?aTf ?iTf ?lTf ?cTf ?kTf ?aTc ?iTc ?lTc ?cTc ?kTc ?pgT ?hdT ?poT ?saT ?mkT ?kcT ?nT_grains ?nT_lots ?nT_events ?aO ?lO ?cO ?kO ?aA ?lA ?cA ?kA ?g_START ?g_COME_IN ?g_POUR ?g_HAS ?g_MOST ?g_MOST_TANKS ?g_MOST_AMOUNT ?g_MOST_EVENTS ?g_WRONG_VALUE ?g_NO_ROOM ?g_TOO_FEW ?g_WIDTHS ?l_WIDTHS ?b_len ?b_range ?b_min ?b_list ?b_sum ?b_enumerate
    (case aCN => k_is); (case aNi => k_is); (case iNi => k_is); (case lNi => k_is); (case cNi => k_is); (case kNi => k_is)
    (case aNw => k_is); (case iNw => k_is); (case lNw => k_is); (case cNw => k_is); (case kNw => k_is); (case aNh => k_is)
    (case iNh => k_is); (case lNh => k_is); (case cNh => k_is); (case kNh => k_is); (case aNa => k_is); (case iNa => k_is)
    (case lNa => k_is); (case cNa => k_is); (case kNa => k_is); (case aNs => k_is); (case iNs => k_is); (case lNs => k_is)
    (case cNs => k_is); (case kNs => k_is); (case aNt => k_is); (case iNt => k_is); (case lNt => k_is); (case cNt => k_is)
    (case kNt => k_is); (case aNl => k_is); (case iNl => k_is); (case lNl => k_is); (case cNl => k_is); (case kNl => k_is)
    (case aNr => k_is); (case iNr => k_is); (case lNr => k_is); (case cNr => k_is); (case kNr => k_is); (case pgN => k_is)
    (case hdN => k_is); (case poN => k_is); (case saN => k_is); (case mkN => k_is); (case kcN => k_is); (case nN_leaving => k_is)
    (case nN_goals => k_is); (case nN_rooms => k_is); (case aCL => k_is); (case aLi => k_is); (case iLi => k_is); (case lLi => k_is)
    (case cLi => k_is); (case kLi => k_is); (case aLj => k_is); (case iLj => k_is); (case lLj => k_is); (case cLj => k_is)
    (case kLj => k_is); (case aLp => k_is); (case iLp => k_is); (case lLp => k_is); (case cLp => k_is); (case kLp => k_is)
    (case aLm => k_is); (case iLm => k_is); (case lLm => k_is); (case cLm => k_is); (case kLm => k_is); (case aLl => k_is)
    (case iLl => k_is); (case lLl => k_is); (case cLl => k_is); (case kLl => k_is); (case aLb => k_is); (case iLb => k_is)
    (case lLb => k_is); (case cLb => k_is); (case kLb => k_is); (case pgL => k_is); (case hdL => k_is); (case poL => k_is)
    (case saL => k_is); (case mkL => k_is); (case kcL => k_is); (case nL_now => k_is); (case nL_leasts => k_is); (case nL_mosts => k_is)
    (case nL_ways => k_is); (case aCT => k_is); (case aTi => k_is); (case iTi => k_is); (case lTi => k_is); (case cTi => k_is)
    (case kTi => k_is); (case aTb => k_is); (case iTb => k_is); (case lTb => k_is); (case cTb => k_is); (case kTb => k_is)
    (case aTn => k_is); (case iTn => k_is); (case lTn => k_is); (case cTn => k_is); (case kTn => k_is); (case aTp => k_is)
    (case iTp => k_is); (case lTp => k_is); (case cTp => k_is); (case kTp => k_is); (case aTh => k_is); (case iTh => k_is)
    (case lTh => k_is); (case cTh => k_is); (case kTh => k_is); (case aTm => k_is); (case iTm => k_is); (case lTm => k_is)
    (case cTm => k_is); (case kTm => k_is); (case aTl => k_is); (case iTl => k_is); (case lTl => k_is); (case cTl => k_is)
    (case kTl => k_is); (case aTe => k_is); (case iTe => k_is); (case lTe => k_is); (case cTe => k_is); (case kTe => k_is)
    (case aTa => k_is); (case iTa => k_is); (case lTa => k_is); (case cTa => k_is); (case kTa => k_is); (case aTw => k_is)
    (case iTw => k_is); (case lTw => k_is); (case cTw => k_is); (case kTw => k_is); (case aTf => k_is); (case iTf => k_is)
    (case lTf => k_is); (case cTf => k_is); (case kTf => k_is); (case aTc => k_is); (case iTc => k_is); (case lTc => k_is)
    (case cTc => k_is); (case kTc => k_is); (case pgT => k_is); (case hdT => k_is); (case poT => k_is); (case saT => k_is)
    (case mkT => k_is); (case kcT => k_is); (case nT_grains => k_is); (case nT_lots => k_is); (case nT_events => k_is); (case aO => k_is)
    (case lO => k_is); (case cO => k_is); (case kO => k_is); (case aA => k_is); (case lA => k_is); (case cA => k_is)
    (case kA => k_is); (case g_START => k_is); (case g_COME_IN => k_is); (case g_POUR => k_is); (case g_HAS => k_is); (case g_MOST => k_is)
    (case g_MOST_TANKS => k_is); (case g_MOST_AMOUNT => k_is); (case g_MOST_EVENTS => k_is); (case g_WRONG_VALUE => k_is); (case g_NO_ROOM => k_is); (case g_TOO_FEW => k_is)
    (case g_WIDTHS => k_is); (case l_WIDTHS => k_is); (case b_len => k_is); (case b_range => k_is); (case b_min => k_is); (case b_list => k_is)
    (case b_sum => k_is); (case b_enumerate => k_is)
  case S =>
    intro K H xs a hO hwi hask hx
    cases hx with
    | cons h1 h2 =>
      cases h2
      cases h1 with
      | lst hs ha =>
        have e := L2.ints_dw a.1 _ ha
        subst e
        have q : ((Codec.inLen 0 30000 a.1 && a.1.all (Codec.inInt 0 4294967295)) && true) = true := hwi
        rw [Bool.and_eq_true, Bool.and_eq_true] at q
        obtain ⟨todo, hM⟩ := MG.mid_start (l := a.1) hask
        exact ⟨_, a.1, todo, rfl, hs, hM, (Codec.inNat_iff.mp q.1.1).2, fun H' p hp => .lst (L2.SqL.of hp) (L2.dw_ints _)⟩

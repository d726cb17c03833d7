import PyProof.Rows.All
import Wide.All
import OpenK.AllK
import Wide.FinOn
import PyProof.EqAt
import PyProof.EqKinds
import PyProof.TupleCall
import KE.BitLaws
import KE.KEqDeep
import Open.SpecLaws
import KE.OsHead
import KE.OsGo
import PySem.Challenge.RW_sealedrows_s01_answers
section
set_option Elab.async false
set_option linter.all false
set_option maxRecDepth 100000
/-! THE HAND LAYER, for ints, bools, texts, own classes, lists, tuples, dicts, comprehensions, walks over dicts, enumerate, zip, reversed, texts, calls, loops. Paste it whole ahead of your own text; what your proof does not reach may be deleted. -/
namespace L2
open PySem PySem.Spec PyProof.Rows

/-- a key: an int or a str -/
abbrev Key := Sum Int Str
def keyIs : Key → Value → Bool
  | .inl k, v => Value.isInt k v
  | .inr x, v => Value.isStrOf x v
def keyH (w : World) : Key → Int
  | .inl k => hashInt k
  | .inr x => hashStr w x
theorem keyIs_shape : ∀ {k : Key} {v : Value}, keyIs k v = true → (∃ i t, k = Sum.inl i ∧ v = Value.int i t) ∨ (∃ x t, k = Sum.inr x ∧ v = Value.str x t)
  | .inl i, v, h => by
    obtain ⟨t, e⟩ := Value.isInt_shape (k := i) (v := v) h
    exact .inl ⟨i, t, rfl, e⟩
  | .inr x, v, h => by
    obtain ⟨t, e⟩ := Value.isStrOf_shape (x := x) (v := v) h
    exact .inr ⟨x, t, rfl, e⟩
theorem key_ll (a b : Int) : decide ((Sum.inl a : Key) = Sum.inl b) = (a == b) := by
  by_cases e : a = b
  · subst e; simp
  · have h : ¬ (Sum.inl a : Key) = Sum.inl b := fun q => e (Sum.inl.inj q)
    rw [decide_eq_false h]
    exact (beq_eq_false_iff_ne.mpr e).symm
theorem key_rr (a b : Str) : decide ((Sum.inr a : Key) = Sum.inr b) = decide (a = b) := by
  by_cases e : a = b
  · subst e; simp
  · have h : ¬ (Sum.inr a : Key) = Sum.inr b := fun q => e (Sum.inr.inj q)
    rw [decide_eq_false h, decide_eq_false e]
theorem key_lr (a : Int) (b : Str) : decide ((Sum.inl a : Key) = Sum.inr b) = false := decide_eq_false (fun q => nomatch q)
theorem key_rl (a : Str) (b : Int) : decide ((Sum.inr a : Key) = Sum.inl b) = false := decide_eq_false (fun q => nomatch q)

def mixKind (prog : Program) (w : World) : PySem.KeyKind prog w Key where
  is := keyIs
  hash := keyH w
  inj := fun v a b ha hb => by
    rcases keyIs_shape ha with ⟨i, t, rfl, rfl⟩ | ⟨x, t, rfl, rfl⟩
    · rcases keyIs_shape hb with ⟨j, u, rfl, e⟩ | ⟨y, u, rfl, e⟩
      · injection e with e1 _; rw [e1]
      · exact nomatch e
    · rcases keyIs_shape hb with ⟨j, u, rfl, e⟩ | ⟨y, u, rfl, e⟩
      · exact nomatch e
      · injection e with e1 _; rw [e1]
  byValue := fun k v h => by
    rcases keyIs_shape h with ⟨i, t, rfl, rfl⟩ | ⟨x, t, rfl, rfl⟩ <;> rfl
  pyHash := fun hv h => by
    rcases keyIs_shape hv with ⟨i, t, rfl, rfl⟩ | ⟨x, t, rfl, rfl⟩
    · exact wpAny_pyHash_int h
    · exact wpAny_pyHash_str h
  eqBool := fun hu hv h => by
    rcases keyIs_shape hu with ⟨i, t, rfl, rfl⟩ | ⟨x, t, rfl, rfl⟩
    · rcases keyIs_shape hv with ⟨j, u, rfl, rfl⟩ | ⟨y, u, rfl, rfl⟩
      · rw [key_ll] at h; exact wpAny_eqBool_int h
      · rw [key_lr] at h; exact SeqAt.EqAt.int_str i t y u _ _ _ _ h
    · rcases keyIs_shape hv with ⟨j, u, rfl, rfl⟩ | ⟨y, u, rfl, rfl⟩
      · rw [key_rl] at h; exact SeqAt.EqAt.str_int x t j u _ _ _ _ h
      · rw [key_rr] at h; exact wpAny_eqBool_str h
  «strs» := fun k x t v h => by
    rcases keyIs_shape h with ⟨i, u, rfl, e⟩ | ⟨y, u, rfl, e⟩
    · exact nomatch e
    · injection e with e1 _
      subst e1
      cases v <;> rfl

end L2

namespace L2
open PySem PySem.Spec PyProof.Rows

/-- a value, without the heap -/
inductive V where
  | non | bl (b : Bool) | int (i : Int) | str (x : Str) | byt (b : Array UInt8) | flt (b : UInt64) | ref (a : Addr) | ty (n : String)
  deriving DecidableEq

def RelV : V → Value → Prop
  | .non, u => u = Value.none
  | .bl b, u => u = Value.bool b
  | .int i, u => ∃ t, u = Value.int i t
  | .str x, u => ∃ t, u = Value.str x t
  | .byt b, u => ∃ t, u = Value.bytes b t
  | .flt b, u => ∃ t, u = Value.float b t
  | .ref a, u => u = Value.ref a
  | .ty n, u => u = Value.type n

abbrev Vals : List V → List Value → Prop := Paired RelV
theorem Vals.length {xs : List V} {us : List Value} (r : Vals xs us) : xs.length = us.length := Paired.length r
theorem Vals.get : ∀ {xs : List V} {us : List Value} {i : Nat} {x : V}, Vals xs us → xs[i]? = some x → ∃ u, us[i]? = some u ∧ RelV x u
  | _, _, _, _, .nil, e => by simp at e
  | _, _, 0, _, .cons r _, e => by simp at e; subst e; exact ⟨_, rfl, r⟩
  | _, _, i + 1, x, .cons _ t, e => by
    obtain ⟨u, h1, h2⟩ := Vals.get (i := i) (x := x) t (by simpa using e)
    exact ⟨u, by simpa using h1, h2⟩
theorem Vals.set {x : V} {u : Value} (r : RelV x u) : ∀ {xs : List V} {us : List Value} (i : Nat), Vals xs us → Vals (xs.set i x) (us.set i u)
  | _, _, _, .nil => .nil
  | _, _, 0, .cons _ t => .cons r t
  | _, _, i + 1, .cons q t => .cons q (Vals.set r i t)
theorem Vals.append : ∀ {xs ys : List V} {us ws : List Value}, Vals xs us → Vals ys ws → Vals (xs ++ ys) (us ++ ws)
  | _, _, _, _, .nil, s => s
  | _, _, _, _, .cons r t, s => .cons r (Vals.append t s)
theorem Vals.take : ∀ {xs : List V} {us : List Value} (n : Nat), Vals xs us → Vals (xs.take n) (us.take n)
  | _, _, 0, _ => .nil
  | _, _, _ + 1, .nil => .nil
  | _, _, n + 1, .cons r t => .cons r (Vals.take n t)
theorem Vals.drop : ∀ {xs : List V} {us : List Value} (n : Nat), Vals xs us → Vals (xs.drop n) (us.drop n)
  | _, _, 0, r => r
  | _, _, _ + 1, .nil => .nil
  | _, _, n + 1, .cons _ t => Vals.drop n t

def RelO : Option V → Option Value → Prop
  | some v, some u => RelV v u
  | none, none => True
  | _, _ => False
def KV {κ : Type} : List (κ × V) → List (κ × Value) → Prop := Paired fun (p : κ × V) (q : κ × Value) => p.1 = q.1 ∧ RelV p.2 q.2

/-- a key of a dict (00_mix): an int or a text -/
def kV : Key → V
  | .inl i => .int i
  | .inr x => .str x

/-- what stands at a tracked address -/
inductive HO where
  /-- a list -/
  | lst (xs : List V)
  /-- a tuple (never changes) -/
  | tup (xs : List V)
  /-- a dict whose keys are ints and texts; one whose keys are tuples of ints and texts (the empty one is both) -/
  | dK (kvs : List (Key × V)) | dT (kvs : List (List Key × V))
  /-- a set of ints: its members, its size -/
  | set (S : Int → Bool) (n : Nat)
  /-- an instance of the class at C, its dict at dx, its attributes -/
  | ins (C dx : Addr) (fs : List (Str × V))
  /-- the dict of the instance at x -/
  | own (x : Addr)
  /-- the dict of an exception -/
  | xd (fs : List (Str × V))
  /-- a bound method, f of x -/
  | met (f x : Addr)
  /-- a range object lo, lo + 1, .. below hi -/
  | rng (lo hi : Int)
  /-- a thing that is known to the object (the script; a dict while a loop walks it): read, never written while it is so -/
  | frz (o : Obj) (u : HO)
  /-- a code object's table -/
  | tbl (ps : Array Value)
  /-- any other thing, by what is true of its one object (a def of one's own: SetO a S n := HO.ext fun h => ..) -/
  | ext (φ : Heap → Prop)

abbrev Hp := Addr → Option HO
def upd (H : Hp) (a : Addr) (o : HO) : Hp := fun b => if b = a then some o else H b
theorem upd_same {H : Hp} {a : Addr} {o : HO} : upd H a o a = some o := by unfold upd; rw [if_pos rfl]
theorem upd_ne {H : Hp} {a b : Addr} {o : HO} (h : b ≠ a) : upd H a o b = H b := by unfold upd; rw [if_neg h]
/-- two objects of different content stand apart -/
theorem ne_of {H : Hp} {a b : Addr} {o u : HO} (h : H a = some o) (h' : H b = some u) (d : o ≠ u) : a ≠ b := by
  intro e; subst e; rw [h] at h'; exact d (Option.some.inj h')
theorem ne_of_none {H : Hp} {a b : Addr} {o : HO} (h : H a = some o) (h' : H b = none) : a ≠ b := by
  intro e; subst e; rw [h] at h'; cases h'

section
variable (P : Program) (w : World)
def ObjOk (H : Hp) (h : Heap) (a : Addr) : HO → Prop
  | .lst xs => xs.length ≤ sizeLine ∧ ∃ (its : List Value) (n : Nat), Vals xs its ∧ h.get? a = some { cls := .type "list", data := .seq its.toArray n }
  | .tup xs => xs.length ≤ sizeLine ∧ ∃ its : List Value, Vals xs its ∧ IsTup h a its.toArray
  | .dK kvs => kvs.length ≤ sizeLine ∧ (a == sysModules) = false ∧ ∃ vs, KV kvs vs ∧ h.DictOf (mixKind P w) a vs
  | .dT kvs => kvs.length ≤ sizeLine ∧ (a == sysModules) = false ∧ ∃ xs : List (List Key × Addr × Value),
      Paired (fun (p : List Key × V) (q : List Key × Addr × Value) => p.1 = q.1 ∧ H q.2.1 = some (.tup (p.1.map kV)) ∧ RelV p.2 q.2.2) kvs xs ∧
      ∃ o es ep, h.get? a = some o ∧ o.ExactDict ∧ o.data = .dict es ep ∧ es.toList = xs.map (entryOfKey (tupleKind (mixKind P w))) ∧ (xs.map (·.1)).Nodup
  | .set S n => h.SetOf (intKind P w) a S n
  | .ins C dx fs => H dx = some (.own a) ∧ fs.length ≤ 1000 ∧ dx ≠ a ∧ h.get? a = some (PySem.W.instObj C dx) ∧
      ∃ mA, h.Ns1 dx mA ∧ (∀ f, RelO (fs.lookup f) (mA f)) ∧ PySem.Within mA (fs.map (·.1))
  | .own _ => ∃ o, h.get? a = some o
  | .xd fs => ∃ mA, h.Ns1 a mA ∧ ∀ f, RelO (fs.lookup f) (mA f)
  | .rng lo hi => ∃ t u v, h.get? a = some { cls := .type "range", data := .fields #[.int lo t, .int hi u, .int 1 v] }
  | .frz o u => h.get? a = some o ∧ ObjOk H h a u
  | .tbl ps => h.get? a = some { cls := .none, data := .fields ps }
  | .met f x => h.get? a = some (PySem.W.methodObj (.ref f) (.ref x))
  | .ext φ => φ h ∧ (∃ o, h.get? a = some o) ∧ ∀ h1 h2 : Heap, φ h1 → (∀ o, h1.get? a = some o → h2.get? a = some o) → φ h2
/-- the abstract heap is held -/
def HOk (H : Hp) (h : Heap) : Prop := ∀ a o, H a = some o → ObjOk P w H h a o
end

section
variable {P : Program} {w : World} {H H' : Hp} {h h' : Heap} {a : Addr} {o : HO}
theorem ObjOk.lt (x : ObjOk P w H h a o) : a < h.objs.size := by
  cases o with
  | lst xs => obtain ⟨_, _, _, _, e⟩ := x; exact Heap.lt_size e
  | tup xs => obtain ⟨_, _, _, p⟩ := x; exact p.lt
  | dK kvs => obtain ⟨_, _, _, _, o, _, _, e, _⟩ := x; exact Heap.lt_size e
  | dT kvs => obtain ⟨_, _, _, _, o, _, _, e, _⟩ := x; exact Heap.lt_size e
  | set S n => obtain ⟨o, _, _, _, e, _⟩ := x; exact Heap.lt_size e
  | ins C dx fs => obtain ⟨_, _, _, e, _⟩ := x; exact Heap.lt_size e
  | own y => obtain ⟨_, e⟩ := x; exact Heap.lt_size e
  | xd fs => obtain ⟨_, ⟨_, _, _, e, _⟩, _⟩ := x; exact Heap.lt_size e
  | rng lo hi => obtain ⟨_, _, _, e⟩ := x; exact Heap.lt_size e
  | frz ob u => obtain ⟨e, _⟩ := x; exact Heap.lt_size e
  | tbl ps => exact Heap.lt_size (show h.get? a = some _ from x)
  | met f y => exact Heap.lt_size (show h.get? a = some _ from x)
  | ext φ => obtain ⟨_, ⟨_, e⟩, _⟩ := x; exact Heap.lt_size e
theorem Paired.mapP {α β : Type} {F G : α → β → Prop} : ∀ {l₁ : List α} {l₂ : List β}, Paired F l₁ l₂ → (∀ a b, F a b → G a b) → Paired G l₁ l₂
  | _, _, .nil, _ => .nil
  | _, _, .cons r t, f => .cons (f _ _ r) (Paired.mapP t f)
/-- what an object's description leans on: its own object, its own dict, the tuples -/
theorem ObjOk.stay (x : ObjOk P w H h a o) (k : ∀ b u, (b = a ∨ H b = some (.own a)) → h.get? b = some u → h'.get? b = some u)
    (ho : ∀ b, H b = some (.own a) → H' b = some (.own a)) (ht : ∀ b xs, H b = some (.tup xs) → H' b = some (.tup xs)) : ObjOk P w H' h' a o := by
  induction o with
  | lst xs => obtain ⟨z, its, n, r, e⟩ := x; exact ⟨z, its, n, r, k _ _ (.inl rfl) e⟩
  | tup xs => obtain ⟨z, its, r, ob, e, c⟩ := x; exact ⟨z, its, r, ob, k _ _ (.inl rfl) e, c⟩
  | dK kvs => obtain ⟨z, y, vs, r, ob, es, ep, e, c⟩ := x; exact ⟨z, y, vs, r, ob, es, ep, k _ _ (.inl rfl) e, c⟩
  | dT kvs =>
    obtain ⟨z, y, xs, r, ob, es, ep, e, c⟩ := x
    exact ⟨z, y, xs, Paired.mapP r fun p q z => ⟨z.1, ht _ _ z.2.1, z.2.2⟩, ob, es, ep, k _ _ (.inl rfl) e, c⟩
  | set S n => obtain ⟨ob, es, ep, t, e, c⟩ := x; exact ⟨ob, es, ep, t, k _ _ (.inl rfl) e, c⟩
  | ins C dx fs =>
    obtain ⟨d, z, ne, e, mA, ⟨od, es, ep, e2, c⟩, r⟩ := x
    exact ⟨ho _ d, z, ne, k _ _ (.inl rfl) e, mA, ⟨od, es, ep, k _ _ (.inr d) e2, c⟩, r⟩
  | own y => obtain ⟨ob, e⟩ := x; exact ⟨ob, k _ _ (.inl rfl) e⟩
  | xd fs => obtain ⟨mA, ⟨od, es, ep, e, c⟩, r⟩ := x; exact ⟨mA, ⟨od, es, ep, k _ _ (.inl rfl) e, c⟩, r⟩
  | rng lo hi => obtain ⟨t, u, v, e⟩ := x; exact ⟨t, u, v, k _ _ (.inl rfl) e⟩
  | frz ob u ih => obtain ⟨e, q⟩ := x; exact ⟨k _ _ (.inl rfl) e, ih q⟩
  | tbl ps =>
    have e : h.get? a = some { cls := .none, data := .fields ps } := x
    show h'.get? a = some { cls := .none, data := .fields ps }
    exact k a _ (.inl rfl) e
  | met f y =>
    have e : h.get? a = some (PySem.W.methodObj (.ref f) (.ref y)) := x
    show h'.get? a = some (PySem.W.methodObj (.ref f) (.ref y))
    exact k a _ (.inl rfl) e
  | ext φ => obtain ⟨p, ⟨o, e⟩, st⟩ := x; exact ⟨st _ _ p fun o q => k _ _ (.inl rfl) q, ⟨o, k _ _ (.inl rfl) e⟩, st⟩
theorem HOk.lt (x : HOk P w H h) (e : H a = some o) : a < h.objs.size := (x a o e).lt
theorem HOk.fresh (x : HOk P w H h) (e : h.objs.size ≤ a) : H a = none := by
  cases q : H a with
  | none => rfl
  | some u => exact absurd (Nat.lt_of_lt_of_le (x.lt q) e) (Nat.lt_irrefl _)
/-- every object of the heap is kept -/
theorem HOk.kept (x : HOk P w H h) (k : ∀ b u, h.get? b = some u → h'.get? b = some u) : HOk P w H h' := fun a o e =>
  (x a o e).stay (fun b u _ q => k b u q) (fun _ q => q) fun _ _ q => q
/-- a new object is laid and tracked -/
theorem HOk.laid (x : HOk P w H h) (k : ∀ b u, h.get? b = some u → h'.get? b = some u) (hp : h.objs.size ≤ a) (new : ObjOk P w (upd H a o) h' a o) : HOk P w (upd H a o) h' := fun b u e => by
  have hn := x.fresh hp
  by_cases hb : b = a
  · subst hb; rw [upd_same] at e; cases e; exact new
  · rw [upd_ne hb] at e
    exact (x b u e).stay (fun c v _ q => k c v q) (fun c q => by rw [upd_ne (ne_of_none q hn)]; exact q) fun c xs q => by rw [upd_ne (ne_of_none q hn)]; exact q
end

/-- what may be read as u: it is u, or a known u -/
def Rd (H : Hp) (a : Addr) (u : HO) : Prop := H a = some u ∨ ∃ o, H a = some (.frz o u)
theorem Rd.ok {P : Program} {w : World} {H : Hp} {h : Heap} {a : Addr} {u : HO} (r : Rd H a u) (x : HOk P w H h) : ObjOk P w H h a u := by
  rcases r with r | ⟨o, r⟩
  · exact x a u r
  · obtain ⟨_, q⟩ := x a _ r
    exact q
/-- what may be written -/
def Mut : Option HO → Prop
  | some (.lst _) => True
  | some (.dK _) => True
  | some (.dT _) => True
  | some (.set _ _) => True
  | some (.ins _ _ _) => True
  | some (.ext _) => True
  | _ => False
section
variable {P : Program} {w : World} {H : Hp} {h h' : Heap} {x e : Addr} {o' : HO}
/-- the object at e is changed: x itself, or the dict of the instance x -/
theorem HOk.write (ok : HOk P w H h) (mu : Mut (H x)) (he : e = x ∨ H e = some (.own x)) (k : ∀ b u, b ≠ e → h.get? b = some u → h'.get? b = some u) (heo : ∃ u, h'.get? e = some u)
    (new : ObjOk P w (upd H x o') h' x o') : HOk P w (upd H x o') h' := fun b u q => by
  have nown : ∀ c y, H c = some (.own y) → c ≠ x := fun c y r z => by subst z; rw [r] at mu; exact mu
  have ntup : ∀ c xs, H c = some (.tup xs) → c ≠ x := fun c xs r z => by subst z; rw [r] at mu; exact mu
  by_cases hb : b = x
  · subst hb; rw [upd_same] at q; cases q; exact new
  · rw [upd_ne hb] at q
    by_cases hbe : b = e
    · have q' : H b = some (.own x) := by
        rcases he with z | z
        · exact absurd (hbe.trans z) hb
        · rw [hbe]; exact z
      rw [q] at q'; cases q'
      obtain ⟨v, hv⟩ := heo
      exact ⟨v, by rw [hbe]; exact hv⟩
    · refine (ok b u q).stay (fun c v hc r => k c v ?_ r) (fun c r => by rw [upd_ne (nown c b r)]; exact r) fun c xs r => by rw [upd_ne (ntup c xs r)]; exact r
      rcases hc with rfl | hc
      · exact hbe
      · rintro rfl
        rcases he with z | z
        · exact nown c b hc z
        · rw [hc] at z; cases z; exact hb rfl
end

/-! ### kept unless tracked; of the frames at fs (the callers') the slots may change (an exception that passes writes there); of the records at ex (iterators) nothing is said -/
structure Un (fs ex : List Addr) (H H' : Hp) (h h' : Heap) : Prop where
  keep : ∀ b o, h.get? b = some o → H b = none → b ∉ fs → b ∉ ex → h'.get? b = some o
  slot : ∀ b o, h.get? b = some o → H b = none → b ∈ fs → b ∉ ex → ∃ sl, h'.get? b = some { o with slots := sl }
  free : ∀ b o, h.get? b = some o → H b = none → b ∉ ex → H' b = none
  there : ∀ b o, h.get? b = some o → b ∉ ex → ∃ o', h'.get? b = some o'
  tups : ∀ b xs, H b = some (.tup xs) → H' b = some (.tup xs)
  frzs : ∀ b o u, H b = some (.frz o u) → H' b = some (.frz o u)
  tbls : ∀ b ps, H b = some (.tbl ps) → ∃ more, H' b = some (.tbl (ps ++ more))
section
variable {fs fs' ex ex' : List Addr} {H H1 H2 : Hp} {h h1 h2 h' : Heap} {a x e : Addr} {o : HO}
theorem Un.any (u : Un fs ex H H1 h h1) {b : Addr} {ob : Obj} (q : h.get? b = some ob) (n : H b = none) (hx : b ∉ ex) : ∃ sl, h1.get? b = some { ob with slots := sl } := by
  by_cases hb : b ∈ fs
  · exact u.slot b ob q n hb hx
  · exact ⟨ob.slots, u.keep b ob q n hb hx⟩
theorem Un.kept (k : ∀ b u, h.get? b = some u → h'.get? b = some u) : Un fs ex H H h h' :=
  ⟨fun b ob q _ _ _ => k b ob q, fun b ob q _ _ _ => ⟨ob.slots, k b ob q⟩, fun _ _ _ n _ => n, fun b ob q _ => ⟨ob, k b ob q⟩, fun _ _ q => q, fun _ _ _ q => q, fun _ ps q => ⟨#[], by rw [q]; simp⟩⟩
theorem Un.refl : Un fs ex H H h h := Un.kept fun _ _ q => q
theorem Un.laid (k : ∀ b u, h.get? b = some u → h'.get? b = some u) (hp : h.objs.size ≤ a) (hn : H a = none) : Un fs ex H (upd H a o) h h' where
  keep := fun b u q _ _ _ => k b u q
  slot := fun b u q _ _ _ => ⟨u.slots, k b u q⟩
  free := fun b u q n _ => by rw [upd_ne (Nat.ne_of_lt (Nat.lt_of_lt_of_le (Heap.lt_size q) hp))]; exact n
  there := fun b u q _ => ⟨u, k b u q⟩
  tups := fun b xs q => by rw [upd_ne (ne_of_none q hn)]; exact q
  frzs := fun b u xs q => by rw [upd_ne (ne_of_none q hn)]; exact q
  tbls := fun b ps q => ⟨#[], by rw [upd_ne (ne_of_none q hn), q]; simp⟩
theorem Un.write (mu : Mut (H x)) (he : e = x ∨ H e = some (.own x)) (k : ∀ b u, b ≠ e → h.get? b = some u → h'.get? b = some u) (heo : ∃ u, h'.get? e = some u) : Un fs ex H (upd H x o) h h' := by
  have hx : ∀ b, H b = none → b ≠ x := fun b n z => by subst z; rw [n] at mu; exact mu
  have hb : ∀ b, H b = none → b ≠ e := fun b n z => by
    subst z
    rcases he with r | r
    · exact hx b n r
    · rw [n] at r; cases r
  have hm : ∀ b u, H b = some u → ¬ Mut (some u) → b ≠ x := fun b u q nm z => by subst z; rw [q] at mu; exact nm mu
  refine ⟨fun b u q n _ _ => k b u (hb b n) q, fun b u q n _ _ => ⟨u.slots, k b u (hb b n) q⟩, fun b u q n _ => by rw [upd_ne (hx b n)]; exact n, fun b u q _ => ?_,
    fun b xs q => by rw [upd_ne (hm b _ q fun z => z)]; exact q, fun b u xs q => by rw [upd_ne (hm b _ q fun z => z)]; exact q, fun b ps q => ⟨#[], by rw [upd_ne (hm b _ q fun z => z), q]; simp⟩⟩
  by_cases hbe : b = e
  · subst hbe; exact heo
  · exact ⟨u, k b u hbe q⟩
end

/-! ### the heap without what is tracked -/
def trk (h : Heap) (H : Hp) : List Addr := (List.range h.objs.size).filter fun a => (H a).isSome
def hidT (h : Heap) (H : Hp) : Heap := PySem.W.hideAll h (trk h H)
theorem hidT_size (h : Heap) (H : Hp) : (hidT h H).objs.size = h.objs.size := PySem.W.hideAll_size _ _
theorem hidT_get {h : Heap} {H : Hp} {b : Addr} {o : Obj} (e : h.get? b = some o) (n : H b = none) : (hidT h H).get? b = some o :=
  PySem.W.hideAll_get _ e fun hm => by
    have q : (H b).isSome = true := (List.mem_filter.mp hm).2
    rw [n] at q; simp at q
theorem of_hidT {h : Heap} {H : Hp} {b : Addr} {o : Obj} (e : (hidT h H).get? b = some o) : h.get? b = some o ∧ H b = none := by
  have e' : h.get? b = some o := PySem.W.of_hideAll (trk h H) e
  refine ⟨e', ?_⟩
  cases q : H b with
  | none => rfl
  | some x =>
    have hm : b ∈ trk h H := List.mem_filter.mpr ⟨List.mem_range.mpr (Heap.lt_size e'), by simp [q]⟩
    have z : (hidT h H).get? b = none := PySem.W.hideAll_none (trk h H) hm
    rw [z] at e; cases e

/-! ### OpenK's ledger, filled with every new object but one -/
def allNews (g h : Heap) (L : Addr) : List (Addr × Obj) := (List.range h.objs.size).filterMap fun a => if a = L ∨ (g.get? a).isSome = true then none else (h.get? a).map fun o => (a, o)
def rest (g h : Heap) (L d : Addr) : List (Addr × Obj) := (allNews g h L).filter fun p => decide (p.1 ≠ d)
end L2

namespace L2
open PySem PySem.Spec PyProof.Rows

/-- the module's facts, over the base: the heap at the law's entry without what is tracked there -/
structure Mod (K : PySem.W.Frag) (mg : Str → Option Value) (base : Heap) : Prop where
  kin : K.In base
  glob : base.Ns mainGlobals mg
  blt : ∃ mb, base.Ns builtinsNs mb ∧ ∀ x : Str, x ≠ "__name__" → mb x = bootBuiltins x
  nolimit : base.NoLimit

/-- the context: a def's body (or a comprehension's block) running. base: fixed through the whole law; s₀, H₀: the entry; outer: the frames whose slots others may change (a def's callers); stack: all frames that run;
   ex: iterators that were made ahead of the entry and are walked here (a comprehension's); fn: the names whose cells were made at the entry (a def: all; a comprehension's block: its own); calm: not within an except suite; pn: pins that every state bears; xe: what is wanted of an exception that leaves the code -/
structure Cx where
  prog : Program
  w : World
  K : PySem.W.Frag
  mg : Str → Option Value
  base : Heap
  A : Around
  N : List Str
  s_0 : Shared
  H_0 : Hp
  env : Env
  outer : List Env
  stack : List Env
  ex : List Addr
  fn : Str → Bool
  calm : Bool
  pn : List (Addr × Obj)
  xe : Value → Shared → Prop
/-- the callers' frames -/
def frs (l : List Env) : List Addr := l.filterMap (·.frame)
abbrev Cx.fs (X : Cx) : List Addr := frs X.outer

def Vis (sc : Scope) (x : Str) : Prop := sc.names.lookup x = some .local ∨ sc.names.lookup x = some .cell ∨ sc.names.lookup x = some .free
def Loc (sc : Scope) (x : Str) : Prop := sc.names.lookup x = some .local ∨ sc.names.lookup x = some .cell
def Look (env : Env) (h : Heap) (m : Str → Option Value) (x : Str) (u : Value) : Prop :=
  (env.kindOf x = some .local ∧ m x = some u) ∨ ((env.kindOf x = some .cell ∨ env.kindOf x = some .free) ∧ ∃ c, env.cells.lookup x = some c ∧ h.IsCell c (some u))

structure Cx.Ok (X : Cx) : Prop where
  mod : Mod X.K X.mg X.base
  kind : X.env.scope.kind = .function
  glob : X.env.globals = mainGlobals
  blt : X.env.builtins = builtinsNs
  above : X.s_0.heap.objs.size ≤ X.env.locals
  inj : ∀ x y c, X.env.cells.lookup x = some c → X.env.cells.lookup y = some c → x = y
  has : ∀ x, (X.env.kindOf x = some .cell ∨ X.env.kindOf x = some .free) → ∃ c, X.env.cells.lookup x = some c
  cab : ∀ x c, X.fn x = true → X.env.cells.lookup x = some c → X.s_0.heap.objs.size ≤ c
  hd : X.calm = true → X.A.handled = none
  frames : X.A.frames = some X.stack
  stk : X.stack = X.outer ∨ (X.stack = X.env :: X.outer ∧ X.env.frame = some X.env.locals)
  exf : ∀ b ∈ X.ex, b ≠ X.env.locals ∧ ∀ x c, X.env.cells.lookup x = some c → c ≠ b
  bs : ∀ b o, X.base.get? b = some o → X.s_0.heap.get? b = some o ∧ X.H_0 b = none
  bsz : X.base.objs.size ≤ X.s_0.heap.objs.size
  noex : ∀ b o, X.base.get? b = some o → b ∉ X.ex
  exfs : ∀ b ∈ X.ex, b ∉ X.fs
  funs : X.s_0.heap.FunFrames X.base X.outer
  frf : ∀ b ∈ X.fs, X.H_0 b = none

structure Inv (X : Cx) (pins : List (Addr × Obj)) (σ : List (Option V)) (H : Hp) (s : Shared) : Prop where
  ok : X.Ok
  os : s.os = X.s_0.os
  bare : AllBare s.gens
  base : Un X.fs X.ex X.H_0 H X.s_0.heap s.heap
  loc : ∃ m, s.heap.Ns X.env.locals m ∧ ∀ (i : Nat) (x : Str) (v : V), X.N[i]? = some x → σ[i]? = some (some v) → Vis X.env.scope x → ∃ u, RelV v u ∧ Look X.env s.heap m x u
  cell : ∀ x c, X.env.cells.lookup x = some c → ∃ v, s.heap.IsCell c v
  free : H X.env.locals = none
  freeC : ∀ x c, X.env.cells.lookup x = some c → H c = none
  pin : ∀ p ∈ X.pn ++ pins, s.heap.get? p.1 = some p.2 ∧ H p.1 = none ∧ p.1 ≠ X.env.locals ∧ p.1 ∉ X.fs ∧ ∀ v, p.2.data ≠ .cell v
  hok : HOk X.prog X.w H s.heap
  len : σ.length = X.N.length

section
variable {X : Cx} {pins : List (Addr × Obj)} {σ : List (Option V)} {H H' : Hp} {s : Shared} {h' : Heap}

theorem Cx.Ok.nofr (ok : X.Ok) {b : Addr} {o : Obj} (e : X.base.get? b = some o) : b ∉ X.fs := fun hb => by
  have := (ok.funs.mem hb).1
  rw [e] at this; cases this
theorem Inv.bs (I : Inv X pins σ H s) : ∀ b o, X.base.get? b = some o → s.heap.get? b = some o ∧ H b = none := fun b o e =>
  ⟨I.base.keep b o (I.ok.bs b o e).1 (I.ok.bs b o e).2 (I.ok.nofr e) (I.ok.noex b o e), I.base.free b o (I.ok.bs b o e).1 (I.ok.bs b o e).2 (I.ok.noex b o e)⟩
theorem Inv.bk (I : Inv X pins σ H s) : ∀ b o, X.base.get? b = some o → s.heap.get? b = some o := fun b o e => (I.bs b o e).1
theorem Inv.mod (I : Inv X pins σ H s) : Mod X.K X.mg X.base := I.ok.mod
theorem Inv.kIn (I : Inv X pins σ H s) : X.K.In s.heap := I.ok.mod.kin.keeps I.bk
theorem Inv.lt (I : Inv X pins σ H s) : X.env.locals < s.heap.objs.size := let ⟨_, hn, _⟩ := I.loc; hn.lt
theorem Inv.sz (I : Inv X pins σ H s) : X.s_0.heap.objs.size ≤ s.heap.objs.size := Nat.le_trans I.ok.above (Nat.le_of_lt I.lt)
theorem Inv.nofs (I : Inv X pins σ H s) {a : Addr} (h : s.heap.objs.size ≤ a) : a ∉ X.fs := fun hb => by
  obtain ⟨_, o, ho, _⟩ := I.ok.funs.mem hb
  exact absurd (Nat.lt_of_lt_of_le (Heap.lt_size ho) (Nat.le_trans I.sz h)) (Nat.lt_irrefl _)
theorem Inv.cne (I : Inv X pins σ H s) : ∀ x c, X.env.cells.lookup x = some c → c ≠ X.env.locals := fun x c e z => by
  obtain ⟨v, o, ho, hd⟩ := I.cell x c e
  obtain ⟨m, ⟨o', es, ep, ho', hd', _⟩, _⟩ := I.loc
  rw [z, ho'] at ho; cases ho; rw [hd'] at hd; cases hd
theorem Inv.funs (I : Inv X pins σ H s) : s.heap.FunFrames X.base X.outer := by
  have all : ∀ (l : List Env), (∀ b ∈ frs l, b ∈ X.fs) → X.s_0.heap.FunFrames X.base l → s.heap.FunFrames X.base l := by
    intro l
    induction l with
    | nil => intro _ _; trivial
    | cons env r ih =>
      intro hs hl
      obtain ⟨hk, ⟨L, o, hf, hn, ho, hd⟩, hr⟩ := hl
      have hL : L ∈ X.fs := hs L (by unfold frs; rw [List.filterMap_cons, hf]; exact List.mem_cons_self)
      obtain ⟨sl, e⟩ := I.base.slot L o ho (I.ok.frf L hL) hL fun z => I.ok.exfs L z hL
      exact ⟨hk, ⟨L, _, hf, hn, e, hd⟩, ih (fun b hb => hs b (by unfold frs; rw [List.filterMap_cons, hf]; exact List.mem_cons_of_mem _ hb)) hr⟩
  exact all X.outer (fun _ hb => hb) I.ok.funs

/-- the frames that run, for a call -/
theorem Inv.stack (I : Inv X pins σ H s) : s.heap.FunFrames X.base X.stack := by
  rcases I.ok.stk with e | ⟨e, hf⟩
  · rw [e]; exact I.funs
  · rw [e]
    obtain ⟨m, hn, _⟩ := I.loc
    refine .cons (by rw [I.ok.kind]; decide) hf hn ?_ I.funs
    exact Heap.get?_none_of_le (Nat.le_trans I.ok.bsz I.ok.above)
theorem Inv.stkSub (I : Inv X pins σ H s) : ∀ b ∈ frs X.stack, b ∈ X.env.locals :: X.fs := fun b hb => by
  rcases I.ok.stk with e | ⟨e, hf⟩
  · rw [e] at hb; exact List.mem_cons_of_mem _ hb
  · rw [e] at hb
    unfold frs at hb
    rw [List.filterMap_cons, hf] at hb
    exact hb
theorem Inv.stkFree (I : Inv X pins σ H s) : ∀ b ∈ frs X.stack, H b = none := fun b hb => by
  rcases List.mem_cons.mp (I.stkSub b hb) with e | hb
  · rw [e]; exact I.free
  · obtain ⟨_, o, ho, _⟩ := I.ok.funs.mem hb
    exact I.base.free b o ho (I.ok.frf b hb) fun z => I.ok.exfs b z hb

/-- THE STEP: the untracked objects but the frame and the records at ch are kept (the callers' frames up to slots), the frame's map is kept, the new abstract heap is held -/
theorem Inv.step {g' : Array GenState} {t' : Nat} {d' : Drawn} {ch : List Addr} (I : Inv X pins σ H s)
    (hch : ∀ b ∈ ch, (b ∈ X.ex ∨ X.s_0.heap.objs.size ≤ b) ∧ b ≠ X.env.locals ∧ (∀ x c, X.env.cells.lookup x = some c → c ≠ b) ∧ ∀ p ∈ X.pn ++ pins, p.1 ≠ b)
    (keep : ∀ b o, b ≠ X.env.locals → b ∉ X.fs → b ∉ ch → s.heap.get? b = some o → H b = none → h'.get? b = some o)
    (slot : ∀ b o, b ≠ X.env.locals → b ∈ X.fs → b ∉ ch → s.heap.get? b = some o → H b = none → ∃ sl, h'.get? b = some { o with slots := sl }) (free : ∀ b o, b ∉ ch → s.heap.get? b = some o → H b = none → H' b = none)
    (there : ∀ b o, b ∉ ch → s.heap.get? b = some o → ∃ o', h'.get? b = some o')
    (tups : ∀ b xs, H b = some (.tup xs) → H' b = some (.tup xs)) (frzs : ∀ b o u, H b = some (.frz o u) → H' b = some (.frz o u)) (tbls : ∀ b ps, H b = some (.tbl ps) → ∃ more, H' b = some (.tbl (ps ++ more)))
    (ns : ∀ m, s.heap.Ns X.env.locals m → h'.Ns X.env.locals m) (hok : HOk X.prog X.w H' h') (hg : AllBare g') :
    Inv X pins σ H' { s with heap := h', gens := g', drawn := d', toks := t' } := by
  have neL : ∀ b o, X.s_0.heap.get? b = some o → b ≠ X.env.locals := fun b o e => Nat.ne_of_lt (Nat.lt_of_lt_of_le (Heap.lt_size e) I.ok.above)
  have neC : ∀ b o, X.s_0.heap.get? b = some o → b ∉ X.ex → b ∉ ch := fun b o e hx hb => by
    rcases (hch b hb).1 with z | z
    · exact hx z
    · exact absurd (Nat.lt_of_lt_of_le (Heap.lt_size e) z) (Nat.lt_irrefl _)
  have cellK : ∀ x c, X.env.cells.lookup x = some c → ∀ v, s.heap.IsCell c v → h'.IsCell c v := fun x c e v ⟨o, ho, hd⟩ => by
    have nch : c ∉ ch := fun z => (hch c z).2.2.1 x c e rfl
    by_cases hc : c ∈ X.fs
    · obtain ⟨sl, q⟩ := slot c o (I.cne x c e) hc nch ho (I.freeC x c e)
      exact ⟨_, q, hd⟩
    · exact ⟨o, keep c o (I.cne x c e) hc nch ho (I.freeC x c e), hd⟩
  refine ⟨I.ok, I.os, hg, ⟨fun b o e n hb hx => ?_, fun b o e n hb hx => ?_, fun b o e n hx => ?_, fun b o e hx => ?_, fun b xs e => tups b xs (I.base.tups b xs e), fun b o xs e => frzs b o xs (I.base.frzs b o xs e), fun b ps e => ?_⟩, ?_, fun x c e => ?_, ?_, fun x c e => ?_, fun p hp => ?_, hok, I.len⟩
  · exact keep b o (neL b o e) hb (neC b o e hx) (I.base.keep b o e n hb hx) (I.base.free b o e n hx)
  · obtain ⟨sl, e1⟩ := I.base.slot b o e n hb hx
    obtain ⟨sl', e2⟩ := slot b _ (neL b o e) hb (neC b o e hx) e1 (I.base.free b o e n hx)
    exact ⟨sl', e2⟩
  · obtain ⟨o', e1⟩ := I.base.there b o e hx
    exact free b o' (neC b o e hx) e1 (I.base.free b o e n hx)
  · obtain ⟨o', e1⟩ := I.base.there b o e hx
    exact there b o' (neC b o e hx) e1
  · obtain ⟨m1, e1⟩ := I.base.tbls b ps e
    obtain ⟨m2, e2⟩ := tbls b _ e1
    exact ⟨m1 ++ m2, by rw [e2, Array.append_assoc]⟩
  · obtain ⟨m, hn, hl⟩ := I.loc
    refine ⟨m, ns m hn, fun i x v e1 e2 e3 => ?_⟩
    obtain ⟨u, r, l⟩ := hl i x v e1 e2 e3
    refine ⟨u, r, ?_⟩
    rcases l with l | ⟨k, c, e, z⟩
    · exact .inl l
    · exact .inr ⟨k, c, e, cellK x c e _ z⟩
  · obtain ⟨v, z⟩ := I.cell x c e
    exact ⟨v, cellK x c e v z⟩
  · obtain ⟨m, ⟨o, _, _, ho, _⟩, _⟩ := I.loc
    exact free _ o (fun z => (hch _ z).2.1 rfl) ho I.free
  · obtain ⟨v, o, ho, hd⟩ := I.cell x c e
    exact free c o (fun z => (hch c z).2.2.1 x c e rfl) ho (I.freeC x c e)
  · obtain ⟨e, n, ne, nf, d⟩ := I.pin p hp
    have nch : p.1 ∉ ch := fun z => (hch p.1 z).2.2.2 p hp rfl
    exact ⟨keep p.1 p.2 ne nf nch e n, free p.1 p.2 nch e n, ne, nf, d⟩
/-- .. where the frame's own object is kept too -/
theorem Inv.un {t' : Nat} (I : Inv X pins σ H s) (u : Un X.fs [] H H' s.heap h') (hok : HOk X.prog X.w H' h') : Inv X pins σ H' { s with heap := h', toks := t' } := by
  obtain ⟨m, ⟨o, es, ep, ho, r⟩, _⟩ := id I.loc
  obtain ⟨sl, hL⟩ := u.any ho I.free (by simp)
  exact I.step (g' := s.gens) (d' := s.drawn) (ch := []) (fun _ z => nomatch z) (fun b o _ hb _ e n => u.keep b o e n hb (by simp)) (fun b o _ hb _ e n => u.slot b o e n hb (by simp)) (fun b o _ e n => u.free b o e n (by simp)) (fun b o _ e => u.there b o e (by simp)) u.tups u.frzs u.tbls (fun m' hm => by
    obtain ⟨o', es', ep', ho', r'⟩ := hm
    rw [ho] at ho'; cases ho'
    exact ⟨_, es', ep', hL, r'⟩) hok I.bare
/-- behind a call (or a comprehension's block): the slots of this frame may have changed too, the records at ch may have turned -/
theorem Inv.call {g' : Array GenState} {t' : Nat} {d' : Drawn} {ch : List Addr} (I : Inv X pins σ H s) (u : Un (frs X.stack) ch H H' s.heap h') (hok : HOk X.prog X.w H' h') (hg : AllBare g')
    (hch : ∀ b ∈ ch, (b ∈ X.ex ∨ X.s_0.heap.objs.size ≤ b) ∧ b ≠ X.env.locals ∧ (∀ x c, X.env.cells.lookup x = some c → c ≠ b) ∧ ∀ p ∈ X.pn ++ pins, p.1 ≠ b) :
    Inv X pins σ H' { s with heap := h', gens := g', drawn := d', toks := t' } := by
  obtain ⟨m, ⟨o, es, ep, ho, r⟩, _⟩ := id I.loc
  obtain ⟨sl, hL⟩ := u.any ho I.free fun z => (hch _ z).2.1 rfl
  exact I.step (ch := ch) hch (fun b o hL hb hc e n => u.keep b o e n (fun z => (List.mem_cons.mp (I.stkSub b z)).elim hL hb) hc) (fun b o _ _ hc e n => u.any e n hc) (fun b o hc e n => u.free b o e n hc) (fun b o hc e => u.there b o e hc) u.tups u.frzs u.tbls (fun m' hm => by
    obtain ⟨o', es', ep', ho', r'⟩ := hm
    rw [ho] at ho'; cases ho'
    exact ⟨_, es', ep', hL, r'⟩) hok hg
/-- an untracked record of ours (an iterator) has turned -/
theorem Inv.turned {t' : Nat} {it : Addr} (I : Inv X pins σ H s) (k : ∀ b o, b ≠ it → s.heap.get? b = some o → h'.get? b = some o) (hn : H it = none) (hL : it ≠ X.env.locals)
    (h1 : it ∈ X.ex ∨ X.s_0.heap.objs.size ≤ it) (h2 : ∀ x c, X.env.cells.lookup x = some c → c ≠ it) (h3 : ∀ p ∈ X.pn ++ pins, p.1 ≠ it) : Inv X pins σ H { s with heap := h', toks := t' } := by
  have nit : ∀ b u, H b = some u → b ≠ it := fun b u e z => by rw [z, hn] at e; cases e
  refine I.step (g' := s.gens) (d' := s.drawn) (ch := [it]) (fun b hb => ?_) (fun b o _ _ hc e _ => k b o (fun z => hc (by simp [z])) e) (fun b o _ _ hc e _ => ⟨o.slots, k b o (fun z => hc (by simp [z])) e⟩) (fun _ _ _ _ n => n)
    (fun b o hc e => ⟨o, k b o (fun z => hc (by simp [z])) e⟩) (fun _ _ e => e) (fun _ _ _ e => e) (fun b ps e => ⟨#[], by rw [e]; simp⟩) (fun m hm => ?_) (fun b u e => ?_) I.bare
  · have e : b = it := by simpa using hb
    subst e
    exact ⟨h1, hL, h2, h3⟩
  · obtain ⟨o, es, ep, ho, r⟩ := hm
    exact ⟨o, es, ep, k _ o (Ne.symm hL) ho, r⟩
  · refine (I.hok b u e).stay (fun c v hc q => k c v ?_ q) (fun _ q => q) fun _ _ q => q
    rcases hc with z | z
    · rw [z]; exact nit b u e
    · exact nit c _ z
theorem Inv.tok (I : Inv X pins σ H s) (t : Nat) : Inv X pins σ H { s with toks := t } := I.un (h' := s.heap) (t' := t) Un.refl I.hok
/-- all objects kept -/
theorem Inv.kept {t' : Nat} (I : Inv X pins σ H s) (k : ∀ b u, s.heap.get? b = some u → h'.get? b = some u) : Inv X pins σ H { s with heap := h', toks := t' } := I.un (Un.kept k) (I.hok.kept k)
/-- a new object laid and tracked -/
theorem Inv.laid {a : Addr} {o : HO} {t' : Nat} (I : Inv X pins σ H s) (k : ∀ b u, s.heap.get? b = some u → h'.get? b = some u) (hp : s.heap.objs.size ≤ a) (new : ObjOk X.prog X.w (upd H a o) h' a o) :
    Inv X pins σ (upd H a o) { s with heap := h', toks := t' } := I.un (Un.laid k hp (I.hok.fresh hp)) (I.hok.laid k hp new)
/-- an object written -/
theorem Inv.write {x e : Addr} {o : HO} {t' : Nat} (I : Inv X pins σ H s) (mu : Mut (H x)) (he : e = x ∨ H e = some (.own x)) (k : ∀ b u, b ≠ e → s.heap.get? b = some u → h'.get? b = some u) (heo : ∃ u, h'.get? e = some u)
    (new : ObjOk X.prog X.w (upd H x o) h' x o) : Inv X pins σ (upd H x o) { s with heap := h', toks := t' } := I.un (Un.write mu he k heo) (I.hok.write mu he k heo new)
/-- forgetting slots, pins -/
theorem Inv.weak {σ' : List (Option V)} (I : Inv X pins σ H s) (hl : σ'.length = σ.length) (w : ∀ (i : Nat) v, σ'[i]? = some (some v) → σ[i]? = some (some v)) : Inv X pins σ' H s :=
  ⟨I.ok, I.os, I.bare, I.base, let ⟨m, hn, hl'⟩ := I.loc; ⟨m, hn, fun i x v e1 e2 e3 => hl' i x v e1 (w i v e2) e3⟩, I.cell, I.free, I.freeC, I.pin, I.hok, hl.trans I.len⟩
theorem Inv.pins_of {pins' : List (Addr × Obj)} (I : Inv X pins σ H s) (h : ∀ p ∈ pins', s.heap.get? p.1 = some p.2 ∧ H p.1 = none ∧ p.1 ≠ X.env.locals ∧ p.1 ∉ X.fs ∧ ∀ v, p.2.data ≠ .cell v) : Inv X pins' σ H s :=
  ⟨I.ok, I.os, I.bare, I.base, I.loc, I.cell, I.free, I.freeC, fun p hp => (List.mem_append.mp hp).elim (fun z => I.pin p (List.mem_append_left _ z)) (h p), I.hok, I.len⟩

theorem nodup_ix {N : List Str} (hN : N.Nodup) {i j : Nat} {x : Str} (a : N[i]? = some x) (b : N[j]? = some x) : i = j := by
  obtain ⟨h1, e1⟩ := List.getElem?_eq_some_iff.mp a
  obtain ⟨h2, e2⟩ := List.getElem?_eq_some_iff.mp b
  exact (List.getElem_inj hN).mp (e1.trans e2.symm)

/-- a name is stored; what changed -/
theorem store_ok2 {M : Model} {A : Around} {E : Value → Shared → Prop} {i : Nat} {x : Str} {v : V} {u : Value} {Q : Unit → Shared → Prop} (I : Inv X pins σ H s) (hN : X.N.Nodup) (hi : X.N[i]? = some x) (hx : Loc X.env.scope x) (r : RelV v u)
    (h : ∀ s', Inv X pins (σ.set i (some v)) H s' → (∃ a, Heap.SameBut a s.heap s'.heap ∧ (a = X.env.locals ∨ X.env.cells.lookup x = some a)) → Q () s') (hf : X.fn x = true ∨ X.env.scope.names.lookup x = some .local := by first | exact .inl rfl | exact .inr rfl | assumption) : wpAny M A (storeName X.env x u) Q E s := by
  obtain ⟨m, hn, hl⟩ := id I.loc
  have hcls : (X.env.scope.kind == .class || (X.env.scope.kind == .module && X.env.locals != X.env.globals)) = false := by rw [I.ok.kind]; rfl
  have hiσ : i < σ.length := by rw [I.len]; exact (List.getElem?_eq_some_iff.mp hi).1
  have cne := I.cne
  have tracked : ∀ {a : Addr} {h' : Heap}, (∃ o, s.heap.get? a = some o ∧ H a = none) → Heap.SameBut a s.heap h' → HOk X.prog X.w H h' := fun {a h'} ha hs b ob e => by
    obtain ⟨_, _, hfree⟩ := ha
    refine (I.hok b ob e).stay (fun c w' hc q => (hs.2 c ?_).trans q) (fun _ q => q) fun _ _ q => q
    rintro rfl
    rcases hc with rfl | hc
    · rw [hfree] at e; cases e
    · rw [hfree] at hc; cases hc
  rcases hx with hk | hk
  · refine wpAny_storeName_local hk hn (fun h' hn' hs => ?_) hcls
    obtain ⟨oL, _, _, hoL, _⟩ := id hn
    refine h _ ⟨I.ok, I.os, I.bare, ⟨fun b o e n hb hx => ?_, fun b o e n hb hx => ?_, I.base.free, fun b o e hx => ?_, I.base.tups, I.base.frzs, I.base.tbls⟩, ⟨_, hn', fun j y v' e1 e2 e3 => ?_⟩, fun y c e => ?_, I.free, I.freeC, fun p hp => ?_, tracked ⟨oL, hoL, I.free⟩ hs, by simpa using I.len⟩ ⟨_, hs, .inl rfl⟩
    · exact (hs.2 b (Nat.ne_of_lt (Nat.lt_of_lt_of_le (Heap.lt_size e) I.ok.above))).trans (I.base.keep b o e n hb hx)
    · obtain ⟨sl, e1⟩ := I.base.slot b o e n hb hx
      exact ⟨sl, (hs.2 b (Nat.ne_of_lt (Nat.lt_of_lt_of_le (Heap.lt_size e) I.ok.above))).trans e1⟩
    · obtain ⟨o', e1⟩ := I.base.there b o e hx
      exact ⟨o', (hs.2 b (Nat.ne_of_lt (Nat.lt_of_lt_of_le (Heap.lt_size e) I.ok.above))).trans e1⟩
    · by_cases hj : j = i
      · subst hj
        rw [hi] at e1; cases e1
        rw [List.getElem?_set_self hiσ] at e2
        cases e2
        exact ⟨u, r, .inl ⟨hk, by simp⟩⟩
      · rw [List.getElem?_set_ne (Ne.symm hj)] at e2
        obtain ⟨u', r', q⟩ := hl j y v' e1 e2 e3
        refine ⟨u', r', ?_⟩
        rcases q with ⟨k, e⟩ | ⟨k, c, e, z⟩
        · refine .inl ⟨k, ?_⟩
          have : y ≠ x := fun e => hj (nodup_ix hN e1 (e ▸ hi))
          simp [this, e]
        · exact .inr ⟨k, c, e, z.sameBut hs (cne y c e)⟩
    · obtain ⟨w', z⟩ := I.cell y c e
      exact ⟨w', z.sameBut hs (cne y c e)⟩
    · obtain ⟨e, n, ne, nf, d⟩ := I.pin p hp
      exact ⟨(hs.2 p.1 ne).trans e, n, ne, nf, d⟩
  · have hfn : X.fn x = true := by
      rcases hf with z | z
      · exact z
      · rw [z] at hk; cases hk
    obtain ⟨c, hc⟩ := I.ok.has x (.inl hk)
    obtain ⟨w', z⟩ := I.cell x c hc
    refine wpAny_storeName_cell I.ok.kind hk hc z (fun h' hc' hs => ?_)
    obtain ⟨oc, hoc, hocd⟩ := id z
    refine h { s with heap := h' } ⟨I.ok, I.os, I.bare, ⟨fun b o e n hb hx => ?_, fun b o e n hb hx => ?_, I.base.free, fun b o e hx => ?_, I.base.tups, I.base.frzs, I.base.tbls⟩, ⟨m, hn.sameBut hs (Ne.symm (cne x c hc)), fun j y v' e1 e2 e3 => ?_⟩, fun y c' e => ?_, I.free, I.freeC, fun p hp => ?_, tracked ⟨oc, hoc, I.freeC x c hc⟩ hs, by simpa using I.len⟩ ⟨c, hs, .inr hc⟩
    · exact (hs.2 b (Nat.ne_of_lt (Nat.lt_of_lt_of_le (Heap.lt_size e) (I.ok.cab x c hfn hc)))).trans (I.base.keep b o e n hb hx)
    · obtain ⟨sl, e1⟩ := I.base.slot b o e n hb hx
      exact ⟨sl, (hs.2 b (Nat.ne_of_lt (Nat.lt_of_lt_of_le (Heap.lt_size e) (I.ok.cab x c hfn hc)))).trans e1⟩
    · obtain ⟨o', e1⟩ := I.base.there b o e hx
      exact ⟨o', (hs.2 b (Nat.ne_of_lt (Nat.lt_of_lt_of_le (Heap.lt_size e) (I.ok.cab x c hfn hc)))).trans e1⟩
    · by_cases hj : j = i
      · subst hj
        rw [hi] at e1; cases e1
        rw [List.getElem?_set_self hiσ] at e2
        cases e2
        exact ⟨u, r, .inr ⟨.inl hk, c, hc, hc'⟩⟩
      · rw [List.getElem?_set_ne (Ne.symm hj)] at e2
        obtain ⟨u', r', q⟩ := hl j y v' e1 e2 e3
        refine ⟨u', r', ?_⟩
        rcases q with q | ⟨k, c', e, z'⟩
        · exact .inl q
        · refine .inr ⟨k, c', e, z'.sameBut hs ?_⟩
          rintro rfl
          exact hj (nodup_ix hN e1 (I.ok.inj _ _ _ e hc ▸ hi))
    · by_cases hcc : c' = c
      · subst hcc; exact ⟨_, hc'⟩
      · obtain ⟨w2, z2⟩ := I.cell y c' e
        exact ⟨w2, z2.sameBut hs hcc⟩
    · obtain ⟨e, n, ne, nf, d⟩ := I.pin p hp
      refine ⟨(hs.2 p.1 ?_).trans e, n, ne, nf, d⟩
      intro q
      rw [q, hoc] at e
      have q' : oc = p.2 := Option.some.inj e
      exact d w' (by rw [← q']; exact hocd)
theorem store_ok {M : Model} {A : Around} {E : Value → Shared → Prop} {i : Nat} {x : Str} {v : V} {u : Value} {Q : Unit → Shared → Prop} (I : Inv X pins σ H s) (hN : X.N.Nodup) (hi : X.N[i]? = some x) (hx : Loc X.env.scope x) (r : RelV v u)
    (h : ∀ s', Inv X pins (σ.set i (some v)) H s' → Q () s') (hf : X.fn x = true ∨ X.env.scope.names.lookup x = some .local := by first | exact .inl rfl | exact .inr rfl | assumption) : wpAny M A (storeName X.env x u) Q E s :=
  store_ok2 I hN hi hx r (fun s' I' _ => h s' I') hf
/-- behind a call or a block, the state as it is -/
theorem Inv.call' {s' : Shared} {ch : List Addr} (I : Inv X pins σ H s) (ho : s'.os = s.os) (u : Un (frs X.stack) ch H H' s.heap s'.heap) (hok : HOk X.prog X.w H' s'.heap) (hg : AllBare s'.gens)
    (hch : ∀ b ∈ ch, (b ∈ X.ex ∨ X.s_0.heap.objs.size ≤ b) ∧ b ≠ X.env.locals ∧ (∀ x c, X.env.cells.lookup x = some c → c ≠ b) ∧ ∀ p ∈ X.pn ++ pins, p.1 ≠ b) : Inv X pins σ H' s' := by
  obtain ⟨h', g', d', t', o'⟩ := s'
  have e : o' = s.os := ho
  subst e
  exact I.call (g' := g') (t' := t') (d' := d') u hok hg hch
end

/-! ### the judgements -/
/-- an exception: its class, its own dict's address (where it has one), the abstract heap behind it -/
abbrev XK := Value → Option Addr → Hp → Prop
abbrev St := List (Option V)
abbrev VK := V → Hp → Prop
/-- an expression's reading; a test's; an argument list's -/
abbrev TE := St → Hp → VK → Prop
abbrev TT := St → Hp → (Bool → Hp → Prop) → Prop
abbrev TA := St → Hp → (List V → Hp → Prop) → Prop
/-- what is wanted behind a statement -/
structure Ends where
  nx : St → Hp → Prop
  rt : VK
  bk : St → Hp → Prop := fun _ _ => False
  ct : St → Hp → Prop := fun _ _ => False
abbrev TS := Ends → St → Hp → Prop

def EP (X : Cx) (pins : List (Addr × Obj)) (σ : St) (Q : VK) (u : Value) (s' : Shared) : Prop := ∃ v H', Inv X pins σ H' s' ∧ RelV v u ∧ Q v H'
def TP (X : Cx) (pins : List (Addr × Obj)) (σ : St) (Q : Bool → Hp → Prop) (b : Bool) (s' : Shared) : Prop := ∃ H', Inv X pins σ H' s' ∧ Q b H'
def AP (X : Cx) (pins : List (Addr × Obj)) (σ : St) (Q : List V → Hp → Prop) (us : List Value) (s' : Shared) : Prop := ∃ vs H', Inv X pins σ H' s' ∧ Vals vs us ∧ Q vs H'
def SP (X : Cx) (pins : List (Addr × Obj)) (D : Ends) (f : Flow) (s' : Shared) : Prop :=
  match f with
  | .next => ∃ σ' H', Inv X pins σ' H' s' ∧ D.nx σ' H'
  | .brk => ∃ σ' H', Inv X pins σ' H' s' ∧ D.bk σ' H'
  | .cont => ∃ σ' H', Inv X pins σ' H' s' ∧ D.ct σ' H'
  | .ret u => ∃ v σ' H', Inv X pins σ' H' s' ∧ RelV v u ∧ D.rt v H'

def PE (X : Cx) (e : Expr) (t : TE) : Prop :=
  ∀ (pins : List (Addr × Obj)) (s : Shared) (σ : St) (H : Hp) (Q : VK), Inv X pins σ H s → t σ H Q → wpAny (model X.prog X.w) X.A (eval e X.env) (EP X pins σ Q) X.xe s
def PT (X : Cx) (e : Expr) (t : TT) : Prop :=
  ∀ (pins : List (Addr × Obj)) (s : Shared) (σ : St) (H : Hp) (Q : Bool → Hp → Prop), Inv X pins σ H s → t σ H Q → wpAny (model X.prog X.w) X.A (isTrue e X.env (eval e X.env)) (TP X pins σ Q) X.xe s
/-- a test whatever its 'whole' is (and, or) -/
def PW (X : Cx) (e : Expr) (t : TT) : Prop :=
  ∀ (whole : Sem Value) (pins : List (Addr × Obj)) (s : Shared) (σ : St) (H : Hp) (Q : Bool → Hp → Prop), Inv X pins σ H s → t σ H Q → wpAny (model X.prog X.w) X.A (isTrue e X.env whole) (TP X pins σ Q) X.xe s
theorem PW.pt {X : Cx} {e : Expr} {t : TT} (h : PW X e t) : PT X e t := h _
/-- an argument list (no star), from the left -/
def PA (X : Cx) (es : List Expr) (t : TA) : Prop :=
  ∀ (pos : Pos) (pins : List (Addr × Obj)) (s : Shared) (σ : St) (H : Hp) (Q : List V → Hp → Prop), Inv X pins σ H s → t σ H Q → wpAny (model X.prog X.w) X.A (spliced (backTo pos (starEach es X.env))) (AP X pins σ Q) X.xe s
def PS (X : Cx) (st : Stmt) (t : TS) : Prop :=
  ∀ (pins : List (Addr × Obj)) (s : Shared) (σ : St) (H : Hp) (D : Ends), Inv X pins σ H s → t D σ H → wpAny (model X.prog X.w) X.A (exec st X.env) (SP X pins D) X.xe s
def PSs (X : Cx) (st : List Stmt) (t : TS) : Prop :=
  ∀ (pins : List (Addr × Obj)) (s : Shared) (σ : St) (H : Hp) (D : Ends), Inv X pins σ H s → t D σ H → wpAny (model X.prog X.w) X.A (execs st X.env) (SP X pins D) X.xe s
/-- weaken the end -/
theorem thn {α : Type} {t : Sem α} {Q Q' : α → Shared → Prop} {M : Model} {A : Around} {E : Value → Shared → Prop} {s : Shared} (h : wpAny M A t Q E s) (hQ : ∀ a s, Q a s → Q' a s) : wpAny M A t Q' E s := wpAny_mono h hQ fun _ _ x => x
end L2

namespace L2
open PySem PySem.Spec PyProof.Rows
section
variable {X : Cx}


/-! ### names and constants -/
def tVar (i : Nat) : TE := fun σ H Q => ∃ v, σ[i]? = some (some v) ∧ Q v H
def tC (v : V) : TE := fun _ H Q => Q v H
theorem pe_var {i : Nat} {x : Str} {pos : Pos} (hN : X.N[i]? = some x) (hv : Vis X.env.scope x) (hd : (x == ("__debug__" : Str)) = false := by decide) (hcd : (x == ("__classdict__" : Str)) = false := by decide) : PE X (.Name x pos) (tVar i) := by
  intro pins s σ H Q I h
  obtain ⟨v, e, h⟩ := h
  obtain ⟨m, hn, hl⟩ := I.loc
  obtain ⟨u, r, l⟩ := hl i x v hN e hv
  have fin : EP X pins σ Q u s := ⟨v, H, I, r, h⟩
  rcases l with ⟨hk, hm⟩ | ⟨hk, c, hc, hcell⟩
  · exact wpAny_Name (wpAny_loadName_local I.ok.kind hk hn hm fin) hd
  · rcases hk with hk | hk
    · exact wpAny_Name (wpAny_loadName_cell I.ok.kind hk hc hcell fin) hd
    · exact wpAny_Name (wpAny_loadName_free I.ok.kind hk hc hcell fin hcd) hd
theorem pe_int {i j pos} : PE X (.Constant (.int i) j pos) (tC (.int i)) := fun _ _ _ H _ I h => wpAny_Constant_int ⟨.int i, H, I.tok _, ⟨_, rfl⟩, h⟩

/-- a global name of the def -/
def Gl (X : Cx) (x : Str) : Prop := X.env.kindOf x = some .globalImplicit
theorem ld_glob {E : Value → Shared → Prop} {pins : List (Addr × Obj)} {s : Shared} {σ : St} {H : Hp} {x : Str} {u : Value} {pos : Pos} {Q : Value → Shared → Prop} (I : Inv X pins σ H s) (hg : Gl X x) (hm : X.mg x = some u) (h : Q u s)
    (hd : (x == ("__debug__" : Str)) = false := by decide) : wpAny (model X.prog X.w) X.A (eval (.Name x pos) X.env) Q E s :=
  Calls.Name_function_global I.ok.kind hg (Calls.loadGlobal_global (by rw [I.ok.glob]; exact I.mod.glob.keeps I.bk) hm h) hd
theorem ld_blt {E : Value → Shared → Prop} {pins : List (Addr × Obj)} {s : Shared} {σ : St} {H : Hp} {x : Str} {u : Value} {pos : Pos} {Q : Value → Shared → Prop} (I : Inv X pins σ H s) (hg : Gl X x) (hm : X.mg x = none) (hv : bootBuiltins x = some u) (h : Q u s)
    (hn : x ≠ "__name__" := by decide) (hd : (x == ("__debug__" : Str)) = false := by decide) : wpAny (model X.prog X.w) X.A (eval (.Name x pos) X.env) Q E s := by
  obtain ⟨mb, h1, h2⟩ := I.mod.blt
  exact Calls.Name_function_global I.ok.kind hg (Calls.loadGlobal_builtin (by rw [I.ok.glob]; exact I.mod.glob.keeps I.bk) hm (by rw [I.ok.blt]; exact h1.keeps I.bk) ((h2 x hn).trans hv) h) hd
/-- a module's constant, a class, a function, as a value -/
theorem pe_glob {x : Str} {v : V} {u : Value} {pos : Pos} (hg : Gl X x) (hm : X.mg x = some u) (r : RelV v u) (hd : (x == ("__debug__" : Str)) = false := by decide) : PE X (.Name x pos) (tC v) :=
  fun _ _ _ H _ I h => ld_glob I hg hm ⟨v, H, I, r, h⟩ hd

/-! ### arithmetic -/
/-- two ints -/
def t2I (ta tb : TE) (k : Int → Int → Hp → Prop) : St → Hp → Prop := fun σ H => ta σ H fun x H1 => tb σ H1 fun y H2 => ∃ i j, x = .int i ∧ y = .int j ∧ k i j H2
def tAdd (ta tb : TE) : TE := fun σ H Q => t2I ta tb (fun i j H2 => Q (.int (i + j)) H2) σ H
def tSub (ta tb : TE) : TE := fun σ H Q => t2I ta tb (fun i j H2 => Q (.int (i - j)) H2) σ H
/-- the left factor below 2^64 -/
def tMul (ta tb : TE) : TE := fun σ H Q => t2I ta tb (fun i j H2 => (-(2 ^ 64) < i ∧ i < 2 ^ 64) ∧ Q (.int (i * j)) H2) σ H
variable {a b : Expr} {ta tb : TE} {pos : Pos}

/-! ### comparisons -/
def PC (X : Cx) (op : CmpOp) (a b : Expr) (t : TE) : Prop :=
  ∀ (pins : List (Addr × Obj)) (s : Shared) (σ : St) (H : Hp) (Q : VK), Inv X pins σ H s → t σ H Q →
    wpAny (model X.prog X.w) X.A (eval a X.env) (fun v s₁ => wpAny (model X.prog X.w) X.A (eval b X.env) (fun u s₂ => wpAny (model X.prog X.w) X.A (compareOp op v u) (EP X pins σ Q) X.xe s₂) X.xe s₁) X.xe s
def tCmp (p : Int → Int → Bool) (ta tb : TE) : TE := fun σ H Q => t2I ta tb (fun i j H2 => Q (.bl (p i j)) H2) σ H
abbrev tLt : TE → TE → TE := tCmp fun i j => decide (i < j)
abbrev tLe : TE → TE → TE := tCmp fun i j => decide (i ≤ j)
abbrev tGt : TE → TE → TE := tCmp fun i j => decide (j < i)
abbrev tGe : TE → TE → TE := tCmp fun i j => decide (j ≤ i)
abbrev tEqI : TE → TE → TE := tCmp fun i j => decide (i = j)
abbrev tNeI : TE → TE → TE := tCmp fun i j => !decide (i = j)
/-- is None -/
def tIsN (ta : TE) : TE := fun σ H Q => ta σ H fun x H1 => Q (.bl (decide (x = .non))) H1
def tNotN (ta : TE) : TE := fun σ H Q => ta σ H fun x H1 => Q (.bl (!decide (x = .non))) H1
/-- a comparison as a value, as a test -/
def tB (t : TE) : TT := fun σ H Q => t σ H fun x H1 => ∃ c, x = .bl c ∧ Q c H1
/-- an expression whose value is a bool, as a test -/
theorem pt_val {e : Expr} {t : TE} (h : PE X e t) (he : ∀ whole, isTrue e X.env whole = (do let v ← whole; standAt e.pos; holding [v] (truthy v)) := by intro _; rfl) : PT X e (tB t) := by
  intro pins s σ H Q I hw
  refine isTrue_plain (thn (h pins s σ H _ I hw) fun v s1 ⟨x, H1, I1, r1, q1⟩ => ?_) (he _)
  obtain ⟨d, rfl, q⟩ := q1
  cases r1
  exact wpAny_truthy_bool ⟨H1, I1, q⟩

/-! ### and, or, not -/
variable {tA tB' : TT} {rest : List Expr}
def tAnd (t u : TT) : TT := fun σ H Q => t σ H fun c H1 => if c = true then u σ H1 Q else Q false H1
def tOr (t u : TT) : TT := fun σ H Q => t σ H fun c H1 => if c = true then Q true H1 else u σ H1 Q
def tNot (t : TT) : TT := fun σ H Q => t σ H fun c H1 => Q (!c) H1
theorem pw_or1 (ha : PT X a tA) : PW X (.BoolOp .Or [a] pos) tA := by
  intro wh pins s σ H Q I h
  refine isTrue_or (thn (ha pins s σ H Q I h) fun c s1 e => ?_)
  cases c with
  | false => exact isTrue_or_nil e
  | true => exact e
theorem pw_or (ha : PT X a tA) (hb : PW X (.BoolOp .Or (b :: rest) pos) tB') : PW X (.BoolOp .Or (a :: b :: rest) pos) (tOr tA tB') := by
  intro wh pins s σ H Q I h
  refine isTrue_or (thn (ha pins s σ H _ I h) fun c s1 ⟨H1, I1, q1⟩ => ?_)
  cases c with
  | true => exact ⟨H1, I1, q1⟩
  | false => exact hb wh pins s1 σ H1 Q I1 q1
theorem pt_not (ha : PT X a tA) : PT X (.UnaryOp .Not a pos) (tNot tA) := by
  intro pins s σ H Q I h
  exact isTrue_not (ha pins s σ H (fun c H1 => Q (!c) H1) I h)
/-- .. as values (bools) -/
def tAndV (ta tb : TE) : TE := fun σ H Q => ta σ H fun x H1 => ∃ c, x = .bl c ∧ if c = true then tb σ H1 Q else Q (.bl false) H1
def tOrV (ta tb : TE) : TE := fun σ H Q => ta σ H fun x H1 => ∃ c, x = .bl c ∧ if c = true then Q (.bl true) H1 else tb σ H1 Q
def tNotV (ta : TE) : TE := fun σ H Q => ta σ H fun x H1 => ∃ c, x = .bl c ∧ Q (.bl (!c)) H1
theorem pe_one {op} {t : TE} (h : PE X a t) : PE X (.BoolOp op [a] pos) t := fun pins s σ H Q I hw => BoolOp_one (h pins s σ H Q I hw)
theorem pe_or (ha : PE X a ta) (hb : PE X (.BoolOp .Or (b :: rest) pos) tb) : PE X (.BoolOp .Or (a :: b :: rest) pos) (tOrV ta tb) := by
  intro pins s σ H Q I h
  refine BoolOp_or (thn (ha pins s σ H _ I h) fun v s1 ⟨x, H1, I1, r1, q1⟩ => ?_)
  obtain ⟨c, rfl, q1⟩ := q1
  cases r1
  refine wpAny_truthy_bool ?_
  cases c with
  | false => exact hb pins s1 σ H1 Q I1 q1
  | true => exact ⟨.bl true, H1, I1, rfl, q1⟩
/-- a if t else b -/
def tIf (t : TT) (ta tb : TE) : TE := fun σ H Q => t σ H fun c H1 => if c = true then ta σ H1 Q else tb σ H1 Q
end
end L2

namespace L2
open PySem PySem.Spec PyProof.Rows

/-! ### a list, a tuple that is read: tracked, frozen, or an object of the module -/
def SqL (K : PySem.W.Frag) (H : Hp) (a : Addr) (xs : List V) : Prop :=
  Rd H a (.lst xs) ∨
    ∃ (o : Obj) (its : Array Value) (n : Nat), K.lookup a = some o ∧ o.cls = .type "list" ∧ o.dict = none ∧ o.data = .seq its n ∧ its.size ≤ sizeLine ∧ Vals xs its.toList
def SqT (K : PySem.W.Frag) (H : Hp) (a : Addr) (xs : List V) : Prop :=
  Rd H a (.tup xs) ∨
    ∃ (o : Obj) (its : Array Value) (n : Nat), K.lookup a = some o ∧ o.cls = .type "tuple" ∧ o.data = .seq its n ∧ its.size ≤ sizeLine ∧ Vals xs its.toList
def absV : Value → Option V
  | .none => some .non
  | .bool b => some (.bl b)
  | .int i _ => some (.int i)
  | .str x _ => some (.str x)
  | .bytes b _ => some (.byt b)
  | .float b _ => some (.flt b)
  | .ref a => some (.ref a)
  | .type n => some (.ty n)
  | _ => none
theorem RelV.abs {x : V} {u : Value} (r : RelV x u) : absV u = some x := by
  cases x with
  | non => cases r; rfl
  | bl _ => cases r; rfl
  | int _ => obtain ⟨t, rfl⟩ := r; rfl
  | str _ => obtain ⟨t, rfl⟩ := r; rfl
  | byt _ => obtain ⟨t, rfl⟩ := r; rfl
  | flt _ => obtain ⟨t, rfl⟩ := r; rfl
  | ref _ => cases r; rfl
  | ty _ => cases r; rfl
theorem RelV.inj {x y : V} {u : Value} (r : RelV x u) (q : RelV y u) : x = y := Option.some.inj (r.abs.symm.trans q.abs)
theorem Vals.inj : ∀ {xs ys : List V} {us : List Value}, Vals xs us → Vals ys us → xs = ys
  | _, _, _, .nil, .nil => rfl
  | _, _, _, .cons r t, .cons r' t' => by rw [r.inj r', Vals.inj t t']
section
variable {X : Cx} {pins : List (Addr × Obj)} {σ : St} {H : Hp} {s : Shared} {a : Addr} {xs ys : List V}
theorem SqL.of {K : PySem.W.Frag} (h : H a = some (.lst xs)) : SqL K H a xs := .inl (.inl h)
theorem SqT.of {K : PySem.W.Frag} (h : H a = some (.tup xs)) : SqT K H a xs := .inl (.inl h)
theorem Inv.list (I : Inv X pins σ H s) (h : SqL X.K H a xs) : ∃ its : List Value, Vals xs its ∧ PlainL s.heap a its.toArray ∧ xs.length ≤ sizeLine := by
  rcases h with h | ⟨o, its, n, hk, hc, hd, hs, hz, r⟩
  · obtain ⟨z, its, n, r, e⟩ := h.ok I.hok
    exact ⟨its, r, ⟨_, n, e, rfl, rfl, rfl⟩, z⟩
  · refine ⟨its.toList, r, ⟨o, n, I.kIn a o hk, hc, hd, by simpa using hs⟩, ?_⟩
    have e := r.length
    simp only [Array.length_toList] at e
    omega
theorem Inv.tuple (I : Inv X pins σ H s) (h : SqT X.K H a xs) : ∃ its : List Value, Vals xs its ∧ IsTup s.heap a its.toArray ∧ xs.length ≤ sizeLine := by
  rcases h with h | ⟨o, its, n, hk, hc, hs, hz, r⟩
  · obtain ⟨z, its, r, p⟩ := h.ok I.hok
    exact ⟨its, r, p, z⟩
  · refine ⟨its.toList, r, ⟨o, I.kIn a o hk, hc, n, by simpa using hs⟩, ?_⟩
    have e := r.length
    simp only [Array.length_toList] at e
    omega
theorem Inv.list_inj (I : Inv X pins σ H s) (h : SqL X.K H a xs) (h' : SqL X.K H a ys) : xs = ys := by
  obtain ⟨its, r, ⟨o, n, e, _, _, d⟩, _⟩ := I.list h
  obtain ⟨its', r', ⟨o', n', e', _, _, d'⟩, _⟩ := I.list h'
  rw [e] at e'; cases e'
  rw [d] at d'
  injection d' with d1 _
  have : its = its' := by simpa using congrArg Array.toList d1
  subst this
  exact r.inj r'
theorem Inv.tuple_inj (I : Inv X pins σ H s) (h : SqT X.K H a xs) (h' : SqT X.K H a ys) : xs = ys := by
  obtain ⟨its, r, ⟨o, e, _, n, d⟩, _⟩ := I.tuple h
  obtain ⟨its', r', ⟨o', e', _, n', d'⟩, _⟩ := I.tuple h'
  rw [e] at e'; cases e'
  rw [d] at d'
  injection d' with d1 _
  have : its = its' := by simpa using congrArg Array.toList d1
  subst this
  exact r.inj r'
end

/-! ### another wish about exceptions -/
abbrev Cx.wish (X : Cx) (E : Value → Shared → Prop) : Cx := { X with xe := E }
/-- no exception leaves -/
abbrev Cx.nox (X : Cx) : Cx := X.wish fun _ _ => False
theorem Cx.Ok.wish {X : Cx} (ok : X.Ok) (E : Value → Shared → Prop) : (X.wish E).Ok :=
  ⟨ok.mod, ok.kind, ok.glob, ok.blt, ok.above, ok.inj, ok.has, ok.cab, ok.hd, ok.frames, ok.stk, ok.exf, ok.bs, ok.bsz, ok.noex, ok.exfs, ok.funs, ok.frf⟩
theorem Cx.Ok.unwish {X : Cx} {E : Value → Shared → Prop} (ok : (X.wish E).Ok) : X.Ok :=
  ⟨ok.mod, ok.kind, ok.glob, ok.blt, ok.above, ok.inj, ok.has, ok.cab, ok.hd, ok.frames, ok.stk, ok.exf, ok.bs, ok.bsz, ok.noex, ok.exfs, ok.funs, ok.frf⟩
section
variable {X : Cx} {pins : List (Addr × Obj)} {σ : St} {H : Hp} {s : Shared} {E : Value → Shared → Prop}
theorem Inv.wish (I : Inv X pins σ H s) (E : Value → Shared → Prop) : Inv (X.wish E) pins σ H s := ⟨I.ok.wish E, I.os, I.bare, I.base, I.loc, I.cell, I.free, I.freeC, I.pin, I.hok, I.len⟩
theorem Inv.unwish (I : Inv (X.wish E) pins σ H s) : Inv X pins σ H s := ⟨I.ok.unwish, I.os, I.bare, I.base, I.loc, I.cell, I.free, I.freeC, I.pin, I.hok, I.len⟩
theorem SP.unwish {D : Ends} {f : Flow} {s' : Shared} (h : SP (X.wish E) pins D f s') : SP X pins D f s' := by
  cases f with
  | next => obtain ⟨σ', H', I, q⟩ := h; exact ⟨σ', H', I.unwish, q⟩
  | brk => obtain ⟨σ', H', I, q⟩ := h; exact ⟨σ', H', I.unwish, q⟩
  | cont => obtain ⟨σ', H', I, q⟩ := h; exact ⟨σ', H', I.unwish, q⟩
  | ret u => obtain ⟨v, σ', H', I, r, q⟩ := h; exact ⟨v, σ', H', I.unwish, r, q⟩
theorem PSs.nox {st : List Stmt} {t : TS} (h : PSs X.nox st t) : PSs X st t := fun pins s σ H D I hw =>
  wpAny_mono (h pins s σ H D (I.wish _) hw) (fun _ _ q => q.unwish) fun _ _ z => False.elim z
end

/-! ### blocks and small statements -/
section
variable {X : Cx} {st : Stmt} {rest : List Stmt} {t u : TS} {e : Expr} {te : TE} {pos : Pos}
def tNext : TS := fun D σ H => D.nx σ H
def tSeq (t u : TS) : TS := fun D σ H => t { D with nx := u D } σ H
theorem pss_nil : PSs X [] tNext := fun _ _ σ H _ I h => wpAny_execs_nil ⟨σ, H, I, h⟩
theorem pss_cons (h1 : PS X st t) (h2 : PSs X rest u) : PSs X (st :: rest) (tSeq t u) := by
  intro pins s σ H D I h
  refine wpAny_execs_cons (thn (h1 pins s σ H { D with nx := u D } I h) fun f s1 q => ?_)
  cases f with
  | next =>
    obtain ⟨σ', H', I', q⟩ := q
    exact h2 pins s1 σ' H' D I' q
  | ret v => exact q
  | brk => exact q
  | cont => exact q
theorem pss_one (h1 : PS X st t) : PSs X [st] t := by
  intro pins s σ H D I h
  refine wpAny_execs_cons (thn (h1 pins s σ H D I h) fun f s1 q => ?_)
  cases f with
  | next => exact wpAny_execs_nil q
  | ret v => exact q
  | brk => exact q
  | cont => exact q
def tBreak : TS := fun D σ H => D.bk σ H
def tCont : TS := fun D σ H => D.ct σ H
/-- in a def's body nothing is shown -/
theorem Inv.quiet {pins : List (Addr × Obj)} {σ : St} {H : Hp} {s : Shared} (I : Inv X pins σ H s) : interactive X.env = false := by simp [interactive, I.ok.kind]
/-- an expression whose value is dropped -/
def tDrop (te : TE) : TS := fun D σ H => te σ H fun _ H1 => D.nx σ H1
theorem ps_expr (he : PE X e te) (hs : swapsWith e none pos.line X.env = pure false := by rfl) : PS X (.Expr e pos) (tDrop te) := by
  intro pins s σ H D I h
  exact wpAny_Expr_any (thn (he pins s σ H _ I h) fun v s1 ⟨x, H1, I1, r1, q1⟩ => ⟨σ, H1, I1, q1⟩) I.quiet hs
def tRet (te : TE) : TS := fun D σ H => te σ H D.rt
theorem ps_ret (he : PE X e te) : PS X (.Return (some e) pos) (tRet te) := by
  intro pins s σ H D I h
  exact wpAny_Return_some (thn (he pins s σ H _ I h) fun v s1 ⟨x, H1, I1, r1, q1⟩ => ⟨x, σ, H1, I1, r1, q1⟩)
def tRetN : TS := fun D _ H => D.rt .non H
def tIfS (c : TT) (t u : TS) : TS := fun D σ H => c σ H fun b H1 => if b = true then t D σ H1 else u D σ H1
theorem ps_if {c : Expr} {a b : List Stmt} {tc : TT} (hc : PT X c tc) (ha : PSs X a t) (hb : PSs X b u) : PS X (.If c a b pos) (tIfS tc t u) := by
  intro pins s σ H D I h
  refine wpAny_If (thn (hc pins s σ H _ I h) fun d s1 ⟨H1, I1, q1⟩ => ?_)
  cases d with
  | true => exact ha pins s1 σ H1 D I1 q1
  | false => exact hb pins s1 σ H1 D I1 q1
/-- code that the proof never comes to -/
def tNever : TS := fun _ _ _ => False
theorem pss_never {sts : List Stmt} : PSs X sts tNever := fun _ _ _ _ _ _ h => h.elim
end

/-! ### targets -/
abbrev TG := V → St → Hp → (St → Hp → Prop) → Prop
abbrev TGs := List V → St → Hp → (St → Hp → Prop) → Prop
def PG (X : Cx) (target : Expr) (t : TG) : Prop :=
  ∀ (pins : List (Addr × Obj)) (s : Shared) (σ : St) (H : Hp) (v : V) (u : Value) (Q : St → Hp → Prop), Inv X pins σ H s → RelV v u → t v σ H Q →
    wpAny (model X.prog X.w) X.A (assign target X.env u) (fun _ s' => ∃ σ' H', Inv X pins σ' H' s' ∧ Q σ' H') X.xe s
/-- several targets, one after another -/
def PGs (X : Cx) (ts : List Expr) (t : TGs) : Prop :=
  ∀ (pins : List (Addr × Obj)) (s : Shared) (σ : St) (H : Hp) (vs : List V) (us : List Value) (Q : St → Hp → Prop), Inv X pins σ H s → Vals vs us → t vs σ H Q →
    wpAny (model X.prog X.w) X.A (assignInOrder ((assignEach ts X.env).map (·.2)) us) (fun _ s' => ∃ σ' H', Inv X pins σ' H' s' ∧ Q σ' H') X.xe s
/-- o[i] = v, by values -/
abbrev TSet := V → V → V → Hp → (Hp → Prop) → Prop
def PSet (X : Cx) (t : TSet) : Prop :=
  ∀ (pins : List (Addr × Obj)) (s : Shared) (σ : St) (H : Hp) (o i v : V) (ov iv u : Value) (Q : Hp → Prop), Inv X pins σ H s → RelV o ov → RelV i iv → RelV v u → t o i v H Q →
    wpAny (model X.prog X.w) X.A (setItem ov iv u) (fun _ s' => ∃ H', Inv X pins σ H' s' ∧ Q H') X.xe s
/-- a op= b, by values -/
abbrev TIp := V → V → Hp → VK → Prop
def PIp (X : Cx) (op : Operator) (t : TIp) : Prop :=
  ∀ (pins : List (Addr × Obj)) (s : Shared) (σ : St) (H : Hp) (x y : V) (v u : Value) (Q : VK), Inv X pins σ H s → RelV x v → RelV y u → t x y H Q →
    wpAny (model X.prog X.w) X.A (inplaceOp op v u) (EP X pins σ Q) X.xe s
section
variable {X : Cx} {pos : Pos}
def gName (i : Nat) : TG := fun v σ H Q => Q (σ.set i (some v)) H
theorem pg_name {i : Nat} {x : Str} (hN : X.N.Nodup) (hi : X.N[i]? = some x) (hx : Loc X.env.scope x) (hf : X.fn x = true ∨ X.env.scope.names.lookup x = some .local := by first | exact .inl rfl | exact .inr rfl | assumption) : PG X (.Name x pos) (gName i) := by
  intro pins s σ H v u Q I r h
  exact wpAny_assign_Name (store_ok I hN hi hx r (fun s' I' => ⟨_, H, I', h⟩) hf)
def gNil : TGs := fun vs σ H Q => vs = [] ∧ Q σ H
def gCons (t : TG) (u : TGs) : TGs := fun vs σ H Q => ∃ v r, vs = v :: r ∧ t v σ H fun σ' H' => u r σ' H' Q
theorem pgs_nil : PGs X [] gNil := by
  intro pins s σ H vs us Q I r h
  obtain ⟨e, h⟩ := h
  subst e
  cases r
  exact assignInOrder_nil ⟨σ, H, I, h⟩
theorem pgs_cons {e : Expr} {es : List Expr} {t : TG} {u : TGs} (h1 : PG X e t) (h2 : PGs X es u)
    (hs : (assignEach (e :: es) X.env).map (·.2) = assign e X.env :: (assignEach es X.env).map (·.2) := by rfl) : PGs X (e :: es) (gCons t u) := by
  intro pins s σ H vs us Q I r h
  obtain ⟨v, vr, e1, h⟩ := h
  subst e1
  cases r with
  | cons r rr =>
    rw [hs]
    refine assignInOrder_cons (thn (h1 pins s σ H _ _ _ I r h) fun _ s1 ⟨σ1, H1, I1, q1⟩ => ?_)
    exact h2 pins s1 σ1 H1 _ _ Q I1 rr q1
/-- (a, b, ..) = a tuple of that length -/
def gTup (K : PySem.W.Frag) (n : Nat) (t : TGs) : TG := fun v σ H Q => ∃ a xs, v = .ref a ∧ SqT K H a xs ∧ xs.length = n ∧ t xs σ H Q
theorem pg_tup {es : List Expr} {k : Nat} {t : TGs} {n : Nat} (hc : X.calm = true) (h : PGs X es t)
    (hn : (assignEach es X.env).length = n := by rfl) (hst : (assignEach es X.env).findIdx? (·.1) = none := by rfl) : PG X (.Tuple es k pos) (gTup X.K n t) := by
  intro pins s σ H v u Q I r hw
  obtain ⟨a, xs, e1, hq, hl, hw⟩ := hw
  subst e1
  cases r
  obtain ⟨its, rv, ht, hz⟩ := I.tuple hq
  refine assign_Tuple_tuple (I.ok.hd hc) ht (by simp [hn, ← hl, rv.length]) hst fun h' hx => ?_
  have I1 : Inv X pins σ H { s with heap := h' } := I.kept (t' := s.toks) fun b o e => hx b o (Nat.ne_of_lt (Heap.lt_size e)) e
  exact h pins _ σ H xs _ Q I1 (by simpa using rv) hw
/-- o[i] = .. -/
def gSub (to ti : TE) (t : TSet) : TG := fun v σ H Q => to σ H fun o H1 => ti σ H1 fun i H2 => t o i v H2 fun H3 => Q σ H3
theorem pg_sub {o i : Expr} {to ti : TE} {t : TSet} (ho : PE X o to) (hi : PE X i ti) (hs : PSet X t)
    (ha : ∀ v, assign (.Subscript o i pos) X.env v = (do
      let ov ← holding [v] (eval o X.env)
      let iv ← holding [v, ov] (eval i X.env)
      standAt pos
      holding [v, ov, iv] (setItem ov iv v)
      release [v, ov, iv] []) := by intro _; rfl) : PG X (.Subscript o i pos) (gSub to ti t) := by
  intro pins s σ H v u Q I r h
  rw [ha]
  refine wpAny_bind (wpAny_holding (thn (ho pins s σ H _ I h) fun ov s1 ⟨x, H1, I1, r1, q1⟩ => ?_))
  refine wpAny_bind (wpAny_holding (thn (hi pins s1 σ H1 _ I1 q1) fun iv s2 ⟨y, H2, I2, r2, q2⟩ => ?_))
  refine wpAny_bind (wpAny_standAt (wpAny_bind (wpAny_holding (thn (hs pins s2 σ H2 x y v ov iv u _ I2 r1 r2 r q2) fun _ s3 ⟨H3, I3, q3⟩ => ?_))))
  exact wpAny_release ⟨σ, H3, I3, q3⟩
/-- target = value -/
def tAsg (te : TE) (g : TG) : TS := fun D σ H => te σ H fun x H1 => g x σ H1 D.nx
theorem ps_asg {tg e : Expr} {te : TE} {g : TG} (he : PE X e te) (hg : PG X tg g) (hs : swapsWithSole [tg] e pos.line X.env = pure false := by rfl) (hw : swappedStores [tg] e X.env = pure none := by rfl)
    (h1 : (assignEach [tg] X.env).map (·.2) = [assign tg X.env] := by rfl) : PS X (.Assign [tg] e pos) (tAsg te g) := by
  intro pins s σ H D I h
  refine wpAny_Assign_stores (thn (he pins s σ H _ I h) fun v s1 ⟨x, H1, I1, r1, q1⟩ => ?_) hs hw
  rw [h1]
  exact thn (hg pins s1 σ H1 x v _ I1 r1 q1) fun _ s2 q => q
/-- name = value -/
theorem ps_set {i : Nat} {x : Str} {e : Expr} {te : TE} {pos' : Pos} (hN : X.N.Nodup) (hi : X.N[i]? = some x) (hx : Loc X.env.scope x) (he : PE X e te) (hs : swapsWith e (some (.Name x pos')) pos.line X.env = pure false := by rfl) (hf : X.fn x = true ∨ X.env.scope.names.lookup x = some .local := by first | exact .inl rfl | exact .inr rfl | assumption) :
    PS X (.Assign [.Name x pos'] e pos) (tAsg te (gName i)) := by
  intro pins s σ H D I h
  refine wpAny_Assign_Name (thn (he pins s σ H _ I h) fun v s1 ⟨y, H1, I1, r1, q1⟩ => ?_) hs
  exact store_ok I1 hN hi hx r1 (fun s2 I2 => ⟨_, H1, I2, q1⟩) hf
/-- a, b = x, y with plain local names: stored from the right; the pair itself is not tracked (the opening rows as in PyProof/Rows/TupAssign.lean:23) -/
def tPar (i j : Nat) (ta : TA) : TS := fun D σ H => ta σ H fun vs H1 => ∃ v w, vs = [v, w] ∧ D.nx ((σ.set i (some v)).set j (some w)) H1
/-- name op= e -/
def tAug (i : Nat) (te : TE) (ti : TIp) : TS := fun D σ H => ∃ x, σ[i]? = some (some x) ∧ te σ H fun y H1 => ti x y H1 fun z H2 => D.nx (σ.set i (some z)) H2
/-- o[i] op= e -/
def tAugS (to ti te : TE) (tget : V → V → Hp → VK → Prop) (tip : TIp) (tset : TSet) : TS := fun D σ H => to σ H fun o H1 => ti σ H1 fun i H2 => tget o i H2 fun x H3 => te σ H3 fun y H4 => tip x y H4 fun z H5 => tset o i z H5 fun H6 => D.nx σ H6
/-- o[i], by values -/
def PGet (X : Cx) (t : V → V → Hp → VK → Prop) : Prop :=
  ∀ (pins : List (Addr × Obj)) (s : Shared) (σ : St) (H : Hp) (o i : V) (ov iv : Value) (Q : VK), Inv X pins σ H s → RelV o ov → RelV i iv → t o i H Q →
    wpAny (model X.prog X.w) X.A (getItem ov iv) (EP X pins σ Q) X.xe s
/-- ints -/
def ipI (f : Int → Int → Int) : TIp := fun x y H Q => ∃ i j, x = .int i ∧ y = .int j ∧ Q (.int (f i j)) H
end

/-! ### while -/
section
variable {X : Cx} {pos : Pos}
/-- the invariant W with its measure -/
def tWhile (c : TT) (tb : TS) : TS := fun D σ H => ∃ W : Nat → St → Hp → Prop, (∃ m, W m σ H) ∧ ∀ m σ H, W m σ H →
  c σ H fun b H1 => if b = true then ∃ N : St → Hp → Prop, (∀ σ' H', N σ' H' → ∃ m', m' < m ∧ W m' σ' H') ∧ tb { D with nx := N, ct := N, bk := D.nx } σ H1 else D.nx σ H1
theorem ps_while {c : Expr} {body : List Stmt} {tc : TT} {tb : TS} (hp : PassesOwn (model X.prog X.w) X.A X.env X.xe) (hc : PT X c tc) (hb : PSs X body tb) : PS X (.While c body [] pos) (tWhile tc tb) := by
  intro pins s σ H D I h
  obtain ⟨W, ⟨m0, w0⟩, turn⟩ := h
  refine wpAny_While (codeAny_whileLoop (fun n s' => ∃ σ' H', Inv X pins σ' H' s' ∧ W n σ' H') ?_ m0 ⟨σ, H, I, w0⟩)
  rintro n s1 ⟨σ1, H1, I1, w1⟩
  refine wpAny_passesOwn hp (thn (hc pins s1 σ1 H1 _ I1 (turn n σ1 H1 w1)) fun b s2 ⟨H2, I2, q2⟩ => ?_)
  cases b with
  | true =>
    obtain ⟨N, hN, q2⟩ := q2
    rw [if_pos rfl]
    refine wpAny_passesOwn hp (thn (hb pins s2 σ1 H2 _ I2 q2) fun f s3 q3 => ?_)
    cases f with
    | next =>
      obtain ⟨σ3, H3, I3, n3⟩ := q3
      obtain ⟨m', hm, w3⟩ := hN σ3 H3 n3
      exact ⟨m', hm, σ3, H3, I3, w3⟩
    | cont =>
      obtain ⟨σ3, H3, I3, n3⟩ := q3
      obtain ⟨m', hm, w3⟩ := hN σ3 H3 n3
      exact ⟨m', hm, σ3, H3, I3, w3⟩
    | brk => exact q3
    | ret v => exact q3
  | false =>
    rw [if_neg Bool.false_ne_true]
    exact wpAny_execs_nil ⟨σ1, H2, I2, q2⟩
end

/-! ### what a loop or a comprehension walks -/
/-- at turn i: it yields x (the heap may grow), or it stops -/
structure It where
  go : Nat → Hp → Prop
  yld : Nat → Hp → V → Hp → Prop
  stop : Nat → Hp → Prop
/-- the iterator's own objects may turn: they are not the frame's, not pinned, younger than the entry (or a comprehension's own) -/
def FpOk (X : Cx) (pins : List (Addr × Obj)) (H : Hp) (b : Addr) : Prop :=
  H b = none ∧ b ≠ X.env.locals ∧ b ∉ X.fs ∧ (b ∈ X.ex ∨ X.s_0.heap.objs.size ≤ b) ∧ (∀ x c, X.env.cells.lookup x = some c → c ≠ b) ∧ ∀ p ∈ X.pn ++ pins, p.1 ≠ b
theorem Inv.fpOk {X : Cx} {pins : List (Addr × Obj)} {σ : St} {H H' : Hp} {s : Shared} {b : Addr} (I : Inv X pins σ H s) (hb : s.heap.objs.size ≤ b) (hn : H' b = none) : FpOk X pins H' b := by
  refine ⟨hn, Nat.ne_of_gt (Nat.lt_of_lt_of_le I.lt hb), I.nofs hb, .inr (Nat.le_trans I.sz hb), fun x c e z => ?_, fun p hp z => ?_⟩
  · obtain ⟨v, q⟩ := I.cell x c e
    exact absurd (Nat.lt_of_lt_of_le q.lt (by rw [z]; exact hb)) (Nat.lt_irrefl _)
  · exact absurd (Nat.lt_of_lt_of_le (Heap.lt_size (I.pin p hp).1) (by rw [z]; exact hb)) (Nat.lt_irrefl _)
structure Turn (P : Program) (w : World) (K : PySem.W.Frag) (tg : Expr) (J : It) (fp : List Addr) (it : Addr) (tn : Nat → Heap → Prop) : Prop where
  mem : it ∈ fp
  obj : ∀ i h, tn i h → ∀ b ∈ fp, ∃ o, h.get? b = some o ∧ ∀ v, o.data ≠ .cell v
  keep : ∀ i h h', tn i h → (∀ b ∈ fp, ∀ o, h.get? b = some o → h'.get? b = some o) → tn i h'
  item : ∀ (X : Cx), X.prog = P → X.w = w → X.K = K → X.calm = true → ∀ (i : Nat) (pins : List (Addr × Obj)) (s : Shared) (σ : St) (H : Hp) (E : Value → Shared → Prop), Inv X pins σ H s → (∀ b ∈ fp, FpOk X pins H b) → tn i s.heap → J.go i H →
    wpAny (model P w) X.A (pyNext (.ref it)) (fun r s1 => ∃ u, r = some u ∧
      wpAny (model P w) X.A (letOwnedTupleGo tg (.ref it) u) (fun _ s2 => ∃ x H', Inv X pins σ H' s2 ∧ RelV x u ∧ J.yld i H x H' ∧ tn (i + 1) s2.heap ∧ ∀ b ∈ fp, H' b = none) E s1) E s
  done : ∀ (X : Cx), X.prog = P → X.w = w → X.K = K → X.calm = true → ∀ (i : Nat) (pins : List (Addr × Obj)) (s : Shared) (σ : St) (H : Hp) (E : Value → Shared → Prop), Inv X pins σ H s → (∀ b ∈ fp, FpOk X pins H b) → tn i s.heap → J.stop i H →
    wpAny (model P w) X.A (pyNext (.ref it)) (fun r s1 => r = none ∧ Inv X pins σ H s1) E s
  self : ∀ (A : Around) (i : Nat) (s : Shared) (Q : Value → Shared → Prop) (E : Value → Shared → Prop), tn i s.heap → Q (.ref it) s → wpAny (model P w) A (pyIter (.ref it)) Q E s
abbrev TI := St → Hp → (It → Hp → Prop) → Prop
/-- an iterator has come -/
def PIE (X : Cx) (pins : List (Addr × Obj)) (σ : St) (tg : Expr) (R : It → Hp → Prop) (itv : Value) (s2 : Shared) : Prop :=
  ∃ (it : Addr) (fp : List Addr) (tn : Nat → Heap → Prop) (J : It) (H' : Hp), itv = .ref it ∧ Inv X pins σ H' s2 ∧ Turn X.prog X.w X.K tg J fp it tn ∧ tn 0 s2.heap ∧ (∀ b ∈ fp, FpOk X pins H' b) ∧ R J H'
def PI (X : Cx) (tg iter : Expr) (wi : TI) : Prop :=
  ∀ (pins : List (Addr × Obj)) (s : Shared) (σ : St) (H : Hp) (R : It → Hp → Prop), Inv X pins σ H s → wi σ H R →
    wpAny (model X.prog X.w) X.A (eval iter X.env) (fun v s1 => wpAny (model X.prog X.w) X.A (pyIter v) (PIE X pins σ tg R) X.xe s1) X.xe s

/-- the step ahead of the store is nothing for an iterator that keeps no tuple -/
theorem go_of {M : Model} {A : Around} {E : Value → Shared → Prop} {s : Shared} {tg : Expr} {it : Addr} {u : Value} {o : Obj} {n : String} {vs : Array Value} {Q : Unit → Shared → Prop} (ho : s.heap.get? it = some o) (hc : o.cls = .type n) (hd : o.data = .fields vs)
    (hn : ["enumerate", "zip", "dict_itemiterator", "dict_reverseitemiterator", "odict_iterator", "itertools.zip_longest", "itertools.pairwise"].contains n = false) (hQ : Q () s) : wpAny M A (letOwnedTupleGo tg (.ref it) u) Q E s := by
  unfold letOwnedTupleGo
  cases tg <;> first
    | exact wpAny_pure hQ
    | (cases u <;> first
        | exact wpAny_pure hQ
        | (refine wpAny_bind (wpAny_load ho ?_)
           rw [hc, hd]
           show wpAny M A (if (["enumerate", "zip", "dict_itemiterator", "dict_reverseitemiterator", "odict_iterator", "itertools.zip_longest", "itertools.pairwise"].contains n && vs[0]? == some (rawInt _)) = true then _ else _) Q E s
           rw [if_neg (by intro h; rw [hn, Bool.false_and] at h; cases h)]
           exact wpAny_pure hQ))

/-- the list at a, as it stands at each turn (a loop may append to it) -/
def Itl (K : PySem.W.Frag) (a : Addr) : It :=
  ⟨fun i H => ∃ xs x, SqL K H a xs ∧ xs[i]? = some x, fun i H x H' => H' = H ∧ ∀ xs, SqL K H a xs → xs[i]? = some x, fun i H => ∃ xs, SqL K H a xs ∧ xs.length ≤ i⟩
def Itt (K : PySem.W.Frag) (a : Addr) : It :=
  ⟨fun i H => ∃ xs x, SqT K H a xs ∧ xs[i]? = some x, fun i H x H' => H' = H ∧ ∀ xs, SqT K H a xs → xs[i]? = some x, fun i H => ∃ xs, SqT K H a xs ∧ xs.length ≤ i⟩
/-- lo, lo + 1, .. (n of them) -/
def Itr (lo : Int) (n : Nat) : It := ⟨fun i _ => i < n, fun i H x H' => H' = H ∧ x = .int (lo + i), fun i _ => n ≤ i⟩
theorem turn_tuple {P : Program} {w : World} {K : PySem.W.Frag} {tg : Expr} (a it : Addr) : Turn P w K tg (Itt K a) [it] it (fun i h => h.IsTupleIter it a i) where
  mem := by simp
  obj := fun i h st b hb => by
    have e : b = it := by simpa using hb
    subst e
    obtain ⟨o, e, c, d⟩ := st
    exact ⟨o, e, fun v z => by rw [d] at z; cases z⟩
  keep := fun i h h' st k => st.at fun o e => k it (by simp) o e
  item := by
    intro X hP hw hK hc i pins s σ H E I hf st hg
    subst hP hw hK
    obtain ⟨xs, x, hq, hx⟩ := hg
    obtain ⟨its, rv, p, hz⟩ := I.tuple hq
    obtain ⟨u, hu, ru⟩ := rv.get hx
    obtain ⟨f0, f1, f2, f3, f4, f5⟩ := hf it (by simp)
    refine wpAny_pyNext_tuple_item st (show s.heap.IsTuple a its.toArray from p) (x := u) (by simpa using hu) fun h' st' sb => ?_
    have I1 : Inv X pins σ H { s with heap := h' } := I.turned (t' := s.toks) (fun b o hb e => (sb.2 b hb).trans e) f0 f1 f3 f4 f5
    obtain ⟨o, e, c, d⟩ := id st'
    exact ⟨u, rfl, go_of (s := { s with heap := h' }) e c d (by decide) ⟨x, H, I1, ru, ⟨rfl, fun ys hy => by rw [I.tuple_inj hy hq]; exact hx⟩, st', fun b hb => (hf b hb).1⟩⟩
  done := by
    intro X hP hw hK hc i pins s σ H E I hf st hg
    subst hP hw hK
    obtain ⟨xs, hq, hx⟩ := hg
    obtain ⟨its, rv, p, hz⟩ := I.tuple hq
    obtain ⟨f0, f1, f2, f3, f4, f5⟩ := hf it (by simp)
    have hl := rv.length
    exact wpAny_pyNext_tuple_end (I.ok.hd hc) st (show s.heap.IsTuple a its.toArray from p) (by simp; omega) fun h' eb => ⟨rfl, I.turned (t' := s.toks) (fun b o hb e => eb b o hb e) f0 f1 f3 f4 f5⟩
  self := fun _ _ _ _ _ st h => wpAny_pyIter_tupleiter st h
theorem turn_range {P : Program} {w : World} {K : PySem.W.Frag} {tg : Expr} (it : Addr) (lo : Int) (n : Nat) : Turn P w K tg (Itr lo n) [it] it (fun i h => IsRangeIter h it (lo + (i : Nat) * 1) ((n : Int) - (i : Nat)) 1) where
  mem := by simp
  obj := fun i h st b hb => by
    have e : b = it := by simpa using hb
    subst e
    exact ⟨_, st, fun v z => by
      have z' : Data.fields _ = Data.cell v := z
      cases z'⟩
  keep := fun i h h' st k => k it (by simp) _ st
  item := by
    intro X hP hw hK hc i pins s σ H E I hf st hg
    subst hP hw hK
    obtain ⟨f0, f1, f2, f3, f4, f5⟩ := hf it (by simp)
    have W := Walks.range (prog := X.prog) (w := X.w) (I.ok.hd hc) it lo 1 n
    refine W.item i s _ _ hg st fun v h' tk hv st' kk => ?_
    obtain ⟨t, rfl⟩ := hv
    have I1 : Inv X pins σ H { s with heap := h', toks := tk } := I.turned (fun b o hb e => kk b o (by simpa using hb) e) f0 f1 f3 f4 f5
    refine ⟨_, rfl, go_of (s := { s with heap := h', toks := tk }) (n := "range_iterator") st' rfl rfl (by decide) ⟨.int (lo + i), H, I1, ⟨t, ?_⟩, ⟨rfl, rfl⟩, st', fun b hb => (hf b hb).1⟩⟩
    rw [Int.mul_one]
  done := by
    intro X hP hw hK hc i pins s σ H E I hf st hg
    subst hP hw hK
    obtain ⟨f0, f1, f2, f3, f4, f5⟩ := hf it (by simp)
    exact wpAny_pyNext_range_end (I.ok.hd hc) st (by have : n ≤ i := hg; omega) fun h' eb => ⟨rfl, I.turned (t' := s.toks) (fun b o hb e => eb b o hb e) f0 f1 f3 f4 f5⟩
  self := fun _ _ _ _ _ st h => wpAny_pyIter_rangeiter st h
end L2

namespace L2
open PySem PySem.Spec PyProof.Rows
section
variable {X : Cx} {tg : Expr}
def iList (K : PySem.W.Frag) (tl : TE) : TI := fun σ H R => tl σ H fun x H1 => ∃ a, x = .ref a ∧ (∃ xs, SqL K H1 a xs) ∧ R (Itl K a) H1
def iTup (K : PySem.W.Frag) (tl : TE) : TI := fun σ H R => tl σ H fun x H1 => ∃ a, x = .ref a ∧ (∃ xs, SqT K H1 a xs) ∧ R (Itt K a) H1
theorem pi_tup {l : Expr} {tl : TE} (hl : PE X l tl) : PI X tg l (iTup X.K tl) := by
  intro pins s σ H R I h
  refine thn (hl pins s σ H _ I h) fun v s1 ⟨x, H1, I1, r1, q1⟩ => ?_
  obtain ⟨a, e, ⟨xs, hq⟩, q⟩ := q1
  subst e
  cases r1
  obtain ⟨its, rv, p, hz⟩ := I1.tuple hq
  refine wpAny_pyIter_tuple (show s1.heap.IsTuple a its.toArray from p) ?_
  refine ⟨s1.heap.objs.size, [s1.heap.objs.size], _, _, H1, rfl, I1.kept (t' := s1.toks) fun b o e => Heap.get?_push_of_some _ e, turn_tuple a _, ⟨_, Heap.get?_push_size _ rfl, rfl, rfl⟩, fun b hb => ?_, q⟩
  have e : b = s1.heap.objs.size := by simpa using hb
  subst e
  exact I1.fpOk (Nat.le_refl _) (I1.hok.fresh (Nat.le_refl _))
/-- a range object just made, walked -/
theorem range_it {pins : List (Addr × Obj)} {σ : St} {H : Hp} {s : Shared} {R : It → Hp → Prop} {E : Value → Shared → Prop} {lo hi : Int} {t u v : Tok} {tk : Nat} (I : Inv X pins σ H s) (h1 : -(2 ^ 62) ≤ lo) (h2 : lo < 2 ^ 62) (h3 : -(2 ^ 62) ≤ hi) (h4 : hi < 2 ^ 62)
    (q : R (Itr lo (hi - lo).toNat) H) : wpAny (model X.prog X.w) X.A (pyIter (.ref s.heap.objs.size)) (PIE X pins σ tg R) E { s with heap := s.heap.push { cls := .type "range", data := .fields #[.int lo t, .int hi u, .int 1 v] }, toks := tk } := by
  refine wpAny_pyIter_range (IsRange.new ..) (small_one h1 h2 h3 h4) ?_
  have I1 : Inv X pins σ H { s with heap := s.heap.push { cls := .type "range", data := .fields #[.int lo t, .int hi u, .int 1 v] }, toks := tk } := I.kept fun b o e => Heap.get?_push_of_some _ e
  refine ⟨(s.heap.push { cls := .type "range", data := .fields #[.int lo t, .int hi u, .int 1 v] }).objs.size, [(s.heap.push { cls := .type "range", data := .fields #[.int lo t, .int hi u, .int 1 v] }).objs.size], _, _, H, rfl,
    I1.kept (t' := tk) fun b o e => Heap.get?_push_of_some _ e, turn_range _ lo (hi - lo).toNat, ?_, fun b hb => ?_, q⟩
  · have e1 : lo + ((0 : Nat) : Int) * 1 = lo := by simp
    have e2 : (((hi - lo).toNat : Nat) : Int) - ((0 : Nat) : Int) = Builtin.Range.rangeSize lo hi 1 := by rw [rangeSize_one]; split <;> omega
    show IsRangeIter _ _ (lo + ((0 : Nat) : Int) * 1) ((((hi - lo).toNat : Nat) : Int) - ((0 : Nat) : Int)) 1
    rw [e1, e2]
    exact Heap.get?_push_size _ rfl
  · have e : b = (s.heap.push { cls := .type "range", data := .fields #[.int lo t, .int hi u, .int 1 v] }).objs.size := by simpa using hb
    subst e
    exact I1.fpOk (Nat.le_refl _) (I1.hok.fresh (Nat.le_refl _))
def iRng1 (ta : TA) : TI := fun σ H R => ta σ H fun vs H1 => ∃ j : Int, vs = [.int j] ∧ -(2 ^ 62) ≤ j ∧ j < 2 ^ 62 ∧ R (Itr 0 j.toNat) H1
def iRng2 (ta : TA) : TI := fun σ H R => ta σ H fun vs H1 => ∃ i j : Int, vs = [.int i, .int j] ∧ (-(2 ^ 62) ≤ i ∧ i < 2 ^ 62 ∧ -(2 ^ 62) ≤ j ∧ j < 2 ^ 62) ∧ R (Itr i (j - i).toNat) H1
theorem pi_range1 {a : Expr} {ta : TA} {p pos : Pos} (hg : Gl X "range") (hm : X.mg "range" = none) (ha : PA X [a] ta) (hs : starEach [a] X.env = [(false, eval a X.env)] := by rfl) : PI X tg (.Call (.Name "range" p) [a] [] pos) (iRng1 ta) := by
  intro pins s σ H R I h
  refine Call_ (ld_blt I hg hm boot_range (PyProof.Rows.callWith_type1 (thn (ha pos pins s σ H _ I h) fun us s1 ⟨vs, H1, I1, r1, q1⟩ => ?_) hs rfl))
  obtain ⟨j, e, q1, q2, q⟩ := q1
  subst e
  cases r1 with
  | cons r rr =>
    cases rr
    obtain ⟨t, rfl⟩ := r
    exact call_range_1 (range_it I1 (by omega) (by omega) q1 q2 (by simpa using q))

/-! ### for -/
/-- W: the invariant by the turn and a measure; N: what the body is to reach -/
def tFor (wi : TI) (g : TG) (tb : TS) : TS := fun D σ H => wi σ H fun J H1 => ∃ W : Nat → Nat → St → Hp → Prop, (∃ m, W 0 m σ H1) ∧ ∀ i m σ H, W i m σ H →
  (J.stop i H ∧ D.nx σ H) ∨ (J.go i H ∧ ∃ N : St → Hp → Prop, (∀ σ' H', N σ' H' → ∃ m', m' < m ∧ W (i + 1) m' σ' H') ∧ ∀ x H', J.yld i H x H' → g x σ H' fun σ2 H2 => tb { D with nx := N, ct := N, bk := D.nx } σ2 H2)
/-- the records at fp as they stand -/
def pinsAt (fp : List Addr) (h : Heap) : List (Addr × Obj) := fp.filterMap fun b => (h.get? b).map fun o => (b, o)
theorem mem_pinsAt {fp : List Addr} {h : Heap} {b : Addr} {o : Obj} (hb : b ∈ fp) (e : h.get? b = some o) : (b, o) ∈ pinsAt fp h := List.mem_filterMap.mpr ⟨b, hb, by rw [e]; rfl⟩
theorem of_pinsAt {fp : List Addr} {h : Heap} {p : Addr × Obj} (hp : p ∈ pinsAt fp h) : p.1 ∈ fp ∧ h.get? p.1 = some p.2 := by
  obtain ⟨b, hb, e⟩ := List.mem_filterMap.mp hp
  cases q : h.get? b with
  | none => rw [q] at e; cases e
  | some o =>
    rw [q] at e
    have e' : (b, o) = p := Option.some.inj e
    subst e'
    exact ⟨hb, q⟩
theorem Inv.pinned {pins : List (Addr × Obj)} {σ : St} {H : Hp} {s : Shared} {fp : List Addr} (I : Inv X pins σ H s) (hf : ∀ b ∈ fp, FpOk X pins H b) (ho : ∀ b ∈ fp, ∃ o, s.heap.get? b = some o ∧ ∀ v, o.data ≠ .cell v) : Inv X (pins ++ pinsAt fp s.heap) σ H s :=
  I.pins_of fun p hp => (List.mem_append.mp hp).elim (fun z => I.pin p (List.mem_append_right _ z)) fun z => by
    obtain ⟨hb, e⟩ := of_pinsAt z
    obtain ⟨f0, f1, f2, _⟩ := hf p.1 hb
    obtain ⟨o, e', d⟩ := ho p.1 hb
    rw [e] at e'; cases e'
    exact ⟨e, f0, f1, f2, d⟩
theorem Inv.unpinned {pins pl : List (Addr × Obj)} {σ : St} {H : Hp} {s : Shared} (I : Inv X (pins ++ pl) σ H s) : Inv X pins σ H s := I.pins_of fun p hp => I.pin p (List.mem_append_right _ (List.mem_append_left _ hp))
theorem ps_for {iter : Expr} {body : List Stmt} {wi : TI} {g : TG} {tb : TS} {pos : Pos} (hp : PassesOwn (model X.prog X.w) X.A X.env X.xe) (hc : X.calm = true) (hi : PI X tg iter wi) (hg : PG X tg g) (hb : PSs X body tb)
    (hs : ∀ x, foldedSetIterable iter X.env x = pure x := by intro _; rfl) : PS X (.For tg iter body [] pos) (tFor wi g tb) := by
  intro pins s σ H D I h
  refine wpAny_For (thn (hi pins s σ H _ I h) fun v s1 h1 => thn h1 fun itv s2 h2 => ?_) hs
  obtain ⟨it, fp, tn, J, H2, e, I2, T, st2, f2, W, ⟨m0, w0⟩, turn⟩ := h2
  subst e
  -- what stays true of the iterator's objects through the loop
  have stat : ∀ {H' : Hp}, (∀ b ∈ fp, H' b = none) → ∀ b ∈ fp, FpOk X pins H' b := fun hn b hb => ⟨hn b hb, (f2 b hb).2⟩
  refine codeAny_forLoop_any (fun n s' => ∃ i σ' H', Inv X pins σ' H' s' ∧ tn i s'.heap ∧ (∀ b ∈ fp, H' b = none) ∧ W i n σ' H') ?_ m0 ⟨0, σ, H2, I2, st2, fun b hb => (f2 b hb).1, w0⟩
  rintro n s3 ⟨i, σ3, H3, I3, st3, fr3, w3⟩
  rcases turn i n σ3 H3 w3 with ⟨stop, qn⟩ | ⟨go, N, hN, step⟩
  · refine wpAny_passesOwn hp (thn (T.done X rfl rfl rfl hc i pins s3 σ3 H3 X.xe I3 (stat fr3) st3 stop) fun r s4 ⟨hr, I4⟩ => ?_)
    subst hr
    exact wpAny_execs_nil ⟨σ3, H3, I4, qn⟩
  · refine wpAny_passesOwn hp (thn (T.item X rfl rfl rfl hc i pins s3 σ3 H3 X.xe I3 (stat fr3) st3 go) fun r s4 ⟨u, hr, h4⟩ => ?_)
    subst hr
    refine wpAny_passesOwn hp (thn h4 fun _ s5 ⟨x, H5, I5, r5, y5, st5, fr5⟩ => ?_)
    have I5' := I5.pinned (stat fr5) (T.obj _ _ st5)
    refine wpAny_passesOwn hp (thn (hg _ s5 σ3 H5 x u _ I5' r5 (step x H5 y5)) fun _ s6 ⟨σ6, H6, I6, q6⟩ => ?_)
    refine wpAny_passesOwn hp (thn (hb _ s6 σ6 H6 _ I6 q6) fun f s7 q7 => ?_)
    have again : ∀ {σ7 : St} {H7 : Hp}, Inv X (pins ++ pinsAt fp s5.heap) σ7 H7 s7 → N σ7 H7 → ∃ m, m < n ∧ ∃ i σ' H', Inv X pins σ' H' s7 ∧ tn i s7.heap ∧ (∀ b ∈ fp, H' b = none) ∧ W i m σ' H' := fun {σ7 H7} I7 n7 => by
      obtain ⟨m', hm, w7⟩ := hN σ7 H7 n7
      refine ⟨m', hm, i + 1, σ7, H7, I7.unpinned, T.keep _ _ _ st5 fun b hb o e => (I7.pin (b, o) (List.mem_append_right _ (List.mem_append_right _ (mem_pinsAt hb e)))).1, fun b hb => ?_, w7⟩
      obtain ⟨o, e, d⟩ := T.obj _ _ st5 b hb
      exact (I7.pin (b, o) (List.mem_append_right _ (List.mem_append_right _ (mem_pinsAt hb e)))).2.1
    cases f with
    | next => obtain ⟨σ7, H7, I7, n7⟩ := q7; exact again I7 n7
    | cont => obtain ⟨σ7, H7, I7, n7⟩ := q7; exact again I7 n7
    | brk => obtain ⟨σ7, H7, I7, q7⟩ := q7; exact ⟨σ7, H7, I7.unpinned, q7⟩
    | ret v => obtain ⟨x7, σ7, H7, I7, r7, q7⟩ := q7; exact ⟨x7, σ7, H7, I7.unpinned, r7, q7⟩
end

/-! ### the forms one uses -/
theorem for_tup {K : PySem.W.Frag} {a : Addr} {xs : List V} {g : TG} {tb : TS} {D : Ends} {σ : St} {H : Hp} (Pv : Nat → St → Hp → Prop) (h0 : Pv 0 σ H) (hl : ∀ i σ H, i ≤ xs.length → Pv i σ H → SqT K H a xs)
    (hs : ∀ i x σ H, xs[i]? = some x → Pv i σ H → g x σ H fun σ2 H2 => tb { D with nx := Pv (i + 1), ct := Pv (i + 1), bk := D.nx } σ2 H2) (hd : ∀ σ H, Pv xs.length σ H → D.nx σ H) :
    ∃ W : Nat → Nat → St → Hp → Prop, (∃ m, W 0 m σ H) ∧ ∀ i m σ H, W i m σ H →
      ((Itt K a).stop i H ∧ D.nx σ H) ∨ ((Itt K a).go i H ∧ ∃ N : St → Hp → Prop, (∀ σ' H', N σ' H' → ∃ m', m' < m ∧ W (i + 1) m' σ' H') ∧ ∀ x H', (Itt K a).yld i H x H' → g x σ H' fun σ2 H2 => tb { D with nx := N, ct := N, bk := D.nx } σ2 H2) := by
  refine ⟨fun i m σ H => m = xs.length - i ∧ i ≤ xs.length ∧ Pv i σ H, ⟨xs.length, by simp, Nat.zero_le _, h0⟩, ?_⟩
  rintro i m σ H ⟨rfl, hi, p⟩
  have q := hl i σ H hi p
  by_cases hlt : i < xs.length
  · refine .inr ⟨⟨xs, xs[i], q, by simp [hlt]⟩, Pv (i + 1), fun σ' H' p' => ⟨xs.length - (i + 1), by omega, rfl, hlt, p'⟩, fun x H' y => ?_⟩
    obtain ⟨e, y⟩ := y
    subst e
    exact hs i x σ _ (y xs q) p
  · have e : i = xs.length := by omega
    subst e
    exact .inl ⟨⟨xs, q, Nat.le_refl _⟩, hd σ H p⟩
end L2

namespace L2
open PySem PySem.Spec PyProof.Rows

abbrev R2 := V → V → Hp → VK → Prop
/-- a two-place operation on values: f is binaryOp op, inplaceOp op or compareOp op -/
def OpR (X : Cx) (f : Value → Value → Sem Value) (r : R2) : Prop :=
  ∀ (pins : List (Addr × Obj)) (s : Shared) (σ : St) (H : Hp) (x y : V) (v u : Value) (Q : VK), Inv X pins σ H s → RelV x v → RelV y u → r x y H Q →
    wpAny (model X.prog X.w) X.A (f v u) (EP X pins σ Q) X.xe s
/-- a one-place operation -/
def UnR (X : Cx) (f : Value → Sem Value) (r : V → Hp → VK → Prop) : Prop :=
  ∀ (pins : List (Addr × Obj)) (s : Shared) (σ : St) (H : Hp) (x : V) (v : Value) (Q : VK), Inv X pins σ H s → RelV x v → r x H Q →
    wpAny (model X.prog X.w) X.A (f v) (EP X pins σ Q) X.xe s
/-- a call of a value that is known (a builtin, a type) with values -/
def CallR (X : Cx) (f : Value) (r : List V → Hp → VK → Prop) : Prop :=
  ∀ (pins : List (Addr × Obj)) (s : Shared) (σ : St) (H : Hp) (xs : List V) (us : List Value) (Q : VK), Inv X pins σ H s → Vals xs us → r xs H Q →
    wpAny (model X.prog X.w) X.A (call f us) (EP X pins σ Q) X.xe s
/-- a value's truth -/
def TruR (X : Cx) (r : V → Hp → (Bool → Hp → Prop) → Prop) : Prop :=
  ∀ (pins : List (Addr × Obj)) (s : Shared) (σ : St) (H : Hp) (x : V) (v : Value) (Q : Bool → Hp → Prop), Inv X pins σ H s → RelV x v → r x H Q →
    wpAny (model X.prog X.w) X.A (truthy v) (TP X pins σ Q) X.xe s

def tOp (r : R2) (ta tb : TE) : TE := fun σ H Q => ta σ H fun x H1 => tb σ H1 fun y H2 => r x y H2 Q
def tUn (r : V → Hp → VK → Prop) (ta : TE) : TE := fun σ H Q => ta σ H fun x H1 => r x H1 Q
/-- ints in, under C, and a value out -/
def rI (C : Int → Int → Prop) (g : Int → Int → V) : R2 := fun x y H Q => ∃ i j, x = .int i ∧ y = .int j ∧ C i j ∧ Q (g i j) H
def rI0 (g : Int → Int → V) : R2 := fun x y H Q => ∃ i j, x = .int i ∧ y = .int j ∧ Q (g i j) H
def rU (g : Int → V) : V → Hp → VK → Prop := fun x H Q => ∃ i, x = .int i ∧ Q (g i) H

section
variable {X : Cx} {a b c : Expr} {ta tb tc : TE} {pos : Pos}

theorem binT (ha : PE X a ta) (hb : PE X b tb) {pins : List (Addr × Obj)} {s : Shared} {σ : St} {H : Hp} {R : V → V → Hp → Prop} (I : Inv X pins σ H s)
    (h : ta σ H fun x H1 => tb σ H1 fun y H2 => R x y H2) {Q : Value → Shared → Prop} {f : Value → Value → Sem Value}
    (hf : ∀ v u s2 x y H2, Inv X pins σ H2 s2 → RelV x v → RelV y u → R x y H2 → wpAny (model X.prog X.w) X.A (f v u) Q X.xe s2) :
    wpAny (model X.prog X.w) X.A (eval a X.env) (fun v s₁ => wpAny (model X.prog X.w) X.A (eval b X.env) (fun u s₂ => wpAny (model X.prog X.w) X.A (f v u) Q X.xe s₂) X.xe s₁) X.xe s := by
  refine thn (ha pins s σ H _ I h) fun v s1 ⟨x, H1, I1, r1, q1⟩ => ?_
  refine thn (hb pins s1 σ H1 _ I1 q1) fun u s2 ⟨y, H2, I2, r2, q2⟩ => ?_
  exact hf v u s2 x y H2 I2 r1 r2 q2

theorem pe_op {op : Operator} {r : R2} (ho : OpR X (binaryOp op) r) (ha : PE X a ta) (hb : PE X b tb) : PE X (.BinOp a op b pos) (tOp r ta tb) := by
  intro pins s σ H Q I h
  exact wpAny_BinOp (binT ha hb I h fun v u s2 x y H2 I2 rx ry q => ho pins s2 σ H2 x y v u Q I2 rx ry q)

/-! ### ints -/
theorem opI {f : Value → Value → Sem Value} {C : Int → Int → Prop} {g : Int → Int → Int}
    (rule : ∀ (i j : Int) (t u : Tok) (s : Shared) (Q : Value → Shared → Prop) (E : Value → Shared → Prop), C i j → Q (.int (g i j) s.toks) { s with toks := s.toks + 1 } → wpAny (model X.prog X.w) X.A (f (.int i t) (.int j u)) Q E s) :
    OpR X f (rI C fun i j => .int (g i j)) := by
  intro pins s σ H x y v u Q I rx ry h
  obtain ⟨i, j, rfl, rfl, hc, q⟩ := h
  obtain ⟨t, rfl⟩ := rx
  obtain ⟨t', rfl⟩ := ry
  exact rule i j t t' s _ _ hc ⟨.int (g i j), H, I.tok _, ⟨_, rfl⟩, q⟩
theorem opI0 {f : Value → Value → Sem Value} {g : Int → Int → Int}
    (rule : ∀ (i j : Int) (t u : Tok) (s : Shared) (Q : Value → Shared → Prop) (E : Value → Shared → Prop), Q (.int (g i j) s.toks) { s with toks := s.toks + 1 } → wpAny (model X.prog X.w) X.A (f (.int i t) (.int j u)) Q E s) :
    OpR X f (rI0 fun i j => .int (g i j)) := by
  intro pins s σ H x y v u Q I rx ry h
  obtain ⟨i, j, rfl, rfl, q⟩ := h
  obtain ⟨t, rfl⟩ := rx
  obtain ⟨t', rfl⟩ := ry
  exact rule i j t t' s _ _ ⟨.int (g i j), H, I.tok _, ⟨_, rfl⟩, q⟩
theorem opB0 {f : Value → Value → Sem Value} {g : Int → Int → Bool}
    (rule : ∀ (i j : Int) (t u : Tok) (s : Shared) (Q : Value → Shared → Prop) (E : Value → Shared → Prop), Q (.bool (g i j)) s → wpAny (model X.prog X.w) X.A (f (.int i t) (.int j u)) Q E s) :
    OpR X f (rI0 fun i j => .bl (g i j)) := by
  intro pins s σ H x y v u Q I rx ry h
  obtain ⟨i, j, rfl, rfl, q⟩ := h
  obtain ⟨t, rfl⟩ := rx
  obtain ⟨t', rfl⟩ := ry
  exact rule i j t t' s _ _ ⟨.bl (g i j), H, I, rfl, q⟩

def CDiv (i j : Int) : Prop := 0 < j ∧ j < 1073741824
def CDivN (i j : Int) : Prop := j ≠ 0 ∧ j.natAbs < 1073741824
def CPow (i j : Int) : Prop := 0 ≤ j ∧ j ≤ 1000000 ∧ i.natAbs < 2 ^ 64
def CMul (i j : Int) : Prop := (-(2 ^ 64) < i ∧ i < 2 ^ 64) ∨ (-(2 ^ 64) < j ∧ j < 2 ^ 64)
theorem CMul.ok {i j : Int} (h : CMul i j) : IntMulOk i j := by
  rcases h with ⟨h1, h2⟩ | ⟨h1, h2⟩
  · exact .of_left (intBits_le_64 h1 h2)
  · exact .of_right (intBits_le_64 h1 h2)
theorem two_pow_nn (k : Nat) : (0 : Int) ≤ 2 ^ k := by
  rw [two_pow_cast]
  exact Int.natCast_nonneg _

theorem op_add : OpR X (binaryOp .Add) (rI0 fun i j => .int (i + j)) := opI0 fun _ _ _ _ _ _ _ q => add_int q
theorem op_sub : OpR X (binaryOp .Sub) (rI0 fun i j => .int (i - j)) := opI0 fun _ _ _ _ _ _ _ q => sub_int q
theorem op_mul : OpR X (binaryOp .Mult) (rI CMul fun i j => .int (i * j)) := opI fun _ _ _ _ _ _ _ hc q => mul_int q hc.ok
/-- // by a positive divisor -/
theorem op_fdiv : OpR X (binaryOp .FloorDiv) (rI CDiv fun i j => .int (i / j)) := opI fun i j _ _ _ _ _ hc q => by
  have h1 : (0 : Int) < j := hc.1
  have h2 : j < 1073741824 := hc.2
  exact floordiv_int (by omega) (by rw [Int.fdiv_eq_ediv_of_nonneg i (by omega)]; exact q) (.inl (PyProof.noPylong_small (by omega)))
/-- % by a positive divisor of any size -/
theorem op_mod : OpR X (binaryOp .Mod) (rI (fun _ j => 0 < j) fun i j => .int (i % j)) := opI fun i j _ _ _ _ _ hc q => by
  have h1 : (0 : Int) < j := hc
  exact mod_int' (by omega) (by rw [Int.fmod_eq_emod_of_nonneg i (by omega)]; exact q)
theorem op_shr : OpR X (binaryOp .RShift) (rI (fun _ j => 0 ≤ j) fun i j => .int (i / 2 ^ j.toNat)) := opI fun i j _ _ _ _ _ hc q =>
  rshift_int hc (by rw [Int.fdiv_eq_ediv_of_nonneg i (two_pow_nn _)]; exact q)
theorem op_and : OpR X (binaryOp .BitAnd) (rI0 fun i j => .int (Builtin.bitAnd i j)) := opI0 fun _ _ _ _ _ _ _ q => and_int q
theorem op_or : OpR X (binaryOp .BitOr) (rI0 fun i j => .int (Builtin.bitOr i j)) := opI0 fun _ _ _ _ _ _ _ q => or_int q
theorem op_xor : OpR X (binaryOp .BitXor) (rI0 fun i j => .int (Builtin.bitXor i j)) := opI0 fun _ _ _ _ _ _ _ q => xor_int q



/-! ### bools among ints: n += (a < b) -/
end

/-! ### comparisons -/
/-- the scalars that == tells apart as data does -/
def scal : V → V → Bool
  | .non, .non => true | .non, .int _ => true | .int _, .non => true | .non, .bl _ => true | .bl _, .non => true | .non, .str _ => true | .str _, .non => true
  | .int _, .int _ => true | .bl _, .bl _ => true | .str _, .str _ => true | .byt _, .byt _ => true
  | .int _, .str _ => true | .str _, .int _ => true | .bl _, .str _ => true | .str _, .bl _ => true
  | _, _ => false
def rEq : R2 := fun x y H Q => scal x y = true ∧ Q (.bl (decide (x = y))) H
def rNe : R2 := fun x y H Q => scal x y = true ∧ Q (.bl (!decide (x = y))) H

theorem dec_int {i j : Int} : decide (V.int i = V.int j) = (i == j) := by
  rw [Bool.eq_iff_iff]
  simp
theorem dec_bl {i j : Bool} : decide (V.bl i = V.bl j) = (i == j) := by
  rw [Bool.eq_iff_iff]
  simp
theorem dec_str {i j : Str} : decide (V.str i = V.str j) = (i == j) := by
  rw [Bool.eq_iff_iff]
  simp
theorem dec_byt {i j : Array UInt8} : decide (V.byt i = V.byt j) = (i.toList == j.toList) := by
  rw [Bool.eq_iff_iff]
  cases i
  cases j
  simp

section
variable {X : Cx} {a b c : Expr} {ta tb tc : TE} {pos : Pos}
theorem fin_bl {pins : List (Addr × Obj)} {σ : St} {H : Hp} {s : Shared} {Q : VK} {k k' : Bool} (I : Inv X pins σ H s) (q : Q (.bl k) H) (e : k = k') : EP X pins σ Q (.bool k') s := by
  subst e
  exact ⟨.bl k, H, I, rfl, q⟩
theorem op_eq : OpR X (compareOp .Eq) rEq := by
  intro pins s σ H x y v u Q I rx ry h
  obtain ⟨hs, q⟩ := h
  cases x with
  | non =>
    cases rx
    cases y with
    | non => cases ry; exact PySem.EqNone.eq_none_none (fin_bl I q (by simp))
    | bl j => cases ry; exact PySem.EqNone.eq_none_bool (fin_bl I q (by simp))
    | int j => obtain ⟨t', rfl⟩ := ry; exact PySem.EqNone.eq_none_int (fin_bl I q (by simp))
    | str j => obtain ⟨t', rfl⟩ := ry; exact PySem.EqNone.eq_none_str (fin_bl I q (by simp))
    | _ => exact absurd (show false = true from hs) Bool.false_ne_true
  | bl i =>
    cases rx
    cases y with
    | non => cases ry; exact PySem.EqNone.eq_bool_none (fin_bl I q (by simp))
    | bl j => cases ry; exact eq_bool (fin_bl I q dec_bl)
    | str j => obtain ⟨t', rfl⟩ := ry; exact PySem.EqMixed.eq_bool_str (fin_bl I q (by simp))
    | _ => exact absurd (show false = true from hs) Bool.false_ne_true
  | int i =>
    obtain ⟨t, rfl⟩ := rx
    cases y with
    | non => cases ry; exact PySem.EqNone.eq_int_none (fin_bl I q (by simp))
    | int j => obtain ⟨t', rfl⟩ := ry; exact eq_int (fin_bl I q dec_int)
    | str j => obtain ⟨t', rfl⟩ := ry; exact PySem.EqMixed.eq_int_str (fin_bl I q (by simp))
    | _ => exact absurd (show false = true from hs) Bool.false_ne_true
  | str i =>
    obtain ⟨t, rfl⟩ := rx
    cases y with
    | non => cases ry; exact PySem.EqNone.eq_str_none (fin_bl I q (by simp))
    | bl j => cases ry; exact PySem.EqMixed.eq_str_bool (fin_bl I q (by simp))
    | int j => obtain ⟨t', rfl⟩ := ry; exact PySem.EqMixed.eq_str_int (fin_bl I q (by simp))
    | str j => obtain ⟨t', rfl⟩ := ry; exact eq_str (fin_bl I q dec_str)
    | _ => exact absurd (show false = true from hs) Bool.false_ne_true
  | byt i =>
    obtain ⟨t, rfl⟩ := rx
    cases y with
    | byt j => obtain ⟨t', rfl⟩ := ry; exact PySem.W.eq_bytes (fin_bl I q dec_byt)
    | _ => exact absurd (show false = true from hs) Bool.false_ne_true
  | _ => cases y <;> exact absurd (show false = true from hs) Bool.false_ne_true

theorem op_lt : OpR X (compareOp .Lt) (rI0 fun i j => .bl (decide (i < j))) := opB0 fun _ _ _ _ _ _ _ q => lt_int q
theorem op_gt : OpR X (compareOp .Gt) (rI0 fun i j => .bl (decide (j < i))) := opB0 fun _ _ _ _ _ _ _ q => gt_int q
theorem op_ge : OpR X (compareOp .GtE) (rI0 fun i j => .bl (decide (j ≤ i))) := opB0 fun _ _ _ _ _ _ _ q => ge_int q


/-- is, is not of two objects that are tracked lists or instances -/
def isObj : HO → Bool
  | .lst _ => true
  | .ins _ _ _ => true
  | _ => false


theorem nomark (b : Expr) {op : CmpOp} (h : op ≠ .In := by decide) (h2 : op ≠ .NotIn := by decide) : behindInMarks op b = false := by
  have e1 : (op == CmpOp.In) = false := by cases op <;> first | rfl | exact absurd rfl h
  have e2 : (op == CmpOp.NotIn) = false := by cases op <;> first | rfl | exact absurd rfl h2
  cases b <;> simp [behindInMarks, e1, e2]
/-- a comparison as a value; hm: nomark b, or (for in, not in) by with_unfolding_all rfl -/
theorem pe_cmpR {op : CmpOp} {r : R2} (ho : OpR X (compareOp op) r) (ha : PE X a ta) (hb : PE X b tb) (hm : behindInMarks op b = false) : PE X (.Compare a [op] [b] pos) (tOp r ta tb) := by
  intro pins s σ H Q I h
  exact wpAny_Compare1 (binT ha hb I h fun v u s2 x y H2 I2 rx ry q => ho pins s2 σ H2 x y v u Q I2 rx ry q) hm
/-- a reading of a value as a test -/
def tTest (t : TE) : TT := fun σ H Q => t σ H fun x H' => ∃ k, x = .bl k ∧ Q k H'
theorem pt_cmpR {op : CmpOp} {r : R2} (ho : OpR X (compareOp op) r) (ha : PE X a ta) (hb : PE X b tb) (hm : behindInMarks op b = false) : PT X (.Compare a [op] [b] pos) (tTest (tOp r ta tb)) := by
  intro pins s σ H Q I h
  refine wpAny_isTrue_Compare1 (thn (ha pins s σ H _ I h) fun v s1 ⟨x, H1, I1, r1, q1⟩ => thn (hb pins s1 σ H1 _ I1 q1) fun u s2 ⟨y, H2, I2, r2, q2⟩ =>
    thn (ho pins s2 σ H2 x y v u _ I2 r1 r2 q2) fun c s3 ⟨z, H3, I3, r3, k, e, q3⟩ => ?_) hm
  subst e
  cases r3
  exact wpAny_truthy_bool ⟨H3, I3, q3⟩
/-- a op1 b op2 c -/
def tChain (r r' : R2) (ta tb tc : TE) : TE := fun σ H Q => ta σ H fun x H1 => tb σ H1 fun y H2 => r x y H2 fun z H3 => ∃ k, z = .bl k ∧
  (if k = true then tc σ H3 fun w' H4 => r' y w' H4 Q else Q (.bl false) H3)

/-! ### truth -/
/-- a value's truth by the abstract heap -/
def TruV (K : PySem.W.Frag) (x : V) (H : Hp) (k : Bool) : Prop :=
  match x with
  | .non => k = false
  | .bl b => k = b
  | .int i => k = (i != 0)
  | .str y => y.length ≤ sizeLine ∧ k = ((y.length : Int) != 0)
  | .byt y => y.size ≤ sizeLine ∧ k = ((y.size : Int) != 0)
  | .ref p => (∃ xs, SqL K H p xs ∧ k = !xs.isEmpty) ∨ (∃ xs, SqT K H p xs ∧ k = !xs.isEmpty) ∨ ∃ kvs, H p = some (.dK kvs) ∧ k = !kvs.isEmpty
  | _ => False
theorem line63 : (sizeLine : Nat) < 2 ^ 63 := by rw [sizeLine_eq]; decide

/-! ### strs and bytes -/

def PlainIxT (b : Expr) : Prop := ∀ o i, subscripted b false o i = operate [o, i] (getItem o i)

/-! ### scalar builtins, by CallR -/
theorem vals1 {x : V} {us : List Value} (r : Vals [x] us) : ∃ u, us = [u] ∧ RelV x u := by
  cases r with
  | cons r1 r2 => cases r2; exact ⟨_, rfl, r1⟩
/-- len of a str, a bytes, a list, a tuple -/
def LenV (K : PySem.W.Frag) (x : V) (H : Hp) (n : Nat) : Prop :=
  match x with
  | .str y => y.length ≤ sizeLine ∧ n = y.length
  | .byt y => y.size ≤ sizeLine ∧ n = y.size
  | .ref p => (∃ xs, SqL K H p xs ∧ n = xs.length) ∨ ∃ xs, SqT K H p xs ∧ n = xs.length
  | _ => False
end
end L2

namespace L2
open PySem PySem.Spec PyProof.Rows

/-! ### an instance, its attributes a map -/
structure ObjM (h : Heap) (x dx C : Addr) (mA : Str → Option Value) : Prop where
  obj : h.get? x = some (PySem.W.instObj C dx)
  ns : h.Ns1 dx mA
  ne : dx ≠ x

theorem lookIn_ns {h : Heap} {dx : Addr} {mA : Str → Option Value} (n : h.Ns1 dx mA) : ∃ od, h.get? dx = some od ∧ ∀ name, PySem.W.lookIn name od = some (mA name) := by
  obtain ⟨o, es, ep, ho, hd, hk, _, hm⟩ := n
  refine ⟨o, ho, fun name => ?_⟩
  have e := hm name
  unfold nsFind findBy at e
  rw [← Array.find?_toList] at e
  unfold PySem.W.lookIn
  rw [hd]
  dsimp only
  split
  · rename_i y q
    rw [q] at e
    exact congrArg some e
  · rename_i q
    rw [q] at e
    have a : es.toList.any (·.refKey) = false := by
      rw [List.any_eq_false]
      intro y hy
      obtain ⟨z, t, hkey⟩ := hk y (Array.mem_toList_iff.mp hy)
      simp [DictEntry.refKey, hkey]
    have a' : ¬ es.toList.any (·.refKey) = true := by rw [a]; exact Bool.false_ne_true
    rw [if_neg a']
    exact congrArg some e

theorem ObjM.look {h : Heap} {x dx C : Addr} {mA : Str → Option Value} (I : ObjM h x dx C mA) : ∃ od, PySem.W.InstAt h x (PySem.W.instObj C dx) C (some od) ∧ ∀ name, PySem.W.lookIn name od = some (mA name) :=
  let ⟨od, ho, hl⟩ := lookIn_ns I.ns
  ⟨od, ⟨I.obj, rfl, rfl, ho⟩, hl⟩

section
variable {prog : Program} {w : World} {A : Around} {E : Value → Shared → Prop} {s : Shared} {K : PySem.W.Frag} {x dx C f : Addr} {mA : Str → Option Value} {name : Str} {v : Value}

theorem get_map {expr : Bool} {Q : Value → Shared → Prop} (X : K.In s.heap) (I : ObjM s.heap x dx C mA) (hg : PySem.W.plainGet K C name = true) (hh : PySem.W.hasDictIn K C = true)
    (ha : PySem.W.findIn K (.ref C) name = some none) (hv : mA name = some v) (hv' : PySem.W.handedIn v = true) (h : Q v { s with toks := s.toks + 1 }) :
    wpAny (model prog w) A (getAttr (.ref x) name expr) Q E s := by
  obtain ⟨od, J, hl⟩ := I.look
  exact PySem.W.get_value X J (PySem.W.plainGet_of hg).1 (PySem.W.findObj_own hh ha rfl (by rw [hl, hv])) hv' h


theorem get_meth {pl : Sem Bool} {Q : Value × List Value → Shared → Prop} (X : K.In s.heap) (I : ObjM s.heap x dx C mA) (hg : PySem.W.plainGet K C name = true)
    (hf : PySem.W.findIn K (.ref C) name = some (some (.ref f))) (ht : PySem.W.isFn K (.ref f) = true) (hv : mA name = none) (h : Q (.ref f, [.ref x]) s) :
    wpAny (model prog w) A (getMethod (.ref x) name pl) Q E s := by
  obtain ⟨od, J, hl⟩ := I.look
  exact PySem.W.method_fn X J (PySem.W.plainGet_of hg).1 (PySem.W.plainGet_of hg).2 hf (beq_iff_eq.mp ht) (by show (PySem.W.lookIn name od).map (·.isSome) = some false; rw [hl, hv]; rfl) h

theorem set_map {ns : List Str} {Q : Unit → Shared → Prop} (X : K.In s.heap) (I : ObjM s.heap x dx C mA)
    (hs : PySem.W.findIn K (.ref C) "__setattr__" = some (some (.builtin "object.__setattr__"))) (hp : PySem.W.plainOver K C = true) (ht : PySem.W.takerIn K C name = some none) (hh : PySem.W.hasDictIn K C = true)
    (hw : PySem.Within mA ns) (hsz : ns.length ≤ sizeLine)
    (h : ∀ h', ObjM h' x dx C (fun y => if y = name then some v else mA y) → Heap.SameBut dx s.heap h' → Q () { s with heap := h', toks := s.toks + 2 }) :
    wpAny (model prog w) A (setAttr (.ref x) name v) Q E s := by
  obtain ⟨od, J, hl⟩ := I.look
  refine PySem.W.set_plain X J hs (PySem.W.osa_open (s := { s with toks := s.toks + 1 }) (r := none) X J hp ht fun b => ?_)
  obtain ⟨cd, hc, hd'⟩ := PySem.W.any_some hh
  have hx : s.heap.get? x = some ⟨.ref C, some dx, .plain, #[]⟩ := I.obj
  refine wpAny_bind (wpAny_pure (wpAny_bind (wpAny_bind (wpAny_loadPart hx (wpAny_bind (PySem.W.Looks.here (s := { s with toks := s.toks + 1 }) (PySem.W.looks_clsIn X hc) ?_))))))
  rw [hd']
  refine wpAny_pure (a := some dx) (wpAny_bind (wpAny_pure (wpAny_bind ?_)))
  refine wpAny_nsSet1 (s := { s with toks := s.toks + 1 }) I.ns fun h' hn2 hs2 => ?_
  obtain ⟨oD, esD, epD, hoD, hdD, hcD⟩ := hn2.count (PySem.Within.cons name v hw)
  refine wpAny_bind (wpAny_lookBehind hoD (by rw [hdD]; exact pastItsLine_dict (Nat.le_trans hcD (by rw [List.length_cons]; omega))) ?_)
  exact wpAny_pure (h _ ⟨(hs2.2 _ (Ne.symm I.ne)).trans I.obj, hn2, I.ne⟩ hs2)

/-- C(..): the dict at the heap's end, the instance behind it; then its __init__ -/
theorem make_map {R : Result → Shared → Prop} {vs : List Value} {kw : List (Str × Value)} (X : K.In s.heap) (hm : PySem.W.makesIn K C = true)
    (hi : PySem.W.findIn K (.ref C) "__init__" = some (some (.ref f))) (hf : PySem.W.typeIn K (.ref f) = some (.type "function"))
    (h : codeAny (model prog w) (A.under (.builtin "type.__call__" ⟨.ref C :: vs, kw⟩)) (.call (.ref f) ⟨.ref (s.heap.objs.size + 1) :: vs, kw⟩) (PySem.W.InitBack (s.heap.objs.size + 1) R)
      { s with heap := (s.heap.push PySem.W.emptyDict).push (PySem.W.instObj C s.heap.objs.size) }) :
    codeAny (model prog w) A (.call (.ref C) ⟨vs, kw⟩) R s := by
  obtain ⟨hh, g, d, t, os⟩ := s
  exact PySem.W.make_core (PySem.W.makes_of X hm) (PySem.W.looks_findIn X hi) (fun self => PySem.W.bind_fn X self hf) (.inl rfl) h
end

/-! ### the attributes as a list of pairs -/
def putF (f : Str) (v : V) : List (Str × V) → List (Str × V)
  | [] => [(f, v)]
  | (g, x) :: r => if g = f then (g, v) :: r else (g, x) :: putF f v r
theorem lookup_putF (f g : Str) (v : V) : ∀ fs : List (Str × V), (putF f v fs).lookup g = if g = f then some v else fs.lookup g
  | [] => by
    show List.lookup g [(f, v)] = _
    by_cases h : g = f
    · have hb : (g == f) = true := beq_iff_eq.mpr h
      simp only [List.lookup, hb, if_pos h]
    · have hb : (g == f) = false := beq_eq_false_iff_ne.mpr h
      simp only [List.lookup, hb, if_neg h]
  | (k, x) :: r => by
    have ih := lookup_putF f g v r
    rw [show putF f v ((k, x) :: r) = (if k = f then (k, v) :: r else (k, x) :: putF f v r) from rfl]
    by_cases hk : k = f
    · rw [if_pos hk]
      by_cases h : g = k
      · have hb : (g == k) = true := beq_iff_eq.mpr h
        simp only [List.lookup, hb, if_pos (h.trans hk)]
      · have hb : (g == k) = false := beq_eq_false_iff_ne.mpr h
        simp only [List.lookup, hb, if_neg (fun e : g = f => h (e.trans hk.symm))]
    · rw [if_neg hk]
      by_cases h : g = k
      · have hb : (g == k) = true := beq_iff_eq.mpr h
        simp only [List.lookup, hb, if_neg (fun e : g = f => hk (h.symm.trans e))]
      · have hb : (g == k) = false := beq_eq_false_iff_ne.mpr h
        simp only [List.lookup, hb]
        exact ih
theorem keys_putF (f : Str) (v : V) : ∀ fs : List (Str × V), f ∈ (putF f v fs).map (·.1) ∧ ∀ g, g ∈ fs.map (·.1) → g ∈ (putF f v fs).map (·.1)
  | [] => ⟨by simp [putF], fun g h => by simp at h⟩
  | (k, x) :: r => by
    obtain ⟨i1, i2⟩ := keys_putF f v r
    rw [show putF f v ((k, x) :: r) = (if k = f then (k, v) :: r else (k, x) :: putF f v r) from rfl]
    by_cases hk : k = f
    · rw [if_pos hk]
      subst hk
      exact ⟨by simp, fun g h => by simpa using h⟩
    · rw [if_neg hk]
      refine ⟨?_, fun g h => ?_⟩
      · rw [List.map_cons]
        exact List.mem_cons_of_mem _ i1
      · rw [List.map_cons] at h ⊢
        rcases List.mem_cons.mp h with e | e
        · exact List.mem_cons.mpr (.inl e)
        · exact List.mem_cons_of_mem _ (i2 g e)
theorem length_putF (f : Str) (v : V) : ∀ fs : List (Str × V), (putF f v fs).length ≤ fs.length + 1
  | [] => by simp [putF]
  | (k, x) :: r => by
    have ih := length_putF f v r
    rw [show putF f v ((k, x) :: r) = (if k = f then (k, v) :: r else (k, x) :: putF f v r) from rfl]
    by_cases hk : k = f
    · rw [if_pos hk, List.length_cons, List.length_cons]; omega
    · rw [if_neg hk, List.length_cons, List.length_cons]; omega

theorem RelO.some_of {v : V} {o : Option Value} (r : RelO (some v) o) : ∃ u, o = some u ∧ RelV v u := by
  cases o with
  | none => exact (show False from r).elim
  | some u => exact ⟨u, rfl, r⟩
theorem RelO.none_of {o : Option Value} (r : RelO none o) : o = none := by
  cases o with
  | none => rfl
  | some u => exact (show False from r).elim
theorem handed_of {v : V} {u : Value} (r : RelV v u) : PySem.W.handedIn u = true := by
  cases v with
  | non => cases (show u = Value.none from r); rfl
  | bl b => cases (show u = Value.bool b from r); rfl
  | int i => obtain ⟨t, e⟩ := (show ∃ t, u = Value.int i t from r); cases e; rfl
  | str x => obtain ⟨t, e⟩ := (show ∃ t, u = Value.str x t from r); cases e; rfl
  | byt b => obtain ⟨t, e⟩ := (show ∃ t, u = Value.bytes b t from r); cases e; rfl
  | flt b => obtain ⟨t, e⟩ := (show ∃ t, u = Value.float b t from r); cases e; rfl
  | ref a => cases (show u = Value.ref a from r); rfl
  | ty n => cases (show u = Value.type n from r); rfl

section
variable {P : Program} {w : World} {H H' : Hp} {h h' : Heap} {a C dx : Addr} {fs fs' : List (Str × V)}
theorem ins_get (hok : HOk P w H h) (e : H a = some (.ins C dx fs)) : ∃ mA, ObjM h a dx C mA ∧ (∀ f, RelO (fs.lookup f) (mA f)) ∧ PySem.Within mA (fs.map (·.1)) ∧ fs.length ≤ 1000 ∧ H dx = some (.own a) := by
  obtain ⟨d, z, ne, ob, mA, n, r, q⟩ := (show ObjOk P w H h a (.ins C dx fs) from hok a _ e)
  exact ⟨mA, ⟨ob, n, ne⟩, r, q, z, d⟩
end

/-! ### what of the text a class must have -/
structure Cls (K : PySem.W.Frag) (C : Addr) : Prop where
  pg : PySem.W.plainGet K C Str.empty = true
  hd : PySem.W.hasDictIn K C = true
  po : PySem.W.plainOver K C = true
  sa : PySem.W.findIn K (.ref C) "__setattr__" = some (some (.builtin "object.__setattr__"))
theorem Cls.get {K : PySem.W.Frag} {C : Addr} (c : Cls K C) (f : Str) : PySem.W.plainGet K C f = true := c.pg
/-- no class of it has the name -/
def NoAttr (K : PySem.W.Frag) (C : Addr) (f : Str) : Prop := PySem.W.findIn K (.ref C) f = some none
theorem NoAttr.taker {K : PySem.W.Frag} {C : Addr} {f : Str} (n : NoAttr K C f) : PySem.W.takerIn K C f = some none := by
  unfold PySem.W.takerIn
  rw [show PySem.W.findIn K (.ref C) f = some none from n]
  rfl
/-- a constant of the class -/
structure Con (K : PySem.W.Frag) (C : Addr) (f : Str) (v : V) (u : Value) : Prop where
  at_ : PySem.W.findIn K (.ref C) f = some (some u)
  rel : RelV v u
  get : PySem.W.specialIn K u "__get__" = some none
  cp : PySem.W.copiedNames.contains f = false
/-- a method: a plain def of the class or of one above it -/
structure Meth (K : PySem.W.Frag) (C : Addr) (m : Str) (f : Addr) : Prop where
  at_ : PySem.W.findIn K (.ref C) m = some (some (.ref f))
  fn : PySem.W.isFn K (.ref f) = true
  kp : PySem.W.keepIn K (.ref f) = true

section
variable {X : Cx} {pins : List (Addr × Obj)} {σ : St} {H : Hp} {s : Shared} {a C dx : Addr} {fs : List (Str × V)} {f : Str} {v : V} {A : Around} {E : Value → Shared → Prop}

theorem getattr_ok {b : Bool} {Q : Value → Shared → Prop} (I : Inv X pins σ H s) (e : H a = some (.ins C dx fs)) (c : Cls X.K C) (n : NoAttr X.K C f) (l : fs.lookup f = some v)
    (h : ∀ u s', Inv X pins σ H s' → RelV v u → Q u s') : wpAny (model X.prog X.w) A (getAttr (.ref a) f b) Q E s := by
  obtain ⟨mA, O, r, _, _, _⟩ := ins_get I.hok e
  obtain ⟨u, hu, ru⟩ := RelO.some_of (v := v) (o := mA f) (by rw [← l]; exact r f)
  exact get_map I.kIn O (c.get f) c.hd n hu (handed_of ru) (h u _ (I.tok _) ru)


theorem getmeth_ok {m : Str} {g : Addr} {pl : Sem Bool} {Q : Value × List Value → Shared → Prop} (I : Inv X pins σ H s) (e : H a = some (.ins C dx fs)) (c : Cls X.K C) (k : Meth X.K C m g) (l : fs.lookup m = none)
    (h : Q (.ref g, [.ref a]) s) : wpAny (model X.prog X.w) A (getMethod (.ref a) m pl) Q E s := by
  obtain ⟨mA, O, r, _, _, _⟩ := ins_get I.hok e
  have hn : mA m = none := RelO.none_of (by rw [← l]; exact r m)
  exact get_meth I.kIn O (c.get m) k.at_ k.fn hn h

theorem setattr_ok {y : V} {u : Value} {Q : Unit → Shared → Prop} (I : Inv X pins σ H s) (e : H a = some (.ins C dx fs)) (c : Cls X.K C) (n : NoAttr X.K C f) (hl : fs.length < 1000) (ry : RelV y u)
    (h : ∀ s', Inv X pins σ (upd H a (.ins C dx (putF f y fs))) s' → Q () s') : wpAny (model X.prog X.w) A (setAttr (.ref a) f u) Q E s := by
  obtain ⟨mA, O, r, wi, _, ho⟩ := ins_get I.hok e
  have hz : (fs.map (·.1)).length ≤ sizeLine := by rw [List.length_map, sizeLine_eq]; omega
  refine set_map I.kIn O c.sa c.po n.taker c.hd wi hz fun h' O' sb => h _ ?_
  have hd : ∃ o, h'.get? dx = some o := let ⟨o, _, _, e', _⟩ := O'.ns; ⟨o, e'⟩
  refine I.write (x := a) (e := dx) (by rw [e]; exact True.intro) (.inr ho) (fun b q hb z => (sb.2 b hb).trans z) hd ?_
  refine ⟨by rw [upd_ne O.ne]; exact ho, ?_, O.ne, O'.obj, _, O'.ns, fun g => ?_, fun g hg => ?_⟩
  · have := length_putF f y fs; omega
  · show RelO ((putF f y fs).lookup g) (if g = f then some u else mA g)
    rw [lookup_putF]
    by_cases q : g = f
    · rw [if_pos q, if_pos q]; exact ry
    · rw [if_neg q, if_neg q]; exact r g
  · by_cases q : g = f
    · rw [q]; exact (keys_putF f y fs).1
    · refine (keys_putF f y fs).2 g (wi g fun z => hg ?_)
      show (if g = f then some u else mA g) = none
      rw [if_neg q]; exact z

/-- a new instance, tracked, without attributes -/
theorem Inv.made (I : Inv X pins σ H s) : Inv X pins σ (upd (upd H s.heap.objs.size (.own (s.heap.objs.size + 1))) (s.heap.objs.size + 1) (.ins C s.heap.objs.size []))
    { s with heap := (s.heap.push PySem.W.emptyDict).push (PySem.W.instObj C s.heap.objs.size) } := by
  have e1 : (s.heap.push PySem.W.emptyDict).get? s.heap.objs.size = some PySem.W.emptyDict := Heap.get?_push_size s.heap rfl
  have e2 : ((s.heap.push PySem.W.emptyDict).push (PySem.W.instObj C s.heap.objs.size)).get? (s.heap.objs.size + 1) = some (PySem.W.instObj C s.heap.objs.size) := by
    have := Heap.get?_push_size (s.heap.push PySem.W.emptyDict) (o := PySem.W.instObj C s.heap.objs.size) rfl
    rwa [Heap.size_push] at this
  have e3 : (s.heap.push PySem.W.emptyDict).Ns s.heap.objs.size (fun _ => none) := ⟨PySem.W.emptyDict, #[], _, e1, rfl, (fun e he => absurd he (by simp)), fun _ => rfl⟩
  have I1 := I.laid (a := s.heap.objs.size) (o := .own (s.heap.objs.size + 1)) (h' := s.heap.push PySem.W.emptyDict) (t' := s.toks) (fun b u q => Heap.get?_push_of_some _ q) (Nat.le_refl _) ⟨_, e1⟩
  refine I1.laid (a := s.heap.objs.size + 1) (o := .ins C s.heap.objs.size []) (t' := s.toks) (fun b u q => Heap.get?_push_of_some _ q) (Nat.le_of_eq (Heap.size_push _ _)) ?_
  have ne : s.heap.objs.size ≠ s.heap.objs.size + 1 := Nat.ne_of_lt (Nat.lt_succ_self _)
  refine ⟨by rw [upd_ne ne, upd_same], Nat.zero_le _, ne, e2, fun _ => none, (Heap.Ns1.of_empty e3).at fun o q => Heap.get?_push_of_some _ q, fun _ => True.intro, fun y hy => absurd rfl hy⟩

/-- e.f where nothing but the object is asked: through attributeBase (super) and the last hold -/
theorem attr_of {prog : Program} {w : World} {env : Env} {e : Expr} {f : Str} {pos : Pos} {s : Shared} {Q : Value → Shared → Prop} (hb : attributeBase e f env (eval e env) = eval e env)
    (h : wpAny (model prog w) A (eval e env) (fun o s₁ => wpAny (model prog w) A (getAttr o f true) Q E s₁) E s) : wpAny (model prog w) A (eval (.Attribute e f pos) env) Q E s :=
  Attribute_any_ h (by rw [arm_eval_Attribute, hb])
end

/-! ### readings and rules -/
/-- e.f, an attribute of the instance -/
def tFld (K : PySem.W.Frag) (ta : TE) (f : Str) : TE := fun σ H Q => ta σ H fun x H1 => ∃ a C dx fs v, x = .ref a ∧ H1 a = some (.ins C dx fs) ∧ Cls K C ∧ NoAttr K C f ∧ fs.lookup f = some v ∧ Q v H1
/-- e.f, a constant of the class -/
def tCon (K : PySem.W.Frag) (ta : TE) (f : Str) : TE := fun σ H Q => ta σ H fun x H1 => ∃ a C dx fs v u, x = .ref a ∧ H1 a = some (.ins C dx fs) ∧ Cls K C ∧ Con K C f v u ∧ fs.lookup f = none ∧ Q v H1
/-- e.f = value -/
def sFld (K : PySem.W.Frag) (ta tv : TE) (f : Str) : TS := fun D σ H => tv σ H fun y H1 => ta σ H1 fun x H2 => ∃ a C dx fs, x = .ref a ∧ H2 a = some (.ins C dx fs) ∧ Cls K C ∧ NoAttr K C f ∧ fs.length < 1000 ∧
  D.nx σ (upd H2 a (.ins C dx (putF f y fs)))
/-- an augmented operator on two values -/
def InOp (X : Cx) (op : Operator) (rd : V → V → Hp → VK → Prop) : Prop :=
  ∀ (pins : List (Addr × Obj)) (s : Shared) (σ : St) (H : Hp) (x y : V) (u v : Value) (Q : VK), Inv X pins σ H s → RelV x u → RelV y v → rd x y H Q → wpAny (model X.prog X.w) X.A (inplaceOp op u v) (EP X pins σ Q) X.xe s
/-- e.f op= value -/
def sFldAug (K : PySem.W.Frag) (ta tv : TE) (rd : V → V → Hp → VK → Prop) (f : Str) : TS := fun D σ H => ta σ H fun x H1 => ∃ a C dx fs v, x = .ref a ∧ H1 a = some (.ins C dx fs) ∧ Cls K C ∧ NoAttr K C f ∧ fs.lookup f = some v ∧
  tv σ H1 fun y H2 => rd v y H2 fun z H3 => ∃ dx' fs', H3 a = some (.ins C dx' fs') ∧ fs'.length < 1000 ∧ D.nx σ (upd H3 a (.ins C dx' (putF f z fs')))

section
variable {X : Cx} {o e value : Expr} {f : Str} {pos pos' tpos : Pos} {ta tv : TE}
theorem pe_fld (he : PE X e ta) (hb : attributeBase e f X.env (eval e X.env) = eval e X.env) : PE X (.Attribute e f pos) (tFld X.K ta f) := by
  intro pins s σ H Q I h
  refine attr_of hb (thn (he pins s σ H _ I h) fun u s1 ⟨x, H1, I1, rx, a, C, dx, fs, v, ex, ea, c, n, l, q⟩ => ?_)
  subst ex
  obtain rfl : u = Value.ref a := rx
  exact getattr_ok I1 ea c n l fun u' s2 I2 ru => ⟨v, H1, I2, ru, q⟩
theorem ps_fld (ha : PE X o ta) (hv : PE X value tv) (hs : swapsWith value (some (.Attribute o f pos')) pos.line X.env = pure false) : PS X (.Assign [.Attribute o f pos'] value pos) (sFld X.K ta tv f) := by
  intro pins s σ H D I h
  refine plainObj_wpAny_Assign_Attribute (thn (hv pins s σ H _ I h) fun u s1 ⟨y, H1, I1, ry, q⟩ => thn (ha pins s1 σ H1 _ I1 q) fun ov s2 ⟨x, H2, I2, rx, a, C, dx, fs, ex, ea, c, n, l, q2⟩ => ?_) hs
  subst ex
  obtain rfl : ov = Value.ref a := rx
  exact setattr_ok I2 ea c n l ry fun s3 I3 => ⟨σ, _, I3, q2⟩
def rAdd : V → V → Hp → VK → Prop := fun x y H Q => ∃ i j, x = .int i ∧ y = .int j ∧ Q (.int (i + j)) H
def rSub : V → V → Hp → VK → Prop := fun x y H Q => ∃ i j, x = .int i ∧ y = .int j ∧ Q (.int (i - j)) H

end

/-! ### isinstance -/
section
variable {X : Cx} {pins : List (Addr × Obj)} {σ : St} {H : Hp} {s : Shared} {A : Around} {E : Value → Shared → Prop} {Q : Value → Shared → Prop} {c : Value} {b : Bool}
/-- the type of a value, as the fragment's deciders take it; for an instance its class -/
inductive TyOf (K : PySem.W.Frag) (H : Hp) : V → Value → Prop where
  | non : TyOf K H .non (.type "NoneType")
  | bl (x : Bool) : TyOf K H (.bl x) (.type "bool")
  | int (i : Int) : TyOf K H (.int i) (.type "int")
  | str (x : Str) : TyOf K H (.str x) (.type "str")
  | flt (x : UInt64) : TyOf K H (.flt x) (.type "float")
  | lst {a : Addr} {xs : List V} (e : H a = some (.lst xs)) : TyOf K H (.ref a) (.type "list")
  | frz {a : Addr} {o : Obj} {xs : List V} (e : H a = some (.frz o (.lst xs))) : TyOf K H (.ref a) (.type "list")
  | tup {a : Addr} {xs : List V} (e : H a = some (.tup xs)) : TyOf K H (.ref a) (.type "tuple")
  | dK {a : Addr} {kvs : List (Key × V)} (e : H a = some (.dK kvs)) : TyOf K H (.ref a) (.type "dict")
  | dT {a : Addr} {kvs : List (List Key × V)} (e : H a = some (.dT kvs)) : TyOf K H (.ref a) (.type "dict")
  | ins {a C dx : Addr} {fs : List (Str × V)} (e : H a = some (.ins C dx fs)) (cl : Cls K C) (ha : PySem.W.findIn K (.ref C) "__class__" = some (some (.builtin "object.__class__")))
      (hn : PySem.W.specialIn K (.builtin "object.__class__") "__get__" = some (some (.builtin "getset_descriptor.__get__"))) (htk : PySem.W.takesIn K (.builtin "object.__class__") = some true)
      (hm : PySem.W.mroIn K C (.type "object") = some true) : TyOf K H (.ref a) (.ref C)
end
end L2

namespace L2
open PySem PySem.Spec PyProof.Rows

/-! ### room -/
structure Room (k : Nat) (A : Around) : Prop where
  hd : A.handled = none
  dp : A.depth + 3 * k + 5 < recursionLimit
  un : A.units + 16 * k + 200 < cLine
theorem Room.mono {j k : Nat} {A : Around} (r : Room k A) (h : j ≤ k) : Room j A := ⟨r.hd, by have := r.dp; omega, by have := r.un; omega⟩
theorem Room.deeper {k : Nat} {A : Around} (r : Room (k + 1) A) (env : Env) : Room k (A.deeper env) :=
  ⟨r.hd, by have := r.dp; show A.depth + 1 + 3 * k + 5 < _; omega, by have := r.un; show A.units + 3 + 16 * k + 200 < _; omega⟩
theorem make_depth {A : Around} {C : Addr} {us : List Value} {kw : List (Str × Value)} : (A.under (.builtin "type.__call__" ⟨.ref C :: us, kw⟩)).depth = A.depth + 1 := by
  first | rfl | simp [Around.under, Code.weight, Code.isCreation, Code.isGuard, Code.isCaller, Code.frames, Code.isFrame, guardIds]
theorem make_units {A : Around} {C : Addr} {us : List Value} {kw : List (Str × Value)} : (A.under (.builtin "type.__call__" ⟨.ref C :: us, kw⟩)).units = A.units + 1 := by
  first | rfl | simp [Around.under, Code.cUnits, Code.frames, Code.isFrame]
theorem Room.make {k : Nat} {A : Around} (r : Room (k + 1) A) (C : Addr) (us : List Value) (kw : List (Str × Value)) : Room k (A.under (.builtin "type.__call__" ⟨.ref C :: us, kw⟩)) :=
  ⟨r.hd, by have := r.dp; rw [make_depth]; omega, by have := r.un; rw [make_units]; omega⟩
theorem Room.depth {k : Nat} {A : Around} (r : Room k A) : A.depth < recursionLimit := by have := r.dp; omega
theorem Room.units {k : Nat} {A : Around} (r : Room k A) : A.units + 64 < cLine := by have := r.un; omega

/-! ### argument lists and displays -/
def tNil : TA := fun _ H Q => Q [] H
def tCons (ta : TE) (tr : TA) : TA := fun σ H Q => ta σ H fun x H1 => tr σ H1 fun xs H2 => Q (x :: xs) H2
section
variable {X : Cx} {e : Expr} {es : List Expr} {te : TE} {t : TA} {pos : Pos}
theorem pa_nil : PA X [] tNil := fun _ _ _ _ H Q I h => Calls.spliced_nil ⟨[], H, I, .nil, h⟩
theorem pa_cons (ha : PE X e te) (hr : PA X es t) (hs : starEach (e :: es) X.env = (false, eval e X.env) :: starEach es X.env := by rfl) : PA X (e :: es) (tCons te t) := by
  intro pos pins s σ H Q I h
  rw [hs]
  show wpAny _ _ (spliced ((false, eval e X.env) :: backTo pos (starEach es X.env))) _ _ s
  refine Calls.spliced_cons (thn (ha pins s σ H _ I h) fun u s1 ⟨x, H1, I1, r1, q1⟩ => ?_)
  exact thn (hr pos pins s1 σ H1 _ I1 q1) fun us s2 ⟨xs, H2, I2, r2, q2⟩ => ⟨x :: xs, H2, I2, .cons r1 r2, q2⟩

/-- a tuple, a list of written items -/
def tTup (t : TA) : TE := fun σ H Q => t σ H fun xs H1 => xs.length ≤ sizeLine ∧ ∀ p, H1 p = none → Q (.ref p) (upd H1 p (.tup xs))
def tLst (t : TA) : TE := fun σ H Q => t σ H fun xs H1 => xs.length ≤ sizeLine ∧ ∀ p, H1 p = none → Q (.ref p) (upd H1 p (.lst xs))
theorem pe_lst (h : PA X es t) : PE X (.List es pos) (tLst t) := by
  intro pins s σ H Q I hq
  refine wpAny_List_spliced (thn (h pos pins s σ H _ I hq) fun us s1 ⟨xs, H1, I1, r, z, q⟩ => ⟨by rw [← r.length]; exact z, ?_⟩)
  have hf : H1 s1.heap.objs.size = none := I1.hok.fresh (Nat.le_refl _)
  refine ⟨.ref s1.heap.objs.size, upd H1 s1.heap.objs.size (.lst xs), I1.laid (t' := s1.toks) (fun b u e => Heap.get?_push_of_some _ e) (Nat.le_refl _) ?_, rfl, q _ hf⟩
  exact ⟨z, us, 0, r, Heap.get?_push_size _ rfl⟩
end

/-! ### what a def promises -/
/-- a def's promise: the bound arguments in the parameters' order, the heap, the wanted end, the wanted exception -/
abbrev Sp := List V → Hp → VK → XK → Prop
/-- how an exception lies behind a call (file 08 gives it): the callers' frames, abstract heap and state ahead of the call, the wish, the exception, the state -/
abbrev CXT := List Env → Hp → Shared → XK → Value → Shared → Prop

/-- the state at a call -/
structure Env0 (P : Program) (w : World) (K : PySem.W.Frag) (mg : Str → Option Value) (base : Heap) (A : Around) (outer : List Env) (s : Shared) (H : Hp) : Prop where
  frames : A.frames = some outer
  mod : Mod K mg base
  bs : ∀ b o, base.get? b = some o → s.heap.get? b = some o ∧ H b = none
  bsz : base.objs.size ≤ s.heap.objs.size
  funs : s.heap.FunFrames base outer
  frf : ∀ b ∈ frs outer, H b = none
  hok : HOk P w H s.heap
  bare : AllBare s.gens
/-- a call's end -/
def CE (outer : List Env) (P : Program) (w : World) (H : Hp) (s : Shared) (Q : VK) (u : Value) (s' : Shared) : Prop :=
  ∃ v H', s'.os = s.os ∧ AllBare s'.gens ∧ Un (frs outer) [] H H' s.heap s'.heap ∧ HOk P w H' s'.heap ∧ RelV v u ∧ Q v H'
def CR (CX : CXT) (outer : List Env) (P : Program) (w : World) (H : Hp) (s : Shared) (Q : VK) (E : XK) (r : Result) (s' : Shared) : Prop :=
  match r with
  | .ok (.ret u) => CE outer P w H s Q u s'
  | .ok _ => False
  | .error e => CX outer H s E e s'
structure FnOk (P : Program) (w : World) (K : PySem.W.Frag) (mg : Str → Option Value) (base : Heap) (CX : CXT) (k : Nat) (f : Addr) (fd : FuncData) (ps : List Str) (sp : Sp) : Prop where
  len : ∀ vs H Q E, sp vs H Q E → vs.length = ps.length
  run : ∀ (A : Around) (outer : List Env) (s : Shared) (H : Hp) (args : Args) (us : List Value) (vs : List V) (Q : VK) (E : XK), Room k A → Env0 P w K mg base A outer s H → BindsTo s fd args (ps.zip us) → Vals vs us → sp vs H Q E →
    codeAny (model P w) A (.call (.ref f) args) (CR CX outer P w H s Q E) s

theorem Env0.make {P : Program} {w : World} {K : PySem.W.Frag} {mg : Str → Option Value} {base : Heap} {A : Around} {outer : List Env} {s : Shared} {H : Hp} (e : Env0 P w K mg base A outer s H) (C : Addr) (us : List Value) (kw : List (Str × Value)) :
    Env0 P w K mg base (A.under (.builtin "type.__call__" ⟨.ref C :: us, kw⟩)) outer s H := ⟨by first | exact e.frames | (simpa [Around.under, Code.envs, Code.isFrame, pushEnvs] using e.frames), e.mod, e.bs, e.bsz, e.funs, e.frf, e.hok, e.bare⟩

section
variable {X : Cx} {pins : List (Addr × Obj)} {σ : St} {H : Hp} {s s' : Shared}
/-- from a body: what a callee wants -/
theorem Inv.env0 (I : Inv X pins σ H s) : Env0 X.prog X.w X.K X.mg X.base X.A X.stack s H :=
  ⟨I.ok.frames, I.ok.mod, I.bs, Nat.le_trans I.ok.bsz I.sz, I.stack, I.stkFree, I.hok, I.bare⟩
/-- behind a call -/
theorem Inv.after {Q : VK} {u : Value} (I : Inv X pins σ H s) (h : CE X.stack X.prog X.w H s Q u s') : EP X pins σ Q u s' := by
  obtain ⟨v, H', os, bare, un, hok, r, q⟩ := h
  obtain ⟨hh, g, d, t, os'⟩ := s'
  obtain rfl : os' = s.os := os
  exact ⟨v, H', I.call (h' := hh) (g' := g) (d' := d) (t' := t) (ch := []) un hok bare (fun b z => absurd z (by simp)), r, q⟩
end

/-! ### calls -/
/-- f(..): the written arguments, then the defaults dvs; E: what is wanted of an exception -/
def tCall (sp : Sp) (dvs : List V) (E : XK) (t : TA) : TE := fun σ H Q => t σ H fun vs H1 => sp (vs ++ dvs) H1 Q E
/-- o.m(..) of an instance of the class at C -/
def tMeth (C : Addr) (m : Str) (sp : Sp) (dvs : List V) (E : XK) (ta : TE) (t : TA) : TE := fun σ H Q => ta σ H fun x H1 => ∃ a dx fs, x = .ref a ∧ H1 a = some (.ins C dx fs) ∧ fs.lookup m = none ∧
  t σ H1 fun vs H2 => sp (x :: (vs ++ dvs)) H2 Q E
/-- C(..): a new instance and its dict, then __init__ -/
def tMake (C : Addr) (sp : Sp) (dvs : List V) (E : XK) (t : TA) : TE := fun σ H Q => t σ H fun vs H1 => ∀ x dx, H1 x = none → H1 dx = none → dx ≠ x →
  sp (.ref x :: (vs ++ dvs)) (upd (upd H1 dx (.own x)) x (.ins C dx [])) (fun v H2 => v = .non ∧ Q (.ref x) H2) E

/-- how the parameters are bound: us the positional arguments, kw the keywords' values by name, ds the defaults that fill up -/
def Binds (K : PySem.W.Frag) (fd : FuncData) (ps : List Str) (ds : List Value) : Prop :=
  ∀ (s : Shared) (us : List Value), K.In s.heap → (us ++ ds).length = ps.length → BindsTo s fd ⟨us, []⟩ (ps.zip (us ++ ds))
/-- every parameter is given -/
theorem Binds.all {K : PySem.W.Frag} {fd : FuncData} {ps : List Str} (h : ∀ us : List Value, us.length = ps.length → bindArgs fd ⟨us, []⟩ = pure (ps.zip us)) : Binds K fd ps [] := fun s us _ hl => by
  rw [List.append_nil] at hl ⊢
  exact .of_eq (h us hl)

/-- an exception of a callee reaches what this body wants of exceptions -/
def Passes (CX : CXT) (X : Cx) (E : XK) : Prop := ∀ (pins : List (Addr × Obj)) (σ : St) (H : Hp) (s : Shared) (e : Value) (s' : Shared), Inv X pins σ H s → CX X.stack H s E e s' → X.xe e s'

section
variable {X : Cx} {CX : CXT} {k : Nat} {f C : Addr} {fd : FuncData} {ps : List Str} {sp : Sp} {dvs : List V} {ds : List Value} {E : XK} {x m : Str} {p pos apos : Pos} {e o : Expr} {es : List Expr} {ta : TE} {t : TA}

/-- the callee runs -/
theorem run_fn {pins : List (Addr × Obj)} {σ : St} {H : Hp} {s : Shared} {Q : VK} {us : List Value} {vs : List V} (F : FnOk X.prog X.w X.K X.mg X.base CX k f fd ps sp) (hr : Room k X.A) (hb : Binds X.K fd ps ds) (hd : Vals dvs ds) (hx : Passes CX X E)
    (I : Inv X pins σ H s) (r : Vals vs us) (h : sp (vs ++ dvs) H Q E) : wpAny (model X.prog X.w) X.A (call (.ref f) us) (EP X pins σ Q) X.xe s := by
  have r2 : Vals (vs ++ dvs) (us ++ ds) := r.append hd
  have hl : (us ++ ds).length = ps.length := by rw [← r2.length]; exact F.len _ _ _ _ h
  refine wpAny_call (codeAny_mono (F.run X.A X.stack s H ⟨us, []⟩ (us ++ ds) (vs ++ dvs) Q E hr I.env0 (hb s us I.kIn hl) r2 h) fun r s' hq => ?_)
  cases r with
  | error e => exact hx pins σ H s e s' I hq
  | ok fl =>
    cases fl with
    | ret u => exact I.after hq
    | next => exact False.elim hq
    | brk => exact False.elim hq
    | cont => exact False.elim hq

theorem pe_call (F : FnOk X.prog X.w X.K X.mg X.base CX k f fd ps sp) (hr : Room k X.A) (hg : Gl X x) (hm : X.mg x = some (.ref f)) (hk : PySem.W.keepIn X.K (.ref f) = true) (hb : Binds X.K fd ps ds) (hd : Vals dvs ds) (hx : Passes CX X E)
    (ha : PA X (e :: es) t) (hdb : (x == ("__debug__" : Str)) = false := by decide) (he : starEach (e :: es) X.env = (false, eval e X.env) :: starEach es X.env := by rfl) (hpl : (backTo pos (starEach es X.env)).any (·.1) = false := by rfl) :
    PE X (.Call (.Name x p) (e :: es) [] pos) (tCall sp dvs E t) := by
  intro pins s σ H Q I h
  refine wpAny_Call_Name_kw (ld_glob I hg hm ?_ hdb)
  refine PySem.W.callWith_K (h₀ := X.base) I.ok.mod.kin hk (thn (ha pos pins s σ H _ I h) fun us s1 ⟨vs, H1, I1, r, q⟩ => ⟨I1.kIn, ?_⟩) he hpl
  exact run_fn F hr hb hd hx I1 r q

/-- o.m(e, ..) -/
theorem pe_meth {pl : Sem Bool} (he : PE X o ta) (c : Cls X.K C) (hm : Meth X.K C m f) (F : FnOk X.prog X.w X.K X.mg X.base CX k f fd ps sp) (hr : Room k X.A) (hb : Binds X.K fd ps ds) (hd : Vals dvs ds) (hx : Passes CX X E) (ha : PA X (e :: es) t)
    (hst : starEach (e :: es) X.env = (false, eval e X.env) :: starEach es X.env := by rfl) (hpl : (backTo pos (starEach es X.env)).any (·.1) = false := by rfl)
    (ht : eval (.Call (.Attribute o m apos) (e :: es) [] pos) X.env = (do
      let ov ← eval o X.env
      standAt apos.atName
      let (f, first) ← holding [ov] (getMethod ov m pl)
      callWith pos f first (backTo pos (starEach (e :: es) X.env)) (backToKw pos (keywordEach [] X.env))) := by rfl) :
    PE X (.Call (.Attribute o m apos) (e :: es) [] pos) (tMeth C m sp dvs E ta t) := by
  intro pins s σ H Q I h
  refine PySem.W.methodCall_KW (pl := pl) (thn (he pins s σ H _ I h) fun u s1 ⟨x, H1, I1, rx, a, dx, fs, ex, ea, l, q⟩ => ?_) ht
  subst ex
  obtain rfl : u = Value.ref a := rx
  refine getmeth_ok I1 ea c hm l ?_
  refine PySem.W.callWith_K (first := [.ref a]) (h₀ := X.base) I.ok.mod.kin hm.kp (thn (ha pos pins s1 σ H1 _ I1 q) fun us s2 ⟨vs, H2, I2, r, q2⟩ => ⟨I2.kIn, ?_⟩) hst hpl
  exact run_fn (us := .ref a :: us) (vs := .ref a :: vs) F hr hb hd hx I2 (.cons rfl r) q2
/-- o.m() -/
theorem pe_meth0 {pl : Sem Bool} (he : PE X o ta) (c : Cls X.K C) (hm : Meth X.K C m f) (F : FnOk X.prog X.w X.K X.mg X.base CX k f fd ps sp) (hr : Room k X.A) (hb : Binds X.K fd ps ds) (hd : Vals dvs ds) (hx : Passes CX X E)
    (ht : eval (.Call (.Attribute o m apos) [] [] pos) X.env = (do
      let ov ← eval o X.env
      standAt apos.atName
      let (f, first) ← holding [ov] (getMethod ov m pl)
      callWith pos f first (backTo pos (starEach [] X.env)) (backToKw pos (keywordEach [] X.env))) := by rfl) :
    PE X (.Call (.Attribute o m apos) [] [] pos) (tMeth C m sp dvs E ta tNil) := by
  intro pins s σ H Q I h
  refine PySem.W.methodCall_KW (pl := pl) (thn (he pins s σ H _ I h) fun u s1 ⟨x, H1, I1, rx, a, dx, fs, ex, ea, l, q⟩ => ?_) ht
  subst ex
  obtain rfl : u = Value.ref a := rx
  refine getmeth_ok I1 ea c hm l ?_
  exact PySem.W.callWith_K0 (first := [.ref a]) I1.kIn hm.kp (run_fn (us := [.ref a]) (vs := [.ref a]) F hr hb hd hx I1 (.cons rfl .nil) q)

/-- what a class must have to be made -/
structure Mk (K : PySem.W.Frag) (C f : Addr) : Prop where
  makes : PySem.W.makesIn K C = true
  init : PySem.W.findIn K (.ref C) "__init__" = some (some (.ref f))
  fn : PySem.W.isFn K (.ref f) = true
  kp : PySem.W.keepIn K (.ref C) = true

theorem run_make {pins : List (Addr × Obj)} {σ : St} {H : Hp} {s : Shared} {Q : VK} {us : List Value} {vs : List V} (M : Mk X.K C f) (F : FnOk X.prog X.w X.K X.mg X.base CX k f fd ps sp) (hr : Room (k + 1) X.A) (hb : Binds X.K fd ps ds) (hd : Vals dvs ds)
    (hx : Passes CX X E) (I : Inv X pins σ H s) (r : Vals vs us)
    (h : ∀ x dx, H x = none → H dx = none → dx ≠ x → sp (.ref x :: (vs ++ dvs)) (upd (upd H dx (.own x)) x (.ins C dx [])) (fun v H2 => v = .non ∧ Q (.ref x) H2) E) :
    wpAny (model X.prog X.w) X.A (call (.ref C) us) (EP X pins σ Q) X.xe s := by
  have hq := h (s.heap.objs.size + 1) s.heap.objs.size (I.hok.fresh (Nat.le_succ _)) (I.hok.fresh (Nat.le_refl _)) (Nat.ne_of_lt (Nat.lt_succ_self _))
  have I2 := Inv.made (C := C) I
  have r2 : Vals (V.ref (s.heap.objs.size + 1) :: (vs ++ dvs)) (Value.ref (s.heap.objs.size + 1) :: (us ++ ds)) := .cons rfl (r.append hd)
  have hl : (Value.ref (s.heap.objs.size + 1) :: us ++ ds).length = ps.length := by
    have e := r2.length
    rw [F.len _ _ _ _ hq] at e
    exact e.symm
  refine wpAny_call (make_map (f := f) I.kIn M.makes M.init (beq_iff_eq.mp M.fn) (codeAny_mono (F.run _ X.stack _ _ ⟨Value.ref (s.heap.objs.size + 1) :: us, []⟩ (Value.ref (s.heap.objs.size + 1) :: (us ++ ds)) _ _ E (hr.make C us [])
    (I2.env0.make C us []) (hb _ (Value.ref (s.heap.objs.size + 1) :: us) I2.kIn hl) r2 hq) fun r s' hq' => ?_))
  cases r with
  | error e => exact hx pins σ _ _ e s' I2 hq'
  | ok fl =>
    cases fl with
    | ret u =>
      obtain ⟨v, H', I3, rv, ev, q3⟩ := I2.after hq'
      subst ev
      exact ⟨rv, ⟨V.ref (s.heap.objs.size + 1), H', I3, rfl, q3⟩⟩
    | next => exact False.elim hq'
    | brk => exact False.elim hq'
    | cont => exact False.elim hq'
theorem pe_make (M : Mk X.K C f) (F : FnOk X.prog X.w X.K X.mg X.base CX k f fd ps sp) (hr : Room (k + 1) X.A) (hg : Gl X x) (hm : X.mg x = some (.ref C)) (hb : Binds X.K fd ps ds) (hd : Vals dvs ds) (hx : Passes CX X E)
    (ha : PA X (e :: es) t) (hdb : (x == ("__debug__" : Str)) = false := by decide) (he : starEach (e :: es) X.env = (false, eval e X.env) :: starEach es X.env := by rfl) (hpl : (backTo pos (starEach es X.env)).any (·.1) = false := by rfl) :
    PE X (.Call (.Name x p) (e :: es) [] pos) (tMake C sp dvs E t) := by
  intro pins s σ H Q I h
  refine wpAny_Call_Name_kw (ld_glob I hg hm ?_ hdb)
  refine PySem.W.callWith_K (h₀ := X.base) I.ok.mod.kin M.kp (thn (ha pos pins s σ H _ I h) fun us s1 ⟨vs, H1, I1, r, q⟩ => ⟨I1.kIn, ?_⟩) he hpl
  exact run_make M F hr hb hd hx I1 r q
theorem pe_make0 (M : Mk X.K C f) (F : FnOk X.prog X.w X.K X.mg X.base CX k f fd ps sp) (hr : Room (k + 1) X.A) (hg : Gl X x) (hm : X.mg x = some (.ref C)) (hb : Binds X.K fd ps ds) (hd : Vals dvs ds) (hx : Passes CX X E)
    (hdb : (x == ("__debug__" : Str)) = false := by decide) : PE X (.Call (.Name x p) [] [] pos) (tMake C sp dvs E tNil) := by
  intro pins s σ H Q I h
  refine wpAny_Call_Name_kw (ld_glob I hg hm ?_ hdb)
  exact PySem.W.callWith_K0 I.kIn M.kp (run_make (us := []) M F hr hb hd hx I .nil h)
end

/-! ### keywords -/
/-- the values of the keywords, from the left -/
def PK (X : Cx) (kws : List Keyword) (t : TA) : Prop :=
  ∀ (pos : Pos) (pins : List (Addr × Obj)) (s : Shared) (σ : St) (H : Hp) (Q : List V → Hp → Prop), Inv X pins σ H s → t σ H Q → wpAny (model X.prog X.w) X.A (evalAll ((backToKw pos (keywordEach kws X.env)).map (·.2))) (AP X pins σ Q) X.xe s
section
variable {X : Cx} {CX : CXT} {k : Nat} {f C : Addr} {fd : FuncData} {ps ks : List Str} {sp : Sp} {E : XK} {x m : Str} {p pos apos kpos : Pos} {e o : Expr} {es : List Expr} {kws : List Keyword} {te ta : TE} {t tk : TA} {nm : Option Str}

/-- how a call with keywords binds: g puts the positional values us and the keywords' values ws (names ks) in the parameters' order, defaults among them -/
structure KBinds (K : PySem.W.Frag) (fd : FuncData) (ps ks : List Str) (g : List Value → List Value → List Value) (gV : List V → List V → List V) : Prop where
  to : ∀ (s : Shared) (us ws : List Value), K.In s.heap → (g us ws).length = ps.length → BindsTo s fd ⟨us, ks.zip ws⟩ (ps.zip (g us ws))
  rel : ∀ {vs : List V} {us : List Value} {zs : List V} {ws : List Value}, Vals vs us → Vals zs ws → Vals (gV vs zs) (g us ws)
def tCallK (sp : Sp) (gV : List V → List V → List V) (E : XK) (t tk : TA) : TE := fun σ H Q => t σ H fun vs H1 => tk σ H1 fun zs H2 => sp (gV vs zs) H2 Q E
variable {g : List Value → List Value → List Value} {gV : List V → List V → List V}
end

/-! ### a def's body keeps its promise -/
/-- names: the parameters first -/
structure FnScope (N P : List Str) (sc : Scope) : Prop where
  kind : sc.kind = .function
  co : sc.isCoroutine = false
  gen : sc.isGenerator = false
  nd : N.Nodup
  pre : N.take P.length = P
  par : ∀ x ∈ P, sc.names.lookup x = some .local ∨ sc.names.lookup x = some .cell
  nofree : ∀ y ∈ sc.names, y.2 ≠ .free

theorem bindL_out {kindOf : Str → Option NameKind} {x : Str} : ∀ {binds : List (Str × Value)} {m : Str → Option Value}, (∀ v, (x, v) ∉ binds) → bindL kindOf binds m x = m x
  | [], _, _ => rfl
  | (n, v) :: r, m, h => by
    unfold bindL
    rw [bindL_out fun w hw => h w (List.mem_cons_of_mem _ hw)]
    split
    · have : x ≠ n := by rintro rfl; exact h v List.mem_cons_self
      simp [this]
    · rfl
theorem bindC_out {kindOf : Str → Option NameKind} {x : Str} : ∀ {binds : List (Str × Value)} {m : Str → Option Value}, (∀ v, (x, v) ∉ binds) → bindC kindOf binds m x = m x
  | [], _, _ => rfl
  | (n, v) :: r, m, h => by
    unfold bindC
    rw [bindC_out fun w hw => h w (List.mem_cons_of_mem _ hw)]
    split
    · rfl
    · have : x ≠ n := by rintro rfl; exact h v List.mem_cons_self
      simp [this]
theorem bindL_get {kindOf : Str → Option NameKind} {x : Str} {v : Value} : ∀ {P : List Str} {vs : List Value} {i : Nat} {m : Str → Option Value}, P.Nodup → P[i]? = some x → vs[i]? = some v → kindOf x = some .local →
    bindL kindOf (P.zip vs) m x = some v
  | [], _, _, _, _, h, _, _ => by simp at h
  | _ :: _, [], _, _, _, _, h, _ => by simp at h
  | p :: P, w :: vs, 0, m, nd, h1, h2, hk => by
    simp at h1 h2; subst h1; subst h2
    show bindL kindOf ((p, w) :: P.zip vs) m p = _
    unfold bindL
    rw [bindL_out fun v hv => (List.nodup_cons.mp nd).1 (List.of_mem_zip hv).1, if_pos hk]
    simp
  | p :: P, w :: vs, i + 1, m, nd, h1, h2, hk => by
    show bindL kindOf ((p, w) :: P.zip vs) m x = _
    unfold bindL
    exact bindL_get (i := i) (List.nodup_cons.mp nd).2 (by simpa using h1) (by simpa using h2) hk
theorem bindC_get {kindOf : Str → Option NameKind} {x : Str} {v : Value} : ∀ {P : List Str} {vs : List Value} {i : Nat} {m : Str → Option Value}, P.Nodup → P[i]? = some x → vs[i]? = some v → kindOf x ≠ some .local →
    bindC kindOf (P.zip vs) m x = some v
  | [], _, _, _, _, h, _, _ => by simp at h
  | _ :: _, [], _, _, _, _, h, _ => by simp at h
  | p :: P, w :: vs, 0, m, nd, h1, h2, hk => by
    simp at h1 h2; subst h1; subst h2
    show bindC kindOf ((p, w) :: P.zip vs) m p = _
    unfold bindC
    rw [bindC_out fun v hv => (List.nodup_cons.mp nd).1 (List.of_mem_zip hv).1, if_neg hk]
    simp
  | p :: P, w :: vs, i + 1, m, nd, h1, h2, hk => by
    show bindC kindOf ((p, w) :: P.zip vs) m x = _
    unfold bindC
    exact bindC_get (i := i) (List.nodup_cons.mp nd).2 (by simpa using h1) (by simpa using h2) hk

/-- the names' values at the entry -/
def start (N : List Str) (vs : List V) : St := vs.map some ++ List.replicate (N.length - vs.length) none

/-- the context of a def's body, at its entry; an exception leaves the frame, then lies as CX says -/
def cxOf (CX : CXT) (P : Program) (w : World) (K : PySem.W.Frag) (mg : Str → Option Value) (base : Heap) (N : List Str) (qual : Str) (scope : Scope) (f : Addr) (cd : Value) (A : Around) (outer : List Env) (s : Shared) (H : Hp) (E : XK) : Cx where
  prog := P
  w := w
  K := K
  mg := mg
  base := base
  A := A.deeper (envOfC qual scope s.heap.objs.size f cd)
  N := N
  s_0 := s
  H_0 := H
  env := envOfC qual scope s.heap.objs.size f cd
  outer := outer
  stack := envOfC qual scope s.heap.objs.size f cd :: outer
  ex := []
  calm := true
  fn := fun _ => true
  pn := []
  xe := fun e s' => wpAny (model P w) (A.deeper (envOfC qual scope s.heap.objs.size f cd)) (leaving (envOfC qual scope s.heap.objs.size f cd) e) (fun _ s'' => CX outer H s E e s'') (fun e' s'' => CX outer H s E e' s'') s'

theorem cell_has {sc : Scope} {n : Nat} {x : Str} (h : sc.names.lookup x = some .cell) : ∃ c, (cellsFrom n sc.names []).lookup x = some c := by
  have q := PySem.W.cellsFrom_some sc.names n [] (.inl h)
  exact Option.isSome_iff_exists.mp q

theorem inv_start {CX : CXT} {P : Program} {w : World} {K : PySem.W.Frag} {mg : Str → Option Value} {base : Heap} {N ps : List Str} {qual : Str} {scope : Scope} {f : Addr} {cd : Value} {A : Around} {outer : List Env} {s s1 : Shared} {H : Hp} {E : XK} {us : List Value} {vs : List V}
    (S : FnScope N ps scope) (hd : A.handled = none) (e0 : Env0 P w K mg base A outer s H) (hl : vs.length = ps.length) (r : Vals vs us)
    (x : InCallC s s.heap.objs.size (bindL (envOfC qual scope s.heap.objs.size f cd).kindOf (ps.zip us) fun _ => none) (cellsFrom (s.heap.objs.size + 1) scope.names []) (bindC (envOfC qual scope s.heap.objs.size f cd).kindOf (ps.zip us) fun _ => none) s1) :
    Inv (cxOf CX P w K mg base N qual scope f cd A outer s H E) [] (start N vs) H s1 := by
  have hpl : ps.length ≤ N.length := by have := congrArg List.length S.pre; rw [List.length_take] at this; omega
  obtain ⟨h1, tk, rfl, hk⟩ := x.done
  have noA : ∀ b : Addr, b ∉ (cxOf CX P w K mg base N qual scope f cd A outer s H E).ex := fun b z => absurd (show b ∈ ([] : List Addr) from z) (by simp)
  refine ⟨⟨e0.mod, S.kind, rfl, rfl, Nat.le_refl _, fun y z c h1 h2 => ?_, fun y hy => ?_, fun y c _ h => ?_, fun _ => hd, Around.frames_deeper e0.frames, .inr ⟨rfl, rfl⟩, fun b z => absurd z (noA b), e0.bs, e0.bsz, fun b _ _ => noA b, fun b z => absurd z (noA b), e0.funs, e0.frf⟩,
    rfl, e0.bare, Un.kept hk, ⟨_, x.toInCall.ns, fun i y v h1 h2 h3 => ?_⟩, fun y c h => ⟨_, x.cell y c h⟩, e0.hok.fresh (Nat.le_refl _), fun y c h => ?_, fun p hp => absurd (show p ∈ ([] : List (Addr × Obj)) from hp) (by simp), e0.hok.kept hk, ?_⟩
  · exact name_of_addr x.apart (PySem.mem_of_lookup h1) (PySem.mem_of_lookup h2)
  · have hy : scope.names.lookup y = some .cell ∨ scope.names.lookup y = some .free := hy
    rcases hy with hy | hy
    · exact cell_has hy
    · exact absurd rfl (S.nofree _ (PySem.mem_of_lookup hy))
  · exact Nat.le_of_lt (x.above y c (PySem.mem_of_lookup h))
  · have hi : i < vs.length := by
      unfold start at h2
      by_cases hi : i < vs.length
      · exact hi
      · rw [List.getElem?_append_right (by simpa using hi)] at h2
        rw [List.getElem?_replicate] at h2
        split at h2 <;> cases h2
    have ha : vs[i]? = some v := by
      unfold start at h2
      rw [List.getElem?_append_left (by simpa using hi), List.getElem?_map] at h2
      cases e : vs[i]? with
      | none => rw [e] at h2; cases h2
      | some a => rw [e] at h2; cases h2; rfl
    obtain ⟨u, hu, rv⟩ := r.get ha
    have hp : ps[i]? = some y := by
      rw [← S.pre, List.getElem?_take_of_lt (by omega)]; exact h1
    have ndP : ps.Nodup := by rw [← S.pre]; exact S.nd.sublist (List.take_sublist _ _)
    refine ⟨u, rv, ?_⟩
    rcases S.par y (List.mem_of_getElem? hp) with k | k
    · exact .inl ⟨k, bindL_get ndP hp hu k⟩
    · obtain ⟨c, e⟩ := cell_has (n := s.heap.objs.size + 1) k
      refine .inr ⟨.inl k, c, e, ?_⟩
      have q := x.cell y c e
      rw [bindC_get ndP hp hu (by show scope.names.lookup y ≠ _; rw [k]; decide)] at q
      exact q
  · exact e0.hok.fresh (Nat.le_of_lt (x.above y c (PySem.mem_of_lookup h)))
  · unfold start
    show _ = N.length
    rw [List.length_append, List.length_map, List.length_replicate]
    omega

/-- THE RULE: a def (or a method) of the text, by its body. The body's reading t is chosen for each entry; it is run at the parameters' values -/
theorem fn_of {CX : CXT} {P : Program} {w : World} {K : PySem.W.Frag} {mg : Str → Option Value} {base : Heap} {k : Nat} {f : Addr} {name qual : Str} {params : Arguments} {body : List Stmt} {scope : Scope} {dV kV doc pm cdv ct oc : Value} {an od : Option Addr}
    {osl : Array (Option Value)} {N ps : List Str} {sp : Sp} (lk : K.lookup f = some ⟨oc, od, .func (PySem.W.fnOf name qual params body scope dV kV doc pm an cdv ct), osl⟩) (hcd : PySem.W.codeIn K cdv qual = true) (S : FnScope N ps scope)
    (len : ∀ vs H Q E, sp vs H Q E → vs.length = ps.length)
    (hbody : ∀ (A : Around) (outer : List Env) (s : Shared) (H : Hp) (vs : List V) (Q : VK) (E : XK), Room k (A.deeper (envOfC qual scope s.heap.objs.size f cdv)) → sp vs H Q E →
      ∃ t, PSs (cxOf CX P w K mg base N qual scope f cdv A outer s H E) body t ∧ t { nx := fun _ H' => Q .non H', rt := Q } (start N vs) H) :
    FnOk P w K mg base CX (k + 1) f (PySem.W.fnOf name qual params body scope dV kV doc pm an cdv ct) ps sp := by
  refine ⟨len, fun A outer s H args us vs Q E hr e0 hb r hsp => ?_⟩
  have hl := len _ _ _ _ hsp
  have KX : K.In s.heap := e0.mod.kin.keeps fun b o e => (e0.bs b o e).1
  have lim : s.heap.NoLimit := e0.mod.nolimit.keeps fun b o e => (e0.bs b o e).1
  have hkind : ∀ y ∈ ps.zip us, scope.names.lookup y.1 = some .local ∨ (scope.names.lookup y.1 = some .cell ∧ ((cellsFrom (s.heap.objs.size + 1) scope.names []).lookup y.1).isSome = true) := fun ⟨n, v⟩ hy => by
    rcases S.par n (List.of_mem_zip hy).1 with q | q
    · exact .inl q
    · exact .inr ⟨q, PySem.W.cellsFrom_some _ _ _ (.inl q)⟩
  refine codeAny_call_function hr.depth (KX _ _ lk) rfl S.co S.gen rfl (PySem.W.codeRec_of KX hcd) (hb _ _ _ _ ?_)
  refine wpAny_newFunctionEnv_cells S.kind hkind fun env he s1 x => ?_
  subst he
  refine ⟨lim.keeps x.toInCall.keep, codeAny_func ?_⟩
  obtain ⟨t, ht, hq⟩ := hbody A outer s H vs Q E (hr.deeper _) hsp
  have I : Inv (cxOf CX P w K mg base N qual scope f cdv A outer s H E) [] (start N vs) H s1 := inv_start S hr.hd e0 hl r x
  refine wpAny_mono (ht [] s1 (start N vs) H _ I hq) (fun fl s' hs => ?_) fun e s' hs => hs
  have fin : ∀ {σ' : St} {H' : Hp} {v : V} {u : Value}, Inv (cxOf CX P w K mg base N qual scope f cdv A outer s H E) [] σ' H' s' → RelV v u → Q v H' → CE outer P w H s Q u s' :=
    fun {σ' H' v u} J rv q => ⟨v, H', J.os, J.bare, J.base, J.hok, rv, q⟩
  cases fl with
  | ret u =>
    obtain ⟨v, σ', H', J, rv, q⟩ := hs
    exact fin J rv q
  | next =>
    obtain ⟨σ', H', J, q⟩ := hs
    exact fin (v := V.non) (u := Value.none) J rfl q
  | brk =>
    obtain ⟨_, _, _, q⟩ := hs
    exact False.elim q
  | cont =>
    obtain ⟨_, _, _, q⟩ := hs
    exact False.elim q
end L2

namespace L2
open PySem PySem.Spec PyProof.Rows
section
variable {X : Cx} {x : Str} {p pos : Pos} {e : Expr} {es : List Expr} {t : TA} {id T : String} {r : List V → Hp → VK → Prop}

def tCB (r : List V → Hp → VK → Prop) (t : TA) : TE := fun σ H Q => t σ H fun vs H1 => r vs H1 Q
/-- f(e, ..), f a built-in function -/
theorem pe_callB (hc : CallR X (.builtin id) r) (hg : Gl X x) (hm : X.mg x = none) (hv : bootBuiltins x = some (.builtin id)) (ha : PA X (e :: es) t) (hn : x ≠ "__name__" := by decide) (hdb : (x == ("__debug__" : Str)) = false := by decide)
    (he : starEach (e :: es) X.env = (false, eval e X.env) :: starEach es X.env := by rfl) (hpl : (backTo pos (starEach es X.env)).any (·.1) = false := by rfl) : PE X (.Call (.Name x p) (e :: es) [] pos) (tCB r t) := by
  intro pins s σ H Q I h
  refine wpAny_Call_Name_kw (ld_blt I hg hm hv ?_ hn hdb)
  exact PyProof.Rows.callWith_builtin1 (thn (ha pos pins s σ H _ I h) fun us s1 ⟨vs, H1, I1, r1, q1⟩ => hc pins s1 σ H1 vs us Q I1 r1 q1) he hpl
/-- T(e, ..), T a built-in type -/
theorem pe_callTy (hc : CallR X (.type T) r) (hg : Gl X x) (hm : X.mg x = none) (hv : bootBuiltins x = some (.type T)) (ha : PA X (e :: es) t) (hn : x ≠ "__name__" := by decide) (hdb : (x == ("__debug__" : Str)) = false := by decide)
    (he : starEach (e :: es) X.env = (false, eval e X.env) :: starEach es X.env := by rfl) (hpl : (backTo pos (starEach es X.env)).any (·.1) = false := by rfl) : PE X (.Call (.Name x p) (e :: es) [] pos) (tCB r t) := by
  intro pins s σ H Q I h
  refine wpAny_Call_Name_kw (ld_blt I hg hm hv ?_ hn hdb)
  exact PyProof.Rows.callWith_type1 (thn (ha pos pins s σ H _ I h) fun us s1 ⟨vs, H1, I1, r1, q1⟩ => hc pins s1 σ H1 vs us Q I1 r1 q1) he hpl
end
end L2

namespace HT
open PySem PyProof.Rows

/-- t < u of tuples of ints -/
def lexLt : List Int → List Int → Bool
  | [], [] => false
  | [], _ :: _ => true
  | _ :: _, [] => false
  | x :: xs, y :: ys => if x = y then lexLt xs ys else decide (x < y)


section
open PySem.SeqAt
open PySem.AutoSeq1 (wpAny_loadPart')
open PySem.MeetsSeq PySem.MeetsSeq2 PySem.MeetsSeq3

end

section
variable {prog : Program} {w : World} {A : Around} {E : Value → Shared → Prop} {s : Shared}



/-! ### t[a:b], not the whole -/
/-- a slice's bound as a place among n (d where it is left out) -/
def sIx (n d : Nat) : Option Int → Nat
  | none => d
  | some v => if v < 0 then (v + (n : Int)).toNat else min v.toNat n
theorem sIx_none (n d : Nat) : sIx n d none = d := rfl
theorem sIx_nat (n d k : Nat) : sIx n d (some (k : Int)) = min k n := by
  show (if (k : Int) < 0 then ((k : Int) + (n : Int)).toNat else min (k : Int).toNat n) = min k n
  rw [if_neg (by omega), Int.toNat_natCast]

end
end HT

namespace L2
open PySem PySem.Spec PyProof.Rows

/-! ### the parts of a slice -/
abbrev TO := St → Hp → (Option Int → Hp → Prop) → Prop
/-- a slice's part (left out, or an int) -/
def PO (X : Cx) (e : Option Expr) (t : TO) : Prop :=
  ∀ (pins : List (Addr × Obj)) (s : Shared) (σ : St) (H : Hp) (Q : Option Int → Hp → Prop), Inv X pins σ H s → t σ H Q →
    wpAny (model X.prog X.w) X.A (evalPart e X.env) (fun u s' => ∃ o H', Inv X pins σ H' s' ∧ IsPart u o ∧ Q o H') X.xe s
def tNoPart : TO := fun _ H Q => Q none H
def tPart (t : TE) : TO := fun σ H Q => t σ H fun x H1 => ∃ i, x = .int i ∧ Q (some i) H1


section
variable {X : Cx} {e : Expr} {te : TE} {lo hi : Option Expr} {tl th : TO} {pos p2 : Pos}

theorem po_none : PO X none tNoPart := by
  intro pins s σ H Q I h
  rw [evalPart_none]
  exact wpAny_pure ⟨none, H, I, .none, h⟩
theorem po_some (h : PE X e te) : PO X (some e) (tPart te) := by
  intro pins s σ H Q I hw
  rw [evalPart_some]
  refine thn (h pins s σ H _ I hw) fun u s1 ⟨x, H1, I1, r1, q1⟩ => ?_
  obtain ⟨i, rfl, q⟩ := q1
  obtain ⟨t, rfl⟩ := r1
  exact ⟨some i, H1, I1, .int i t, q⟩

/-- what a slice of a value is, by values: the slice object stands at sl -/
def SlR (X : Cx) (r : V → Option Int → Option Int → Hp → VK → Prop) : Prop :=
  ∀ (pins : List (Addr × Obj)) (s : Shared) (σ : St) (H : Hp) (x : V) (v vl vu : Value) (lo hi : Option Int) (sl : Addr) (Q : VK), Inv X pins σ H s → RelV x v → s.heap.IsSliceOf sl vl vu .none → IsPart vl lo → IsPart vu hi → r x lo hi H Q →
    ∃ T id, typeLookup (.type T) "__getitem__" = pure (some (.builtin id)) ∧ s.TypeIs v T ∧ wpAny (model X.prog X.w) X.A (getItem v (.ref sl)) (EP X pins σ Q) X.xe s
def tSl (r : V → Option Int → Option Int → Hp → VK → Prop) (te : TE) (tl th : TO) : TE := fun σ H Q => te σ H fun x H1 => tl σ H1 fun l H2 => th σ H2 fun u H3 => r x l u H3 Q
/-- a[lo:hi], any a -/
theorem pe_slice {r : V → Option Int → Option Int → Hp → VK → Prop} (hr : SlR X r) (he : PE X e te) (hl : PO X lo tl) (hu : PO X hi th) : PE X (.Subscript e (.Slice lo hi none p2) pos) (tSl r te tl th) := by
  intro pins s σ H Q I h
  refine Subscript_ (thn (he pins s σ H _ I h) fun v s1 ⟨x, H1, I1, r1, q1⟩ => ?_)
  refine wpAny_Slice (thn (hl pins s1 σ H1 _ I1 q1) fun vl s2 ⟨l, H2, I2, pl, q2⟩ => thn (hu pins s2 σ H2 _ I2 q2) fun vu s3 ⟨u, H3, I3, pu, q3⟩ => ?_)
  rw [evalPart_none]
  refine wpAny_pure ?_
  have I4 : Inv X pins σ H3 { s3 with heap := s3.heap.push { cls := .type "slice", data := .fields #[vl, vu, .none] } } := I3.kept (t' := s3.toks) fun b ob q => Heap.get?_push_of_some _ q
  obtain ⟨T, id, hT, ht, hg⟩ := hr pins { s3 with heap := s3.heap.push { cls := .type "slice", data := .fields #[vl, vu, .none] } } σ H3 x v vl vu l u s3.heap.objs.size Q I4 r1 (Heap.IsSliceOf.new ..) pl pu q3
  show wpAny (model X.prog X.w) X.A (subscriptTail e (.Slice lo hi none p2) v (.ref s3.heap.objs.size)) (EP X pins σ Q) X.xe { s3 with heap := s3.heap.push { cls := .type "slice", data := .fields #[vl, vu, .none] } }
  exact tail_any (ops := [.ref s3.heap.objs.size, v]) ht hT hg (by with_unfolding_all rfl)

/-- the items of xs[lo:hi] -/
def cutV (xs : List V) (lo hi : Option Int) : List V := (xs.drop (HT.sIx xs.length 0 lo)).take (HT.sIx xs.length xs.length hi - HT.sIx xs.length 0 lo)
theorem cutV_length (xs : List V) (lo hi : Option Int) : (cutV xs lo hi).length ≤ xs.length := by
  unfold cutV
  rw [List.length_take, List.length_drop]
  omega
/-- t[lo:hi], not the whole of it (the whole would be t itself) -/
def rSlT (K : PySem.W.Frag) : V → Option Int → Option Int → Hp → VK → Prop := fun x lo hi H Q => ∃ a xs, x = .ref a ∧ SqT K H a xs ∧
  ¬ (HT.sIx xs.length 0 lo = 0 ∧ HT.sIx xs.length xs.length hi = xs.length) ∧ ∀ p, H p = none → Q (.ref p) (upd H p (.tup (cutV xs lo hi)))

/-! ### t < u, t + u -/
def rLtT (K : PySem.W.Frag) : R2 := fun x y H Q => ∃ a b ns ms, x = .ref a ∧ y = .ref b ∧ SqT K H a (ns.map V.int) ∧ SqT K H b (ms.map V.int) ∧ Q (.bl (HT.lexLt ns ms)) H
/-- t + u, t not empty: u empty gives t itself -/
def rCatT (K : PySem.W.Frag) : R2 := fun x y H Q => ∃ a b xs ys, x = .ref a ∧ y = .ref b ∧ SqT K H a xs ∧ SqT K H b ys ∧ xs ≠ [] ∧ xs.length + ys.length ≤ sizeLine ∧
  (ys = [] → Q (.ref a) H) ∧ (ys ≠ [] → ∀ p, H p = none → Q (.ref p) (upd H p (.tup (xs ++ ys))))
end
end L2

namespace L2
open PySem PySem.Spec PyProof.Rows

/-! ### places -/
/-- the place that an index of any sign means -/
def ixN (n : Nat) (i : Int) : Option Nat := if 0 ≤ i then (if i < n then some i.toNat else none) else if -(n : Int) ≤ i then some (i + n).toNat else none
def atI {α : Type} (xs : List α) (i : Int) : Option α := (ixN xs.length i).bind fun j => xs[j]?
theorem ixN_seq {n : Nat} {i : Int} {j : Nat} (h : ixN n i = some j) : seqIndex? i n = some j ∧ j < n ∧ -(n : Int) ≤ i ∧ i < n := by
  unfold ixN at h
  by_cases h0 : 0 ≤ i
  · rw [if_pos h0] at h
    by_cases h1 : i < n
    · rw [if_pos h1] at h
      have e : i.toNat = j := Option.some.inj h
      exact ⟨by rw [seqIndex_of h0 h1, e], by omega, by omega, h1⟩
    · rw [if_neg h1] at h; cases h
  · rw [if_neg h0] at h
    by_cases h1 : -(n : Int) ≤ i
    · rw [if_pos h1] at h
      have e : (i + n).toNat = j := Option.some.inj h
      exact ⟨by rw [seqIndex_neg (by omega) h1, e], by omega, h1, by omega⟩
    · rw [if_neg h1] at h; cases h
theorem atI_get {α : Type} {xs : List α} {i : Int} {v : α} (h : atI xs i = some v) : ∃ j, seqIndex? i xs.length = some j ∧ xs[j]? = some v ∧ j < xs.length ∧ -(xs.length : Int) ≤ i ∧ i < xs.length := by
  unfold atI at h
  cases e : ixN xs.length i with
  | none => rw [e] at h; cases h
  | some j =>
    rw [e] at h
    obtain ⟨h1, h2, h3, h4⟩ := ixN_seq e
    exact ⟨j, h1, h, h2, h3, h4⟩
theorem atI_nat {α : Type} {xs : List α} {j : Nat} {v : α} (h : xs[j]? = some v) : atI xs (j : Int) = some v := by
  have hj : j < xs.length := (List.getElem?_eq_some_iff.mp h).1
  have e : ixN xs.length (j : Int) = some j := by
    unfold ixN
    rw [if_pos (by omega), if_pos (by omega)]; simp
  unfold atI; rw [e]; exact h

/-! ### what may be subscripted -/
/-- what stands as an index of a plain subscript -/
def PlainIx (b : Expr) : Prop := ∀ o i, subscripted b false o i = operate [o, i] (getItem o i)
/-- a subscript by values -/
def IxR (X : Cx) (r : R2) : Prop :=
  ∀ (value slice : Expr) (pins : List (Addr × Obj)) (s : Shared) (σ : St) (H : Hp) (x y : V) (v u : Value) (Q : VK), Inv X pins σ H s → RelV x v → RelV y u → r x y H Q →
    subscripted slice false v u = operate [v, u] (getItem v u) → wpAny (model X.prog X.w) X.A (subscriptTail value slice v u) (EP X pins σ Q) X.xe s
/-- a call of a builtin's method by values: the receiver, the arguments -/
def MtR (X : Cx) (id : String) (r : V → List V → Hp → VK → Prop) : Prop :=
  ∀ (pins : List (Addr × Obj)) (s : Shared) (σ : St) (H : Hp) (x : V) (xs : List V) (v : Value) (us : List Value) (Q : VK), Inv X pins σ H s → RelV x v → Vals xs us → r x xs H Q →
    wpAny (model X.prog X.w) X.A (call (.builtin id) (v :: us)) (EP X pins σ Q) X.xe s
section
variable {X : Cx} {a b : Expr} {ta tb : TE} {pos : Pos}
/-- a[b] -/
theorem pe_ix {r : R2} (hr : IxR X r) (ha : PE X a ta) (hb : PE X b tb) (hs : PlainIx b) : PE X (.Subscript a b pos) (tOp r ta tb) := by
  intro pins s σ H Q I h
  exact Subscript_ (binT ha hb I h fun v u s2 x y H2 I2 rx ry q => hr a b pins s2 σ H2 x y v u Q I2 rx ry q (hs _ _))

def rIxL (K : PySem.W.Frag) : R2 := fun x y H Q => ∃ p xs i v, x = .ref p ∧ y = .int i ∧ SqL K H p xs ∧ atI xs i = some v ∧ Q v H
def rIxT (K : PySem.W.Frag) : R2 := fun x y H Q => ∃ p xs i v, x = .ref p ∧ y = .int i ∧ SqT K H p xs ∧ atI xs i = some v ∧ Q v H
def rIxS : R2 := fun x y H Q => ∃ z i c, x = .str z ∧ y = .int i ∧ z.length ≤ sizeLine ∧ atI z.cps.toList i = some c ∧ Q (.str ⟨#[c]⟩) H
theorem ix_list : IxR X (rIxL X.K) := by
  intro value slice pins s σ H x y v u Q I rx ry h hs
  obtain ⟨p, xs, i, z, rfl, rfl, hq, he, q⟩ := h
  cases rx
  obtain ⟨t, rfl⟩ := ry
  obtain ⟨its, r, pl, hz⟩ := I.list hq
  obtain ⟨j, h1, h2, h3, h4, h5⟩ := atI_get he
  obtain ⟨w, ew, rw'⟩ := r.get h2
  have hl := r.length
  have hn := line63
  have fin : EP X pins σ Q w s := ⟨z, H, I, rw', q⟩
  by_cases h0 : 0 ≤ i
  · have hj : i.toNat = j := by
      rw [seqIndex_of h0 h5] at h1
      exact Option.some.inj h1
    exact item_listR pl.isList h0 (by omega) (by rw [hj]; simpa using ew) fin hs
  · have hj : (i + (its.toArray.size : Int)).toNat = j := by
      rw [seqIndex_neg (by omega) h4] at h1
      rw [List.size_toArray, ← hl]
      exact Option.some.inj h1
    exact subscriptTail_builtinR (x := w) pl.isList.typeIs slot_list_getitem.lookup
      (wpAny_getItem_list_neg (Q := fun r s' => r = w ∧ EP X pins σ Q r s') pl.isList (by omega) (by rw [List.size_toArray] <;> omega) (by omega) (by rw [hj]; simpa using ew) ⟨rfl, fin⟩) hs
/-- list, tuple or str -/
def rIx (K : PySem.W.Frag) : R2 := fun x y H Q => rIxL K x y H Q ∨ rIxT K x y H Q ∨ rIxS x y H Q

/-! ### xs[i] = v, any sign -/
/-- the list's object behind a store -/
theorem mapSeq_set (its : List Value) (n j : Nat) (u : Value) : Obj.mapSeq (·.setIfInBounds j u) { cls := .type "list", data := .seq its.toArray n } = { cls := .type "list", data := .seq (its.set j u).toArray n } := by
  simp [Obj.mapSeq]
theorem Inv.lst {pins : List (Addr × Obj)} {σ : St} {H : Hp} {s : Shared} {p : Addr} {xs : List V} (I : Inv X pins σ H s) (h : H p = some (.lst xs)) :
    ∃ (its : List Value) (n : Nat), Vals xs its ∧ s.heap.get? p = some { cls := .type "list", data := .seq its.toArray n } ∧ xs.length ≤ sizeLine := by
  obtain ⟨z, its, n, r, e⟩ := I.hok p _ h
  exact ⟨its, n, r, e, z⟩
/-- the list at p is written by an update of its object -/
theorem Inv.lstUpd {pins : List (Addr × Obj)} {σ : St} {H : Hp} {s : Shared} {p : Addr} {xs ys : List V} {its its' : List Value} {n n' : Nat} {f : Obj → Obj} (I : Inv X pins σ H s) (h : H p = some (.lst xs))
    (ho : s.heap.get? p = some { cls := .type "list", data := .seq its.toArray n }) (hf : f { cls := .type "list", data := .seq its.toArray n } = { cls := .type "list", data := .seq its'.toArray n' }) (r : Vals ys its') (hz : ys.length ≤ sizeLine) (t : Nat) :
    Inv X pins σ (upd H p (.lst ys)) { s with heap := s.heap.update p f, toks := t } := by
  have e : (s.heap.update p f).get? p = some { cls := .type "list", data := .seq its'.toArray n' } := by
    rw [Heap.get?_update_self f ho (by rw [hf] <;> rfl), hf]
  refine I.write (x := p) (e := p) (by rw [h]; trivial) (.inl rfl) (fun b u hb q => (Heap.get?_update_other _ _ (Ne.symm hb)).trans q) ⟨_, e⟩ ?_
  exact ⟨hz, its', n', r, e⟩
def rSetL : V → V → V → Hp → (Hp → Prop) → Prop := fun o i v H Q => ∃ p xs k j, o = .ref p ∧ i = .int k ∧ H p = some (.lst xs) ∧ ixN xs.length k = some j ∧ Q (upd H p (.lst (xs.set j v)))
theorem set_list : PSet X rSetL := by
  intro pins s σ H o i v ov iv u Q I ro ri rv h
  obtain ⟨p, xs, k, j, rfl, rfl, hp, hj, q⟩ := h
  cases ro
  obtain ⟨t, rfl⟩ := ri
  obtain ⟨its, n, r, ho, hz⟩ := I.lst hp
  obtain ⟨h1, h2, h3, h4⟩ := ixN_seq hj
  have hl := r.length
  have hn := line63
  have I' : Inv X pins σ (upd H p (.lst (xs.set j v))) { s with heap := s.heap.update p (Obj.mapSeq (·.setIfInBounds j u)) } :=
    I.lstUpd hp ho (mapSeq_set its n j u) (r.set rv j) (by rw [List.length_set]; exact hz) s.toks
  by_cases h0 : 0 ≤ k
  · have hk : k.toNat = j := by
      rw [seqIndex_of h0 h4] at h1
      exact Option.some.inj h1
    exact PySem.W.ki_setAt ho h0 (by omega) (by rw [List.size_toArray, ← hl]; exact h4) (by rw [hk]; exact ⟨_, I', q⟩)
  · have hk : (k + (its.toArray.size : Int)).toNat = j := by
      rw [seqIndex_neg (by omega) h3] at h1
      rw [List.size_toArray, ← hl]
      exact Option.some.inj h1
    exact PySem.W.ki_setBack ho (by omega) (by rw [List.size_toArray, ← hl]; exact h3) (by omega) (by rw [hk]; exact ⟨_, I', q⟩)

/-! ### slices -/
theorem slice_bounds (lo hi : Option Int) (n : Nat) : (sliceBounds lo hi none n).1 = ((HT.sIx n 0 lo : Nat) : Int) ∧ (sliceBounds lo hi none n).2.1 = ((HT.sIx n n hi : Nat) : Int) ∧ (sliceBounds lo hi none n).2.2 = 1 := by
  refine ⟨?_, ?_, rfl⟩
  · cases lo with
    | none => simp [sliceBounds, HT.sIx]
    | some i =>
      simp only [sliceBounds, HT.sIx, Option.getD_none, show (1 : Int) > 0 by decide, if_true]
      by_cases h : i < 0
      · simp only [h, if_true] <;> omega
      · simp only [h, if_false] <;> omega
  · cases hi with
    | none => simp [sliceBounds, HT.sIx]
    | some i =>
      simp only [sliceBounds, HT.sIx, Option.getD_none, show (1 : Int) > 0 by decide, if_true]
      by_cases h : i < 0
      · simp only [h, if_true] <;> omega
      · simp only [h, if_false] <;> omega
theorem slicePick_cut (its : List Value) (lo hi : Option Int) : slicePick its.toArray lo hi none = ((its.drop (HT.sIx its.length 0 lo)).take (HT.sIx its.length its.length hi - HT.sIx its.length 0 lo)).toArray := by
  obtain ⟨h1, h2, h3⟩ := slice_bounds lo hi its.toArray.size
  unfold slicePick
  rw [h1, h2, h3]
  simp only [sliceRange_one, pick_run, List.size_toArray] <;> rfl
/-- xs[lo:hi] of a list: a new list -/
def rSlL (K : PySem.W.Frag) : V → Option Int → Option Int → Hp → VK → Prop := fun x lo hi H Q => ∃ a xs, x = .ref a ∧ SqL K H a xs ∧ ∀ p, H p = none → Q (.ref p) (upd H p (.lst (cutV xs lo hi)))
theorem sl_list : SlR X (rSlL X.K) := by
  intro pins s σ H x v vl vu lo hi sl Q I rx hs pl pu h
  obtain ⟨a, xs, rfl, hx, q⟩ := h
  cases rx
  obtain ⟨its, r, ht, hz⟩ := I.list hx
  have hlen := r.length
  refine ⟨"list", _, slot_list_getitem.lookup, ht.isList.typeIs, ?_⟩
  refine wpAny_getItem_list_slice ht.isList hs pl pu .none (by simp) ?_ (by rw [List.size_toArray] <;> omega)
  rw [slicePick_cut, ← hlen]
  refine ⟨.ref s.heap.objs.size, _, I.laid (t' := s.toks) (o := .lst (cutV xs lo hi)) (fun b ob q => Heap.get?_push_of_some _ q) (Nat.le_refl _) ?_, rfl, q _ (I.hok.fresh (Nat.le_refl _))⟩
  exact ⟨Nat.le_trans (cutV_length xs lo hi) hz, _, 0, (r.drop (HT.sIx xs.length 0 lo)).take (HT.sIx xs.length xs.length hi - HT.sIx xs.length 0 lo), Heap.get?_push_size _ rfl⟩

/-! ### in, not in: flat items -/
def flatV : V → Bool
  | .non => true
  | .bl _ => true
  | .int _ => true
  | .str _ => true
  | _ => false
/-- == of flat values -/
def eqV : V → V → Bool
  | .non, .non => true
  | .bl a, .bl b => a == b
  | .bl a, .int b => (if a then 1 else 0) == b
  | .int a, .bl b => a == (if b then 1 else 0)
  | .int a, .int b => a == b
  | .str a, .str b => a == b
  | _, _ => false
/-- the items' answers, read off the values (a value's own answer does not lean on its token) -/
def eqU (x : V) (u : Value) : Bool := match u with
  | .none => eqV .non x
  | .bool b => eqV (.bl b) x
  | .int i _ => eqV (.int i) x
  | .str z _ => eqV (.str z) x
  | _ => false
def inV (x : V) (xs : List V) : Bool := xs.any fun y => eqV y x
/-- x in a list or tuple of flat items -/
def rIn (K : PySem.W.Frag) (neg : Bool) : R2 := fun x y H Q => ∃ p xs, y = .ref p ∧ (SqL K H p xs ∨ SqT K H p xs) ∧ flatV x = true ∧ xs.all flatV = true ∧ Q (.bl (if neg then !inV x xs else inV x xs)) H

/-! ### len, list(x), tuple(x) of any list or tuple that is read -/
theorem call_len_seq : CallR X (.builtin "len") (fun xs H Q => ∃ p ys, xs = [.ref p] ∧ (SqL X.K H p ys ∨ SqT X.K H p ys) ∧ Q (.int ys.length) H) := by
  intro pins s σ H xs us Q I r h
  obtain ⟨p, ys, rfl, hq, q⟩ := h
  obtain ⟨u, rfl, rx⟩ := vals1 r
  cases rx
  have hn := line63
  rcases hq with hq | hq
  · obtain ⟨its, r', pl, hz⟩ := I.list hq
    have hlen := r'.length
    exact Calls.call_len_list pl.isList (by simp only [List.size_toArray] <;> omega) ⟨.int ys.length, H, I.tok _, ⟨s.toks + 1, by rw [List.size_toArray, hlen]⟩, q⟩
  · obtain ⟨its, r', pl, hz⟩ := I.tuple hq
    have hlen := r'.length
    exact len_tuple pl (by simp only [List.size_toArray] <;> omega) ⟨.int ys.length, H, I.tok _, ⟨s.toks + 1, by rw [List.size_toArray, hlen]⟩, q⟩
theorem call_list_of : CallR X (.type "list") (fun xs H Q => ∃ p ys, xs = [.ref p] ∧ (SqL X.K H p ys ∨ SqT X.K H p ys) ∧ ∀ l, H l = none → Q (.ref l) (upd H l (.lst ys))) := by
  intro pins s σ H xs us Q I r h
  obtain ⟨p, ys, rfl, hq, q⟩ := h
  obtain ⟨u, rfl, rx⟩ := vals1 r
  cases rx
  have fin : ∀ (its : List Value), Vals ys its → ys.length ≤ sizeLine → ∀ (h' : Heap) (c' : Nat), (∀ b o', s.heap.get? b = some o' → h'.get? b = some o') →
      h'.get? s.heap.objs.size = some { cls := .type "list", dict := none, data := .seq its.toArray c', slots := #[] } → EP X pins σ Q (.ref s.heap.objs.size) { s with heap := h' } := fun its r' hz h' c' kp e =>
    ⟨.ref s.heap.objs.size, _, I.laid (t' := s.toks) kp (Nat.le_refl _) (show ObjOk X.prog X.w _ h' _ (.lst ys) from ⟨hz, its, c', r', e⟩), rfl, q _ (I.hok.fresh (Nat.le_refl _))⟩
  rcases hq with hq | hq
  · obtain ⟨its, r', pl, hz⟩ := I.list hq
    have hlen := r'.length
    obtain ⟨o, ho, hc, n, hd⟩ := pl.isList
    exact call_list_seq p (.inl rfl) ho hc hd (fun h' c' kp e => fin its r' hz h' c' kp e) (by simp only [List.size_toArray] <;> omega)
  · obtain ⟨its, r', pl, hz⟩ := I.tuple hq
    have hlen := r'.length
    obtain ⟨o, ho, hc, n, hd⟩ := pl
    exact call_list_seq p (.inr rfl) ho hc hd (fun h' c' kp e => fin its r' hz h' c' kp e) (by simp only [List.size_toArray] <;> omega)

/-! ### the call of a builtin's method: o.m(..) -/
/-- the value is of that builtin type -/
def tyV (K : PySem.W.Frag) (T : String) (x : V) (H : Hp) : Prop := match x with
  | .str _ => T = "str"
  | .int _ => T = "int"
  | .ref p => (T = "list" ∧ ∃ xs, SqL K H p xs) ∨ (T = "tuple" ∧ ∃ o, K.lookup p = some o ∧ o.cls = .type "tuple" ∧ o.dict = none) ∨
      (T = "dict" ∧ ((∃ kvs, H p = some (.dK kvs)) ∨ ∃ kvs, H p = some (.dT kvs))) ∨ (T = "set" ∧ ∃ S n, H p = some (.set S n))
  | _ => False
theorem tyV_is {pins : List (Addr × Obj)} {σ : St} {H : Hp} {s : Shared} {T : String} {x : V} {v : Value} (I : Inv X pins σ H s) (r : RelV x v) (ty : tyV X.K T x H) :
    s.TypeIs v T ∧ ∀ a, v = .ref a → ∃ ob, s.heap.get? a = some ob ∧ ob.dict = none := by
  cases x with
  | str z =>
    obtain ⟨t, rfl⟩ := r
    cases (show T = "str" from ty)
    exact ⟨typeIs_str s z t, fun _ e => nomatch e⟩
  | int i =>
    obtain ⟨t, rfl⟩ := r
    cases (show T = "int" from ty)
    exact ⟨typeIs_int s i t, fun _ e => nomatch e⟩
  | ref p =>
    cases r
    rcases ty with ⟨rfl, xs, hq⟩ | ⟨rfl, o, hk, hc, hd⟩ | ⟨rfl, hk⟩ | ⟨rfl, S, n, hk⟩
    · obtain ⟨its, _, pl, _⟩ := I.list hq
      refine ⟨pl.isList.typeIs, fun a e => ?_⟩
      cases e
      obtain ⟨o, n, e, c, hd, _⟩ := pl
      exact ⟨o, e, hd⟩
    · refine ⟨⟨o, I.kIn p o hk, hc⟩, fun a e => ?_⟩
      cases e
      exact ⟨o, I.kIn _ o hk, hd⟩
    · have z : ∃ o, s.heap.get? p = some o ∧ o.ExactDict := by
        rcases hk with ⟨kvs, hk⟩ | ⟨kvs, hk⟩
        · obtain ⟨_, _, _, _, o, _, _, e, ex, _⟩ := I.hok p _ hk
          exact ⟨o, e, ex⟩
        · obtain ⟨_, _, _, _, o, _, _, e, ex, _⟩ := I.hok p _ hk
          exact ⟨o, e, ex⟩
      obtain ⟨o, e, ex⟩ := z
      refine ⟨⟨o, e, ex.1⟩, fun a e2 => ?_⟩
      cases e2
      exact ⟨o, e, ex.2.1⟩
    · obtain ⟨o, _, _, _, e, ex, _⟩ := I.hok p _ hk
      refine ⟨⟨o, e, ex.1⟩, fun a e2 => ?_⟩
      cases e2
      exact ⟨o, e, ex.2.1⟩
  | _ => exact False.elim ty
def tBM0 (K : PySem.W.Frag) (T : String) (r : V → List V → Hp → VK → Prop) (to : TE) : TE := fun σ H Q => to σ H fun x H1 => tyV K T x H1 ∧ r x [] H1 Q
def tBM (K : PySem.W.Frag) (T : String) (r : V → List V → Hp → VK → Prop) (to : TE) (t : TA) : TE := fun σ H Q => to σ H fun x H1 => tyV K T x H1 ∧ t σ H1 fun xs H2 => r x xs H2 Q
variable {o e : Expr} {es : List Expr} {to : TE} {t : TA} {name : Str} {apos cpos : Pos} {T id : String} {r : V → List V → Hp → VK → Prop}
theorem pe_bm (pa : PlainAttrs T) (slot : Slot T name id) (hty : typeOf (.builtin id) = pure (.type "method_descriptor")) (hm : MtR X id r) (ho : PE X o to) (ha : PA X (e :: es) t)
    (hbase : attributeBase o name X.env (eval o X.env) = eval o X.env := by rfl)
    (hfew : ((backTo cpos (starEach (e :: es) X.env)).all (fun x => !x.1) && (backToKw cpos (keywordEach [] X.env)).all (fun x => x.1.isSome)
      && decide ((e :: es).length + ([] : List Keyword).length + (if ([] : List Keyword).isEmpty then 0 else 1) < 30)) = true := by rfl)
    (hline : (apos.endLine == cpos.line) = true := by rfl) (hs : starEach (e :: es) X.env = (false, eval e X.env) :: starEach es X.env := by rfl) (hplain : (backTo cpos (starEach es X.env)).any (·.1) = false := by rfl) :
    PE X (.Call (.Attribute o name apos) (e :: es) [] cpos) (tBM X.K T r to t) := by
  intro pins s σ H Q I h
  refine wpAny_Call_method_late hbase hfew hline rfl (thn (ho pins s σ H _ I h) fun v s1 ⟨x, H1, I1, r1, ty, q1⟩ => ?_)
  obtain ⟨h1, h2⟩ := tyV_is I1 r1 ty
  refine ⟨T, id, pa, slot, hty, h1, h2, ?_⟩
  have hA := ha cpos pins s1 σ H1 _ I1 q1
  rw [hs] at hA ⊢
  refine Calls.callWith_builtin (by show (false || (backTo cpos (starEach es X.env)).any (·.1)) = false; rw [hplain] <;> rfl) (Calls.evalArgs_plain ?_)
  exact thn hA fun us s2 ⟨vs, H2, I2, r2, q2⟩ => hm pins s2 σ H2 x vs v us Q I2 r1 r2 q2
/- xs.append(e), list.index on a module's tuple .. are MtR facts of 06m -/
end
end L2

namespace L2
open PySem PySem.Spec PyProof.Rows

def MtM (X : Cx) (id : String) (r : V → List V → Hp → VK → Prop) : Prop :=
  ∀ (pins : List (Addr × Obj)) (s : Shared) (σ : St) (H : Hp) (x : V) (xs : List V) (v : Value) (us : List Value) (Q : VK), Inv X pins σ H s → RelV x v → Vals xs us → r x xs H Q →
    wpAny (model X.prog X.w) X.A (call (.builtin id) (v :: us)) (EP X pins σ Q) X.xe s

/-! ### lists of values -/
theorem Vals.one : ∀ {x : V} {us : List Value}, Vals [x] us → ∃ u, us = [u] ∧ RelV x u
  | _, _, .cons r .nil => ⟨_, rfl, r⟩
theorem Vals.rep {xs : List V} {us : List Value} (h : Vals xs us) : ∀ k : Nat, Vals (List.replicate k xs).flatten (List.replicate k us).flatten
  | 0 => .nil
  | k + 1 => by
    rw [List.replicate_succ, List.replicate_succ, List.flatten_cons, List.flatten_cons]
    exact Vals.append h (Vals.rep h k)
theorem foldl_rep (its : List Value) : ∀ (k : Nat) (acc : List Value),
    List.foldl (fun x1 x2 => x1 ++ x2) acc.toArray (List.replicate k its.toArray) = (acc ++ (List.replicate k its).flatten).toArray
  | 0, acc => by simp
  | k + 1, acc => by
    have e : acc.toArray ++ its.toArray = (acc ++ its).toArray := by simp
    have e2 : (acc ++ its) ++ (List.replicate k its).flatten = acc ++ (List.replicate (k + 1) its).flatten := by
      rw [List.replicate_succ, List.flatten_cons, List.append_assoc]
    rw [← e2, ← foldl_rep its k (acc ++ its), ← e, List.replicate_succ, List.foldl_cons]

section
variable {X : Cx} {pins : List (Addr × Obj)} {σ : St} {H : Hp} {s : Shared} {l b : Addr} {xs ys zs : List V}

/-! ### the two steps: a tracked list is rewritten, a new list is laid -/
theorem Inv.lset {its its' : List Value} {n : Nat} {f : Array Value → Array Value} {t' : Nat} (I : Inv X pins σ H s) (hH : H l = some (.lst xs))
    (e : s.heap.get? l = some { cls := .type "list", data := .seq its.toArray n }) (hf : f its.toArray = its'.toArray) (hv : Vals ys its') (hz : ys.length ≤ sizeLine) :
    Inv X pins σ (upd H l (.lst ys)) { s with heap := s.heap.update l (Obj.mapSeq f), toks := t' } := by
  have q := PySem.IsL.update e f
  rw [hf] at q
  refine I.write (x := l) (e := l) (by rw [hH]; exact trivial) (.inl rfl) (fun b' u hb hu => (Heap.get?_update_other s.heap (Obj.mapSeq f) (Ne.symm hb)).trans hu) ⟨_, q⟩ ?_
  exact ⟨hz, its', _, hv, q⟩
theorem Inv.lnew {its : List Value} {t' : Nat} (I : Inv X pins σ H s) (hv : Vals ys its) (hz : ys.length ≤ sizeLine) :
    Inv X pins σ (upd H s.heap.objs.size (.lst ys)) { s with heap := s.heap.push { cls := .type "list", data := .seq its.toArray }, toks := t' } :=
  I.laid (fun _ _ q => Heap.get?_push_of_some _ q) (Nat.le_refl _) ⟨hz, its, 0, hv, Heap.get?_push_size _ rfl⟩
theorem Inv.fresh (I : Inv X pins σ H s) : H s.heap.objs.size = none := I.hok.fresh (Nat.le_refl _)
theorem Inv.lstM (I : Inv X pins σ H s) (hH : H l = some (.lst xs)) : xs.length ≤ sizeLine ∧ ∃ (its : List Value) (n : Nat), Vals xs its ∧ xs.length = its.length ∧ s.heap.get? l = some { cls := .type "list", data := .seq its.toArray n } := by
  obtain ⟨z, its, n, r, e⟩ := I.hok l _ hH
  exact ⟨z, its, n, r, r.length, e⟩

theorem notLongL {n : Nat} (h : n ≤ sizeLine) : Builtin.List.listTooLong n = false := by
  unfold Builtin.List.listTooLong
  exact decide_eq_false (by omega)
end

section
variable {X : Cx}

/-! ### methods -/
def rAppend : V → List V → Hp → VK → Prop := fun x vs H Q => ∃ l xs y, x = .ref l ∧ vs = [y] ∧ H l = some (.lst xs) ∧ xs.length < sizeLine ∧ Q .non (upd H l (.lst (xs ++ [y])))
theorem mt_append : MtM X "list.append" rAppend := by
  intro pins s σ H x vs v us Q I rx rv h
  obtain ⟨l, xs, y, rfl, rfl, hH, hz, q⟩ := h
  cases rx
  obtain ⟨u, rfl, ru⟩ := rv.one
  obtain ⟨z, its, n, r, hl, e⟩ := I.lstM hH
  refine call_meets F.slot_list_append ⟨_, e, rfl⟩ F.entry_list_append (F.args_list_append_2 _ _) (PySem.list_append l its.toArray n u (by rw [List.size_toArray]; omega)) ⟨e, ?_⟩
  refine ⟨.non, _, I.lset (its' := its ++ [u]) hH e (by simp) (r.append (.cons ru .nil)) ?_, rfl, q⟩
  rw [List.length_append, List.length_singleton]
  omega

def rExtend : V → List V → Hp → VK → Prop := fun x vs H Q => ∃ l b xs zs, x = .ref l ∧ vs = [.ref b] ∧ H l = some (.lst xs) ∧ H b = some (.lst zs) ∧ xs.length + zs.length ≤ sizeLine ∧ Q .non (upd H l (.lst (xs ++ zs)))
theorem mt_extend : MtM X "list.extend" rExtend := by
  intro pins s σ H x vs v us Q I rx rv h
  obtain ⟨l, b, xs, zs, rfl, rfl, hH, hB, hz, q⟩ := h
  cases rx
  obtain ⟨u, rfl, ru⟩ := rv.one
  cases ru
  obtain ⟨z, its, n, r, hl, e⟩ := I.lstM hH
  obtain ⟨z2, its2, n2, r2, hl2, e2⟩ := I.lstM hB
  have hsz : its.toArray.size + its2.toArray.size ≤ sizeLine := by rw [List.size_toArray, List.size_toArray]; omega
  have hlong : ¬ (!its.toArray.isEmpty && Builtin.List.listTooLong (its.toArray.size + its2.toArray.size)) = true := by
    rw [notLongL hsz, Bool.and_false]
    exact Bool.false_ne_true
  refine call_meets F.slot_list_extend ⟨_, e, rfl⟩ F.entry_list_extend (F.args_list_extend_2 _ _)
    (AutoSeq1.list_extend_list_list_0 l its.toArray n b its2.toArray n2 hlong (by rw [List.size_toArray]; omega) (by omega)) ⟨e, e2, ?_⟩
  refine ⟨.non, _, I.lset (its' := its ++ its2) hH e (by simp) (r.append r2) ?_, rfl, q⟩
  rw [List.length_append]
  omega

def rPop : V → List V → Hp → VK → Prop := fun x vs H Q => ∃ l xs y, x = .ref l ∧ vs = [] ∧ H l = some (.lst xs) ∧ xs[xs.length - 1]? = some y ∧ Q y (upd H l (.lst xs.dropLast))

def rPopAt : V → List V → Hp → VK → Prop := fun x vs H Q => ∃ l xs i k y, x = .ref l ∧ vs = [.int i] ∧ H l = some (.lst xs) ∧ -(2 ^ 63) ≤ i ∧ i < 2 ^ 63 ∧ seqIndex? i xs.length = some k ∧ xs[k]? = some y ∧ Q y (upd H l (.lst (xs.eraseIdx k)))

def rReverse : V → List V → Hp → VK → Prop := fun x vs H Q => ∃ l xs, x = .ref l ∧ vs = [] ∧ H l = some (.lst xs) ∧ Q .non (upd H l (.lst xs.reverse))

def rClear : V → List V → Hp → VK → Prop := fun x vs H Q => ∃ l xs, x = .ref l ∧ vs = [] ∧ H l = some (.lst xs) ∧ Q .non (upd H l (.lst []))

/-! ### list + list, list += list, list * int -/
def rCat : R2 := fun x y H Q => ∃ l b xs zs, x = .ref l ∧ y = .ref b ∧ H l = some (.lst xs) ∧ H b = some (.lst zs) ∧ xs.length + zs.length ≤ sizeLine ∧ ∀ p, H p = none → Q (.ref p) (upd H p (.lst (xs ++ zs)))
theorem op_cat : OpR X (binaryOp .Add) rCat := by
  intro pins s σ H x y v u Q I rx ry h
  obtain ⟨l, b, xs, zs, rfl, rfl, hH, hB, hz, q⟩ := h
  cases rx
  cases ry
  obtain ⟨z, its, n, r, hl, e⟩ := I.lstM hH
  obtain ⟨z2, its2, n2, r2, hl2, e2⟩ := I.lstM hB
  refine PySem.P.add_list e e2 ?_ (by rw [List.size_toArray, List.size_toArray]; omega)
  have ea : its.toArray ++ its2.toArray = (its ++ its2).toArray := by simp
  rw [ea]
  exact ⟨.ref _, _, I.lnew (t' := s.toks) (r.append r2) (by rw [List.length_append]; omega), rfl, q _ I.fresh⟩
/-- a list times an int (a negative one is nothing) -/
def rRep : R2 := fun x y H Q => ∃ l k xs, x = .ref l ∧ y = .int k ∧ H l = some (.lst xs) ∧ -(2 ^ 63) ≤ k ∧ k < 2 ^ 63 ∧ xs.length * k.toNat ≤ sizeLine ∧
  ∀ p, H p = none → Q (.ref p) (upd H p (.lst (List.replicate k.toNat xs).flatten))
theorem len_rep {α : Type} (xs : List α) (k : Nat) : (List.replicate k xs).flatten.length = k * xs.length := by
  induction k with
  | zero => simp
  | succ k ih => rw [List.replicate_succ, List.flatten_cons, List.length_append, ih, Nat.succ_mul, Nat.add_comm]
theorem op_rep : OpR X (binaryOp .Mult) rRep := by
  intro pins s σ H x y v u Q I rx ry h
  obtain ⟨l, k, xs, rfl, rfl, hH, h1, h2, hz, q⟩ := h
  cases rx
  obtain ⟨t, rfl⟩ := ry
  obtain ⟨z, its, n, r, hl, e⟩ := I.lstM hH
  have hlen : its.toArray.size * k.toNat ≤ sizeLine := by rw [List.size_toArray, ← hl]; exact hz
  have hcap : ¬ its.toArray.size * k.toNat > (2 ^ 63 - 1) / 8 := by
    have : (sizeLine : Nat) ≤ (2 ^ 63 - 1) / 8 := by decide
    omega
  have hfit : ¬ (!Builtin.List.listFitsIndex k) = true := by
    rw [fitsIndex_both h1 h2]
    exact Bool.false_ne_true
  have hlong : ¬ Builtin.List.listTooLong (its.toArray.size * k.toNat) = true := by
    rw [notLongL hlen]
    exact Bool.false_ne_true
  have hnew : List.foldl (fun x1 x2 => x1 ++ x2) #[] (List.replicate (if its.toArray.isEmpty = true then 0 else k.toNat) its.toArray) = (List.replicate k.toNat its).flatten.toArray := by
    have f0 : ∀ m : Nat, List.foldl (fun x1 x2 => x1 ++ x2) #[] (List.replicate m its.toArray) = (List.replicate m its).flatten.toArray := fun m => by
      have := foldl_rep its m []
      rw [List.nil_append] at this
      exact this
    rw [f0]
    cases its with
    | nil => simp
    | cons a r' => rw [if_neg (by simp)]
  refine wpAny_binaryOp_repeat_ref (T := "list") (U := "int") (by decide) ⟨_, e, rfl⟩ (fun s' => typeIs_int s' k t) noFill_list_mul F.fills_int_mul F.slot_int_rmul repeat_list F.slot_int_index.lookup
    (call_meets F.slot_int_rmul (typeIs_int s k t) F.entry_int_rmul (F.args_int_rmul_2 _ _) (int___rmul___int_list k t l its.toArray n)
      ⟨e, rfl, ⟨_, e, rfl⟩, call_meets F.slot_list_mul ⟨_, e, rfl⟩ F.entry_list_mul (F.args_list_mul_2 _ _) (AutoListH.list___mul___list_int_3 l its.toArray n k t hfit hcap hlong) ⟨e, ?_⟩⟩)
  rw [hnew]
  exact ⟨.ref _, _, I.lnew (t' := s.toks) (r.rep k.toNat) (by rw [len_rep, Nat.mul_comm]; exact hz), rfl, q _ I.fresh⟩

/-! ### del xs[i] -/
end

/-! ### xs[a:b] = ys -/
section
variable {prog : Program} {w : World} {A : Around} {E : Value → Shared → Prop} {s : Shared}
set_option maxRecDepth 100000 in
end

section
variable {X : Cx}
end
end L2

namespace L2
open PySem PySem.Spec PyProof.Rows


/-! ### the library's walks over a list of ints, kept objects alone -/
section
variable {prog : Program} {w : World} {A : Around} {E : Value → Shared → Prop} {s : Shared} {l : Addr} {its : List Value} {ns : List Int} {Q : Value → Shared → Prop}
end

/-! ### the calls, by values (CallR of 03t; MtR of 06l) -/
section
variable {X : Cx}
/-- sum(xs) of a list of ints -/
def rSum (K : PySem.W.Frag) : List V → Hp → VK → Prop := fun vs H Q => ∃ (a : Addr) (ns : List Int), vs = [V.ref a] ∧ SqL K H a (ns.map V.int) ∧ Q (.int ns.sum) H
/-- max(xs), min(xs) of a list of ints -/
def rMax (K : PySem.W.Frag) : List V → Hp → VK → Prop := fun vs H Q => ∃ (a : Addr) (ns : List Int), vs = [V.ref a] ∧ SqL K H a (ns.map V.int) ∧ 0 < ns.length ∧ ∀ m, m ∈ ns → (∀ y, y ∈ ns → y ≤ m) → Q (.int m) H
def rMin (K : PySem.W.Frag) : List V → Hp → VK → Prop := fun vs H Q => ∃ (a : Addr) (ns : List Int), vs = [V.ref a] ∧ SqL K H a (ns.map V.int) ∧ 0 < ns.length ∧ ∀ m, m ∈ ns → (∀ y, y ∈ ns → m ≤ y) → Q (.int m) H

/-! sorted, sort (fewer than 64 items: the library's own bound) -/
def rSorted (K : PySem.W.Frag) : List V → Hp → VK → Prop := fun vs H Q => ∃ (a : Addr) (ns : List Int), vs = [V.ref a] ∧ SqL K H a (ns.map V.int) ∧ ns.length < 64 ∧
  ∀ (ns' : List Int) (p : Addr), ns'.Perm ns → ns'.Pairwise (· ≤ ·) → H p = none → Q (.ref p) (upd H p (.lst (ns'.map V.int)))
def rSortedS (K : PySem.W.Frag) : List V → Hp → VK → Prop := fun vs H Q => ∃ (a : Addr) (xs : List Str), vs = [V.ref a] ∧ SqL K H a (xs.map V.str) ∧ xs.length < 64 ∧
  ∀ (ys : List Str) (p : Addr), ys.Perm xs → sortedS ys = true → H p = none → Q (.ref p) (upd H p (.lst (ys.map V.str)))
/-- xs.sort(), ints -/
def rSort : V → List V → Hp → VK → Prop := fun x xs H Q => ∃ (a : Addr) (ns : List Int), x = V.ref a ∧ xs = [] ∧ H a = some (.lst (ns.map V.int)) ∧ ns.length < 64 ∧
  ∀ ns' : List Int, ns'.Perm ns → ns'.Pairwise (· ≤ ·) → Q .non (upd H a (.lst (ns'.map V.int)))
end

/-! ### list.index, flat items -/
section
variable {X : Cx}
def rIndex (K : PySem.W.Frag) : V → List V → Hp → VK → Prop := fun x xs H Q => ∃ (a : Addr) (ys : List V) (y : V) (j : Nat) (z : V), x = V.ref a ∧ xs = [y] ∧ SqL K H a ys ∧ flatV y = true ∧ ys.all flatV = true ∧ ys[j]? = some z ∧ eqV z y = true ∧
  (∀ (m : Nat) (z' : V), m < j → ys[m]? = some z' → eqV z' y = false) ∧ Q (.int (j : Nat)) H
end

/-! ### type(x) of an own instance; is, is not of a module's class -/
section
variable {X : Cx}
end

/-! ### any(xs), all(xs) of a list of bools -/
section
variable {X : Cx}
def rAny (K : PySem.W.Frag) : List V → Hp → VK → Prop := fun vs H Q => ∃ (a : Addr) (bs : List Bool), vs = [V.ref a] ∧ SqL K H a (bs.map V.bl) ∧ Q (.bl (bs.any id)) H
def rAll (K : PySem.W.Frag) : List V → Hp → VK → Prop := fun vs H Q => ∃ (a : Addr) (bs : List Bool), vs = [V.ref a] ∧ SqL K H a (bs.map V.bl) ∧ Q (.bl (bs.all id)) H
end

/-! ### == and != of data at any depth: none, bools, ints, texts, lists, tuples -/
mutual
inductive Dp (K : PySem.W.Frag) (H : Hp) : V → PyData → Prop
  | non : Dp K H .non .none
  | bl (b : Bool) : Dp K H (.bl b) (.bool b)
  | int (i : Int) : Dp K H (.int i) (.int i)
  | str (x : Str) : Dp K H (.str x) (.str x)
  | lst {a : Addr} {xs : List V} {ds : List PyData} : SqL K H a xs → DpAll K H xs ds → Dp K H (.ref a) (.list ds)
  | tup {a : Addr} {xs : List V} {ds : List PyData} : SqT K H a xs → DpAll K H xs ds → Dp K H (.ref a) (.tuple ds)
inductive DpAll (K : PySem.W.Frag) (H : Hp) : List V → List PyData → Prop
  | nil : DpAll K H [] []
  | cons {v : V} {vs : List V} {d : PyData} {ds : List PyData} : Dp K H v d → DpAll K H vs ds → DpAll K H (v :: vs) (d :: ds)
end
section
variable {X : Cx} {pins : List (Addr × Obj)} {σ : St} {H : Hp} {s : Shared}
mutual
theorem Dp.reads (I : Inv X pins σ H s) : ∀ (d : PyData) (v : V) (u : Value), Dp X.K H v d → RelV v u → ∃ as, Reads s.heap u d as
  | .none, _, _, h, r => by
    cases h
    cases r
    exact ⟨_, Reads.none⟩
  | .bool b, _, _, h, r => by
    cases h
    cases r
    exact ⟨_, Reads.bool b⟩
  | .int i, _, _, h, r => by
    cases h
    obtain ⟨t, rfl⟩ := r
    exact ⟨_, Reads.int i t⟩
  | .str x, _, _, h, r => by
    cases h
    obtain ⟨t, rfl⟩ := r
    exact ⟨_, Reads.str x t⟩
  | .list ds, _, _, h, r => by
    cases h with
    | lst hs ha =>
      cases r
      obtain ⟨its, rv, ⟨o, n, ho, hc, _, hd⟩, _⟩ := I.list hs
      obtain ⟨as, hr⟩ := Dp.readsAll I ds _ its ha rv
      exact ⟨_, Reads.list ho hc hd hr⟩
  | .tuple ds, _, _, h, r => by
    cases h with
    | tup hs ha =>
      cases r
      obtain ⟨its, rv, ⟨o, ho, hc, n, hd⟩, _⟩ := I.tuple hs
      obtain ⟨as, hr⟩ := Dp.readsAll I ds _ its ha rv
      exact ⟨_, Reads.tuple ho hc hd hr⟩
  | .dict _, _, _, h, _ => by cases h
theorem Dp.readsAll (I : Inv X pins σ H s) : ∀ (ds : List PyData) (vs : List V) (us : List Value), DpAll X.K H vs ds → Vals vs us → ∃ as, ReadsAll s.heap us ds as
  | [], _, _, h, r => by
    cases h
    cases r
    exact ⟨_, ReadsAll.nil⟩
  | d :: ds, _, _, h, r => by
    cases h with
    | cons h1 h2 =>
      cases r with
      | cons r1 r2 =>
        obtain ⟨as, q1⟩ := Dp.reads I d _ _ h1 r1
        obtain ⟨bs, q2⟩ := Dp.readsAll I ds _ _ h2 r2
        exact ⟨_, ReadsAll.cons q1 q2⟩
end
end
section
variable {X : Cx}
def rEqD (K : PySem.W.Frag) : R2 := fun x y H Q => ∃ d e, Dp K H x d ∧ Dp K H y e ∧ SeqAt.shaped d = true ∧ SeqAt.shaped e = true ∧ Q (.bl (PyData.eqv d e)) H
def rNeD (K : PySem.W.Frag) : R2 := fun x y H Q => ∃ d e, Dp K H x d ∧ Dp K H y e ∧ SeqAt.shaped d = true ∧ SeqAt.shaped e = true ∧ Q (.bl (!PyData.eqv d e)) H
theorem op_neD (hu : X.A.units + 64 < cLine) : OpR X (compareOp .NotEq) (rNeD X.K) := by
  intro pins s σ H x y v u Q I rx ry h
  obtain ⟨d, e, hd, he, sd, se, q⟩ := h
  obtain ⟨as, r1⟩ := Dp.reads I d x v hd rx
  obtain ⟨bs, r2⟩ := Dp.reads I e y u he ry
  exact SeqAt.compareNe_shaped r1 r2 sd se hu ⟨.bl _, H, I, rfl, q⟩
end
end L2

namespace L2
open PySem PySem.Spec PyProof.Rows
abbrev CellAt (h : Heap) (c : Addr) (v : Option Value) : Prop := h.IsCell c v
def relS (scope sc : Scope) : Scope :=
  { scope with names := scope.names.map fun (n, k) => if (k == .free && sc.kind == .function && sc.names.lookup n == some .cell) then (n, .cell) else (n, k) }

def cloFrom (cells : List (Str × Addr)) : List (Str × NameKind) → List (Str × Addr) → List (Str × Addr)
  | [], acc => acc
  | (n, k) :: r, acc => if k == .free then cloFrom cells r ((n, (cells.lookup n).getD 0) :: acc) else cloFrom cells r acc

theorem closure_loop (env : Env) (f : Str × NameKind → List (Str × Addr) → Sem (ForInStep (List (Str × Addr))))
    (hf : ∀ n k c, f (n, k) c = if k == .free then (do let a ← cellOf env n; pure (.yield ((n, a) :: c))) else pure (.yield c)) :
    ∀ (names : List (Str × NameKind)) (acc : List (Str × Addr)), (∀ y ∈ names, y.2 = .free → ∃ c, env.cells.lookup y.1 = some c) → forIn names acc f = pure (cloFrom env.cells names acc)
  | [], acc, _ => by rw [List.forIn_nil]; rfl
  | (n, k) :: r, acc, h => by
    rw [List.forIn_cons, hf]
    have ih := fun acc => closure_loop env f hf r acc fun y hy => h y (List.mem_cons_of_mem _ hy)
    unfold cloFrom
    by_cases hk : (k == NameKind.free) = true
    · rw [if_pos hk, if_pos hk]
      obtain ⟨c, hc⟩ := h (n, k) List.mem_cons_self (by simpa using hk)
      have e : cellOf env n = pure c := by unfold cellOf; rw [hc]
      rw [e]
      have e2 : (env.cells.lookup n).getD 0 = c := by rw [hc]; rfl
      rw [e2]
      exact ih _
    · rw [if_neg hk, if_neg hk]
      exact ih _
theorem closure_ok {scope : Scope} {env : Env} (h : ∀ y ∈ scope.names, y.2 = .free → ∃ c, env.cells.lookup y.1 = some c) : closureFor scope env = pure (cloFrom env.cells scope.names []) := by
  simp only [closureFor]
  rw [closure_loop env _ (fun n k c => rfl) scope.names [] h]
  rfl

theorem mem_lookup {α : Type} : ∀ {l : List (Str × α)} {n : Str} {c : α}, (n, c) ∈ l → ∃ c', l.lookup n = some c'
  | (k, v) :: r, n, c, h => by
    rw [List.lookup_cons]
    cases hb : n == k with
    | true => exact ⟨_, rfl⟩
    | false =>
      rcases List.mem_cons.mp h with e | h
      · cases e; simp at hb
      · exact mem_lookup h

theorem cloFrom_mem {cells : List (Str × Addr)} : ∀ {names : List (Str × NameKind)} {acc : List (Str × Addr)} {n : Str} {c : Addr}, (n, c) ∈ cloFrom cells names acc → (n, c) ∈ acc ∨ ((n, .free) ∈ names ∧ c = (cells.lookup n).getD 0)
  | [], _, _, _, h => .inl h
  | (m, k) :: r, acc, n, c, h => by
    unfold cloFrom at h
    split at h
    · rename_i hk
      have hk : k = .free := by simpa using hk
      rcases cloFrom_mem h with h | ⟨h1, h2⟩
      · rcases List.mem_cons.mp h with e | h
        · cases e; exact .inr ⟨hk ▸ List.mem_cons_self, rfl⟩
        · exact .inl h
      · exact .inr ⟨List.mem_cons_of_mem _ h1, h2⟩
    · rcases cloFrom_mem h with h | ⟨h1, h2⟩
      · exact .inl h
      · exact .inr ⟨List.mem_cons_of_mem _ h1, h2⟩
theorem cloFrom_acc {cells : List (Str × Addr)} : ∀ {names : List (Str × NameKind)} {acc : List (Str × Addr)} {p : Str × Addr}, p ∈ acc → p ∈ cloFrom cells names acc
  | [], _, _, h => h
  | (m, k) :: r, acc, p, h => by
    unfold cloFrom
    split
    · exact cloFrom_acc (List.mem_cons_of_mem _ h)
    · exact cloFrom_acc h
theorem cloFrom_has {cells : List (Str × Addr)} : ∀ {names : List (Str × NameKind)} {acc : List (Str × Addr)} {n : Str}, (n, .free) ∈ names → (n, (cells.lookup n).getD 0) ∈ cloFrom cells names acc
  | (m, k) :: r, acc, n, h => by
    unfold cloFrom
    rcases List.mem_cons.mp h with e | h
    · cases e
      exact cloFrom_acc List.mem_cons_self
    · split
      · exact cloFrom_has h
      · exact cloFrom_has h

theorem cells_mem : ∀ {names : List (Str × NameKind)} {h : Heap} {acc : List (Str × Addr)} {x : Str} {c : Addr}, (x, c) ∈ cellsFrom h.objs.size names acc →
    (x, c) ∈ acc ∨ ((x, .cell) ∈ names ∧ h.objs.size ≤ c ∧ CellAt (pushCells h names) c none)
  | [], _, _, _, _, h => .inl h
  | (n, k) :: r, h, acc, x, c, hm => by
    unfold cellsFrom at hm
    unfold pushCells
    split at hm
    · rename_i hk
      rw [if_pos hk]
      have hk : k = .cell := by simpa using hk
      rw [← Heap.size_push h { cls := .type "cell", data := .cell none }] at hm
      rcases cells_mem hm with hm | ⟨h1, h2, h3⟩
      · rcases List.mem_cons.mp hm with e | hm
        · cases e
          exact .inr ⟨hk ▸ List.mem_cons_self, Nat.le_refl _, _, pushCells_keeps r _ _ _ (Heap.get?_push_size _ rfl), rfl⟩
        · exact .inl hm
      · rw [Heap.size_push] at h2
        exact .inr ⟨List.mem_cons_of_mem _ h1, Nat.le_of_succ_le h2, h3⟩
    · rename_i hk
      rw [if_neg hk]
      rcases cells_mem hm with hm | ⟨h1, h2, h3⟩
      · exact .inl hm
      · exact .inr ⟨List.mem_cons_of_mem _ h1, h2, h3⟩
theorem cells_acc : ∀ {names : List (Str × NameKind)} {n : Nat} {acc : List (Str × Addr)} {p : Str × Addr}, p ∈ acc → p ∈ cellsFrom n names acc
  | [], _, _, _, h => h
  | (m, k) :: r, n, acc, p, h => by
    unfold cellsFrom
    split
    · exact cells_acc (List.mem_cons_of_mem _ h)
    · exact cells_acc h
theorem cells_has : ∀ {names : List (Str × NameKind)} {n : Nat} {acc : List (Str × Addr)} {x : Str}, (x, .cell) ∈ names → ∃ c, (x, c) ∈ cellsFrom n names acc
  | (m, k) :: r, n, acc, x, h => by
    unfold cellsFrom
    rcases List.mem_cons.mp h with e | h
    · cases e
      exact ⟨n, cells_acc List.mem_cons_self⟩
    · split
      · exact cells_has h
      · exact cells_has h
theorem cells_inj : ∀ {names : List (Str × NameKind)} {h : Heap} {acc : List (Str × Addr)} {x y : Str} {c : Addr}, (∀ p ∈ acc, p.2 < h.objs.size) → (∀ x y c, (x, c) ∈ acc → (y, c) ∈ acc → x = y) →
    (x, c) ∈ cellsFrom h.objs.size names acc → (y, c) ∈ cellsFrom h.objs.size names acc → x = y
  | [], _, _, _, _, _, _, hi, h1, h2 => hi _ _ _ h1 h2
  | (n, k) :: r, h, acc, x, y, c, hl, hi, h1, h2 => by
    unfold cellsFrom at h1 h2
    split at h1
    · rename_i hk
      rw [if_pos hk] at h2
      rw [← Heap.size_push h { cls := .type "cell", data := .cell none }] at h1 h2
      refine cells_inj (h := h.push _) (fun p hp => ?_) (fun x y c a b => ?_) h1 h2
      · rw [Heap.size_push]
        rcases List.mem_cons.mp hp with rfl | hp
        · exact Nat.lt_succ_self _
        · exact Nat.lt_succ_of_lt (hl p hp)
      · rcases List.mem_cons.mp a with e | a <;> rcases List.mem_cons.mp b with e' | b
        · cases e; cases e'; rfl
        · cases e; exact absurd (hl _ b) (Nat.lt_irrefl _)
        · cases e'; exact absurd (hl _ a) (Nat.lt_irrefl _)
        · exact hi _ _ _ a b
    · rename_i hk
      rw [if_neg hk] at h2
      exact cells_inj hl hi h1 h2

theorem newEnv_comp {M : Model} {A : Around} {E : Value → Shared → Prop} {s : Shared} {scope : Scope} {globals : Addr} {closure : List (Str × Addr)} {qual : Str} {func : Option Addr} {code : Value} {around : Env} {builtins : Addr} {Q : Env → Shared → Prop}
    (h : Q (newEnv scope s.heap.objs.size globals (cellsFrom (s.heap.objs.size + 1) scope.names closure) qual func code (some around) builtins)
      { s with heap := pushCells (s.heap.push { cls := .type "dict", data := .dict #[] }) scope.names }) :
    wpAny M A (newFunctionEnv scope globals closure [] qual func code (some around) builtins) Q E s := by
  simp only [newFunctionEnv, Option.isSome_some, if_true]
  refine wpAny_bind (wpAny_alloc ?_)
  refine wpAny_bind (wpAny_layCells _ (fun n k c => rfl) scope.names closure _ _ ?_)
  rw [show ({ s with heap := s.heap.push { cls := .type "dict", data := .dict #[] } } : Shared).heap.objs.size = s.heap.objs.size + 1 from Heap.size_push ..]
  rw [List.forIn_nil]
  exact wpAny_bind (wpAny_pure (wpAny_pure h))

/-- every name of the written scope, in the scope that runs -/
theorem lookup_relS {sc : Scope} : ∀ {names : List (Str × NameKind)} {x : Str} {k : NameKind},
    (names.map fun (n, k) => if (k == NameKind.free && sc.kind == .function && sc.names.lookup n == some .cell) then (n, NameKind.cell) else (n, k)).lookup x = some k →
    ∃ k', names.lookup x = some k' ∧ (k = k' ∨ (k' = .free ∧ k = .cell))
  | [], _, _, h => by simp at h
  | (n, k₀) :: r, x, k, h => by
    have ih := @lookup_relS sc r x k
    have h' : List.lookup x ((if (k₀ == NameKind.free && sc.kind == .function && sc.names.lookup n == some .cell) = true then (n, NameKind.cell) else (n, k₀)) :: (r.map _)) = some k := h
    cases hx : x == n with
    | true =>
      simp only [List.lookup_cons, hx]
      by_cases hc : (k₀ == NameKind.free && sc.kind == .function && sc.names.lookup n == some .cell) = true
      · rw [if_pos hc] at h'
        simp only [List.lookup_cons, hx] at h'
        cases h'
        simp only [Bool.and_eq_true, beq_iff_eq] at hc
        exact ⟨k₀, rfl, .inr ⟨hc.1.1, rfl⟩⟩
      · rw [if_neg hc] at h'
        simp only [List.lookup_cons, hx] at h'
        cases h'
        exact ⟨_, rfl, .inl rfl⟩
    | false =>
      simp only [List.lookup_cons, hx]
      by_cases hc : (k₀ == NameKind.free && sc.kind == .function && sc.names.lookup n == some .cell) = true
      · rw [if_pos hc] at h'
        simp only [List.lookup_cons, hx] at h'
        exact ih h'
      · rw [if_neg hc] at h'
        simp only [List.lookup_cons, hx] at h'
        exact ih h'



/-- the names of a comprehension's block: its own (with their places in N), or captured -/
structure BlkOk (N : List Str) (sc scope : Scope) (own : List (Str × Nat)) : Prop where
  kind : scope.kind = .function
  uniq : ∀ y ∈ scope.names, scope.names.lookup y.1 = some y.2
  ix : ∀ p ∈ own, N[p.2]? = some p.1
  free : ∀ y ∈ scope.names, y.2 = .free → sc.names.lookup y.1 = some .cell ∨ sc.names.lookup y.1 = some .free
  own : ∀ y ∈ scope.names, y.2 = .local ∨ y.2 = .cell → y.1 ∈ own.map (·.1) ∨ y.1 ∉ N
/-- the slots of the block's own names forgotten -/
def wipe (σ : St) : List Nat → St
  | [] => σ
  | v :: vs => (wipe σ vs).set v none
theorem wipe_length (σ : St) : ∀ vs : List Nat, (wipe σ vs).length = σ.length
  | [] => rfl
  | v :: vs => by unfold wipe; rw [List.length_set, wipe_length σ vs]
theorem wipe_some {σ : St} {i : Nat} {x : V} : ∀ {vs : List Nat}, (wipe σ vs)[i]? = some (some x) → σ[i]? = some (some x) ∧ i ∉ vs
  | [], h => ⟨h, by simp⟩
  | v :: vs, h => by
    unfold wipe at h
    by_cases hi : v = i
    · subst hi
      by_cases hv : v < (wipe σ vs).length
      · rw [List.getElem?_set_self hv] at h; cases h
      · rw [List.getElem?_eq_none (by simpa using hv)] at h; cases h
    · rw [List.getElem?_set_ne hi] at h
      obtain ⟨h1, h2⟩ := wipe_some h
      exact ⟨h1, by simp only [List.mem_cons, not_or]; exact ⟨fun e => hi e.symm, h2⟩⟩

/-- the context of a block that starts at s, its iterator's objects at fp -/
abbrev Cx.blk (X : Cx) (s : Shared) (H : Hp) (scope : Scope) (cenv : Env) (fp : List Addr) : Cx := { X with s_0 := s, H_0 := H, env := cenv, outer := X.stack, ex := fp, fn := fun x => scope.names.lookup x == some .cell, pn := [], xe := fun _ _ => False }
section
variable {X : Cx} {pins : List (Addr × Obj)} {σ : St} {H : Hp} {s : Shared}
theorem block_start {scope : Scope} {own : List (Str × Nat)} {fp : List Addr} (I : Inv X pins σ H s) (ok : BlkOk X.N X.env.scope scope own) (hN : X.N.Nodup) (hfp : ∀ b ∈ fp, FpOk X pins H b ∧ b < s.heap.objs.size) :
    Inv (X.blk s H scope (compEnvC scope (cellsFrom (s.heap.objs.size + 1) scope.names (cloFrom X.env.cells scope.names [])) s.heap.objs.size X.env) fp) [] (wipe σ (own.map (·.2))) H { s with heap := pushCells (s.heap.push { cls := .type "dict", data := .dict #[] }) scope.names } := by
  have hfree : ∀ y ∈ scope.names, y.2 = .free → ∃ c, X.env.cells.lookup y.1 = some c := fun y hy e => by
    rcases ok.free y hy e with k | k
    · exact I.ok.has _ (.inl k)
    · exact I.ok.has _ (.inr k)
  generalize hcenv : compEnvC scope (cellsFrom (s.heap.objs.size + 1) scope.names (cloFrom X.env.cells scope.names [])) s.heap.objs.size X.env = cenv
  have kp : ∀ b o, s.heap.get? b = some o → (pushCells (s.heap.push { cls := .type "dict", data := .dict #[] }) scope.names).get? b = some o := fun b o e => pushCells_keeps _ _ _ _ (Heap.get?_push_of_some _ e)
  have hL : cenv.locals = s.heap.objs.size := by rw [← hcenv]; rfl
  have hcl : cenv.cells = cellsFrom (s.heap.objs.size + 1) scope.names (cloFrom X.env.cells scope.names []) := by rw [← hcenv]; rfl
  have hsc : cenv.scope = relS scope X.env.scope := by rw [← hcenv]; rfl
  rw [← Heap.size_push s.heap { cls := .type "dict", data := .dict #[] }] at hcl
  have cm : ∀ {y c}, (y, c) ∈ cloFrom X.env.cells scope.names [] → X.env.cells.lookup y = some c ∧ c < s.heap.objs.size := fun {y c} hm => by
    rcases cloFrom_mem hm with hm | ⟨h1, rfl⟩
    · cases hm
    · obtain ⟨c, hc⟩ := hfree _ h1 rfl
      rw [hc]
      obtain ⟨w, z⟩ := I.cell _ _ hc
      exact ⟨rfl, z.lt⟩
  have mem : ∀ {y c}, cenv.cells.lookup y = some c → (X.env.cells.lookup y = some c ∧ c < s.heap.objs.size) ∨ (s.heap.objs.size + 1 ≤ c ∧ CellAt (pushCells (s.heap.push { cls := .type "dict", data := .dict #[] }) scope.names) c none) := fun {y c} e => by
    rw [hcl] at e
    rcases cells_mem (PySem.mem_of_lookup e) with hm | ⟨_, h2, h3⟩
    · exact .inl (cm hm)
    · rw [Heap.size_push] at h2; exact .inr ⟨h2, h3⟩
  have look : ∀ {y}, scope.names.lookup y = some .free → ∃ c, cenv.cells.lookup y = some c ∧ X.env.cells.lookup y = some c := fun {y} hl => by
    have hy : (y, NameKind.free) ∈ scope.names := PySem.mem_of_lookup hl
    obtain ⟨c', e'⟩ := mem_lookup (cells_acc (names := scope.names) (n := (s.heap.push { cls := .type "dict", data := .dict #[] }).objs.size) (cloFrom_has (cells := X.env.cells) (acc := []) hy))
    rw [← hcl] at e'
    refine ⟨c', e', ?_⟩
    rw [hcl] at e'
    rcases cells_mem (PySem.mem_of_lookup e') with hm | ⟨h1, _, _⟩
    · exact (cm hm).1
    · have := ok.uniq _ h1
      rw [hl] at this; cases this
  have okB : (X.blk s H scope cenv fp).Ok := by
    refine ⟨I.ok.mod, by show cenv.scope.kind = _; rw [hsc]; exact ok.kind, by show cenv.globals = _; rw [← hcenv]; exact I.ok.glob, by show cenv.builtins = _; rw [← hcenv]; exact I.ok.blt, by show s.heap.objs.size ≤ cenv.locals; rw [hL]; exact Nat.le_refl _,
      fun y z c e1 e2 => ?_, fun y hy => ?_, fun y c z e => ?_, I.ok.hd, I.ok.frames, .inl rfl, fun b hb => ⟨?_, fun y c e z => ?_⟩, I.bs, Nat.le_trans I.ok.bsz I.sz, fun b o e hb => ?_, fun b hb z => ?_, I.stack, I.stkFree⟩
    · have e1 : cenv.cells.lookup y = some c := e1
      have e2 : cenv.cells.lookup z = some c := e2
      rw [hcl] at e1 e2
      refine cells_inj (fun p hp => ?_) (fun y z c a b => I.ok.inj y z c (cm a).1 (cm b).1) (PySem.mem_of_lookup e1) (PySem.mem_of_lookup e2)
      rw [Heap.size_push]
      exact Nat.lt_succ_of_lt (cm (y := p.1) (c := p.2) hp).2
    · show ∃ c, cenv.cells.lookup y = some c
      have key : ∀ k, cenv.kindOf y = some k → (k = .cell ∨ k = .free) → ∃ c, cenv.cells.lookup y = some c := fun k hk hk' => by
        unfold Env.kindOf at hk
        rw [hsc] at hk
        obtain ⟨k', e, r⟩ := lookup_relS hk
        have : k' = .cell ∨ k' = .free := by
          rcases r with rfl | ⟨rfl, _⟩
          · exact hk'
          · exact .inr rfl
        rcases this with rfl | rfl
        · obtain ⟨c, hm⟩ := cells_has (n := (s.heap.push { cls := .type "dict", data := .dict #[] }).objs.size) (acc := cloFrom X.env.cells scope.names []) (PySem.mem_of_lookup e)
          obtain ⟨c', e'⟩ := mem_lookup hm
          exact ⟨c', by rw [hcl]; exact e'⟩
        · obtain ⟨c, h1, _⟩ := look e
          exact ⟨c, h1⟩
      rcases hy with hy | hy
      · exact key _ hy (.inl rfl)
      · exact key _ hy (.inr rfl)
    · have z : (scope.names.lookup y == some NameKind.cell) = true := z
      have z : scope.names.lookup y = some .cell := by simpa using z
      have e : cenv.cells.lookup y = some c := e
      rw [hcl] at e
      rcases cells_mem (PySem.mem_of_lookup e) with hm | ⟨_, h2, _⟩
      · rcases cloFrom_mem hm with hm | ⟨h1, _⟩
        · cases hm
        · have q := ok.uniq _ h1
          rw [z] at q; cases q
      · rw [Heap.size_push] at h2
        exact Nat.le_of_succ_le h2
    · show b ≠ cenv.locals
      rw [hL]; exact Nat.ne_of_lt (hfp b hb).2
    · have e : cenv.cells.lookup y = some c := e
      rcases mem e with ⟨h1, _⟩ | ⟨h1, _⟩
      · exact (hfp b hb).1.2.2.2.2.1 y c h1 z
      · have h2 : s.heap.objs.size + 1 ≤ b := by rw [← z]; exact h1
        exact absurd (Nat.lt_of_lt_of_le (hfp b hb).2 (Nat.le_of_succ_le h2)) (Nat.lt_irrefl _)
    · rcases (hfp b hb).1.2.2.2.1 with z | z
      · exact I.ok.noex b o e z
      · exact absurd (Nat.lt_of_lt_of_le (Heap.lt_size e) (Nat.le_trans I.ok.bsz z)) (Nat.lt_irrefl _)
    · rcases List.mem_cons.mp (I.stkSub b z) with z | z
      · exact (hfp b hb).1.2.1 z
      · exact (hfp b hb).1.2.2.1 z
  refine ⟨okB, rfl, I.bare, Un.kept kp, ⟨fun _ => none, ?_, fun i y av e1 e2 e3 => ?_⟩, fun y c e => ?_, ?_, fun y c e => ?_, fun p hp => ?_, I.hok.kept kp, by rw [wipe_length]; exact I.len⟩
  · show Heap.Ns _ cenv.locals _
    rw [hL]
    exact Heap.Ns.keeps (Heap.Ns.new ..) fun b o e => pushCells_keeps _ _ _ _ e
  · obtain ⟨e2, hne⟩ := wipe_some e2
    have hfr : scope.names.lookup y = some .free ∧ (cenv.kindOf y = some .cell ∨ cenv.kindOf y = some .free) := by
      have key : ∀ k, cenv.scope.names.lookup y = some k → k = .local ∨ k = .cell ∨ k = .free → scope.names.lookup y = some .free ∧ (cenv.kindOf y = some .cell ∨ cenv.kindOf y = some .free) := fun k hk hk' => by
        have hk0 := hk
        rw [hsc] at hk
        obtain ⟨k', e, r⟩ := lookup_relS hk
        have no : ¬ (k' = .local ∨ k' = .cell) := fun hh => by
          rcases ok.own _ (PySem.mem_of_lookup e) hh with e' | e'
          · obtain ⟨p, hp, hpy⟩ := List.mem_map.mp e'
            have e3 := ok.ix p hp
            have : p.1 = y := hpy
            rw [this] at e3
            exact hne (List.mem_map.mpr ⟨p, hp, nodup_ix hN e3 e1⟩)
          · exact e' (List.mem_of_getElem? e1)
        rcases r with rfl | ⟨rfl, rfl⟩
        · rcases hk' with rfl | rfl | rfl
          · exact absurd (.inl rfl) no
          · exact absurd (.inr rfl) no
          · exact ⟨e, .inr hk0⟩
        · exact ⟨e, .inl hk0⟩
      have e3 : Vis cenv.scope y := e3
      rcases e3 with e3 | e3 | e3
      · exact key _ e3 (.inl rfl)
      · exact key _ e3 (.inr (.inl rfl))
      · exact key _ e3 (.inr (.inr rfl))
    obtain ⟨m, hn, hl⟩ := I.loc
    have hvis : Vis X.env.scope y := (ok.free _ (PySem.mem_of_lookup hfr.1) rfl).elim (fun k => .inr (.inl k)) (fun k => .inr (.inr k))
    obtain ⟨w, r, q⟩ := hl i y av e1 e2 hvis
    refine ⟨w, r, .inr ⟨hfr.2, ?_⟩⟩
    obtain ⟨c, h1, h2⟩ := look hfr.1
    rcases q with ⟨k, _⟩ | ⟨_, c', e', z⟩
    · have k : X.env.scope.names.lookup y = some .local := k
      rcases ok.free _ (PySem.mem_of_lookup hfr.1) rfl with k' | k' <;> rw [show X.env.scope.names.lookup y = _ from k'] at k <;> cases k
    · rw [h2] at e'; cases e'
      exact ⟨c, h1, z.keeps kp⟩
  · have e : cenv.cells.lookup y = some c := e
    rcases mem e with ⟨h1, _⟩ | ⟨_, z⟩
    · obtain ⟨w, z⟩ := I.cell y c h1
      exact ⟨w, z.keeps kp⟩
    · exact ⟨_, z⟩
  · show H cenv.locals = none
    rw [hL]; exact I.hok.fresh (Nat.le_refl _)
  · have e : cenv.cells.lookup y = some c := e
    rcases mem e with ⟨h1, _⟩ | ⟨h1, _⟩
    · exact I.freeC y c h1
    · exact I.hok.fresh (Nat.le_of_succ_le h1)
  · exact absurd (show p ∈ ([] : List (Addr × Obj)) ++ [] from hp) (by simp)

/-- an item appended to a tracked list -/
theorem app_ok {E : Value → Shared → Prop} {D : Addr} {xs : List V} {y : V} {v : Value} {Q : Value → Shared → Prop} (I : Inv X pins σ H s) (hD : H D = some (.lst xs)) (hz : xs.length < sizeLine) (r : RelV y v)
    (h : ∀ s', Inv X pins σ (upd H D (.lst (xs ++ [y]))) s' → Q .none s') : wpAny (model X.prog X.w) X.A (call (.builtin "list.append") [.ref D, v]) Q E s := by
  obtain ⟨hz', its, n, ri, e⟩ := I.hok D _ hD
  have hl := ri.length
  refine append_at (hsz := by rw [List.size_toArray]; omega) e fun h' sb ho' => ?_
  refine h { s with heap := h' } (I.write (t' := s.toks) (by rw [hD]; trivial) (.inl rfl) (fun b u hb q => (sb.2 b hb).trans q) ⟨_, ho'⟩ ⟨by rw [List.length_append]; exact hz, its ++ [v], n + 1, ri.append (.cons r .nil), ?_⟩)
  rw [ho']
  simp

/-- a clause's tests -/
def PTs (X : Cx) (ifs : List Expr) (t : TT) : Prop :=
  ∀ (pins : List (Addr × Obj)) (s : Shared) (σ : St) (H : Hp) (Q : Bool → Hp → Prop), Inv X pins σ H s → t σ H Q →
    wpAny (model X.prog X.w) X.A (forIn ifs true fun c r => if r = true then do let ok ← isTrue c X.env (eval c X.env); pure (ForInStep.yield ok) else pure (ForInStep.yield r)) (TP X pins σ Q) X.xe s
def tYes : TT := fun _ H Q => Q true H
theorem pts_nil : PTs X [] tYes := fun _ _ _ H _ I h => wpAny_tests_nil ⟨H, I, h⟩
end

theorem thnF {α : Type} {t : Sem α} {Q Q' : α → Shared → Prop} {M : Model} {A : Around} {E : Value → Shared → Prop} {s : Shared} (h : wpAny M A t Q (fun _ _ => False) s) (hQ : ∀ a s, Q a s → Q' a s) : wpAny M A t Q' E s := wpAny_mono h hQ fun _ _ z => False.elim z

/-- the loop of a list comprehension's block, the target of any form (codeAny_compLoop_tests asks a target that no tuple goes to; statement and proof follow it, PyProof/CompMap.lean:41-61, with the step letOwnedTupleGo kept) -/
theorem compLoop_any {prog : Program} {w : World} {A : Around} {R : Result → Shared → Prop} {s : Shared} {elt target iter : Expr} {ifs : List Expr} {scope : Scope} {pos : Pos} {it acc : Value} {env : Env} (I : Nat → Shared → Prop)
    (turn : ∀ n s, I n s → wpAny (model prog w) A (pyNext it) (fun r s₁ => match r with
      | none => R (.ok .next) s₁
      | some v => wpAny (model prog w) A (letOwnedTupleGo target it v) (fun _ s₁' => wpAny (model prog w) A (assign target env v) (fun _ s₂ =>
          wpAny (model prog w) A (forIn ifs true fun c r => if r = true then do let ok ← isTrue c env (eval c env); pure (ForInStep.yield ok) else pure (ForInStep.yield r)) (fun ok s₃ =>
            if ok = true then wpAny (model prog w) A (eval elt env) (fun x s₄ =>
              wpAny (model prog w) A (call (.builtin "list.append") [acc, x]) (fun _ s₅ => ∃ m, m < n ∧ I m s₅) (notedBy (model prog w) A env fun e s' => R (.error e) s') s₄) (notedBy (model prog w) A env fun e s' => R (.error e) s') s₃
            else ∃ m, m < n ∧ I m s₃) (notedBy (model prog w) A env fun e s' => R (.error e) s') s₂) (notedBy (model prog w) A env fun e s' => R (.error e) s') s₁') (notedBy (model prog w) A env fun e s' => R (.error e) s') s₁) (notedBy (model prog w) A env fun e s' => R (.error e) s') s)
    (n : Nat) (h : I n s) :
    codeAny (model prog w) A (.compLoop (.ListComp elt [⟨target, iter, ifs, 0⟩] scope pos) 0 it acc env) R s := by
  refine codeAny_loop rfl I (fun n s hI => ?_) n h
  show wpAny _ A ((compTurn (.ListComp elt [⟨target, iter, ifs, 0⟩] scope pos) 0 it acc env).onRaise (fun x => do noteFrame x env; theTreesLotGoes x)) _ _ s
  refine wpAny_noted ?_
  rw [compTurn_list]
  refine wpAny_bind (wpAny_standAt (wpAny_bind (wpAny_mono (turn n s hI) (fun r s₁ h₁ => ?_) fun _ _ h' => h')))
  cases r with
  | none => exact wpAny_pure h₁
  | some v =>
    refine wpAny_bind (wpAny_mono h₁ (fun _ s₁' h₁' => ?_) fun _ _ h' => h')
    refine wpAny_bind (wpAny_mono h₁' (fun _ s₂ h₂ => wpAny_bind (wpAny_mono h₂ (fun ok s₃ h₃ => ?_) fun _ _ h' => h')) fun _ _ h' => h')
    cases ok with
    | false => exact wpAny_pure ⟨rfl, h₃⟩
    | true =>
      exact wpAny_bind (wpAny_bind (wpAny_mono h₃ (fun x s₄ h₄ => wpAny_bind (wpAny_mono h₄ (fun _ s₅ h₅ => wpAny_pure (wpAny_pure ⟨rfl, h₅⟩)) fun _ _ h' => h')) fun _ _ h' => h'))

section
variable {X : Cx}
/-- [elt for target in iter if ..]: D the new list; W by the turn and a measure, Nx what a turn is to reach -/
def tLc (wi : TI) (g : TG) (tt : TT) (te : TE) (vs : List Nat) : TE := fun σ H Q => wi σ H fun J H1 => ∀ D, H1 D = none → ∃ W : Nat → Nat → Hp → Prop, (∃ m, W 0 m (upd H1 D (.lst []))) ∧ ∀ i m H, W i m H →
  (J.stop i H ∧ Q (.ref D) H) ∨ (J.go i H ∧ ∃ Nx : Hp → Prop, (∀ H', Nx H' → ∃ m', m' < m ∧ W (i + 1) m' H') ∧ ∀ x H', J.yld i H x H' → g x (wipe σ vs) H' fun σ2 H2 => wipe σ2 vs = wipe σ vs ∧ tt σ2 H2 fun b H3 =>
    if b = true then te σ2 H3 fun y H4 => ∃ acc, H4 D = some (.lst acc) ∧ acc.length < sizeLine ∧ Nx (upd H4 D (.lst (acc ++ [y]))) else Nx H3)
theorem lc_core {pins : List (Addr × Obj)} {s : Shared} {σ : St} {H : Hp} {Q : VK} {elt tg iter : Expr} {ifs : List Expr} {scope : Scope} {own : List (Str × Nat)} {pos pos' : Pos} {wi : TI} {g : TG} {tt : TT} {te : TE} {use : Option (Value → Sem Unit)} {Qf : Value → Shared → Prop}
    (hc : X.calm = true) (hN : X.N.Nodup) (I : Inv X pins σ H s) (hi : PI X tg iter wi) (ok : BlkOk X.N X.env.scope scope own)
    (hg : ∀ (s : Shared) (H : Hp) (C : Addr) (cl : List (Str × Addr)) (fp : List Addr), PG (X.blk s H scope (compEnvC scope cl C X.env) fp) tg g) (ht : ∀ (s : Shared) (H : Hp) (C : Addr) (cl : List (Str × Addr)) (fp : List Addr), PTs (X.blk s H scope (compEnvC scope cl C X.env) fp) ifs tt)
    (he : ∀ (s : Shared) (H : Hp) (C : Addr) (cl : List (Str × Addr)) (fp : List Addr), PE (X.blk s H scope (compEnvC scope cl C X.env) fp) elt te) (hs : ∀ x, foldedSetIterable iter X.env x = pure x)
    (h : tLc wi g tt te (own.map (·.2)) σ H Q)
    (hRR : ∀ D C s' m H', Inv X pins σ H' s' → Q (.ref D) H' → s'.heap.Ns C m → FpOk X pins H' C → compPost (model X.prog X.w) X.A X.xe use Qf (.ref D) C (.ok .next) s') :
    wpAny (model X.prog X.w) X.A (comprehension (.ListComp elt [⟨tg, iter, ifs, 0⟩] scope pos) scope X.env pos' (newList []) false (eval iter X.env) use) Qf X.xe s := by
  have hfree : ∀ y ∈ scope.names, y.2 = .free → ∃ c, X.env.cells.lookup y.1 = some c := fun y hy e => by
    rcases ok.free y hy e with k | k
    · exact I.ok.has _ (.inl k)
    · exact I.ok.has _ (.inr k)
  refine wpAny_comprehension_free (use := use) rfl hs (closure_ok hfree) ok.kind (fun y hy e => by rw [ok.uniq y hy, e])
    (thn (hi pins s σ H _ I h) fun xv s1 hx => thn hx fun itv s2 h2 => ?_)
  obtain ⟨it, fp, tn, J, H2, e, I2, T, st2, f2, q⟩ := h2
  subst e
  refine wpAny_newObj_type (newEnv_comp ?_) (by show 0 ≤ sizeLine; decide)
  generalize hD : s2.heap.objs.size = D
  have hDn : H2 D = none := I2.hok.fresh (Nat.le_of_eq hD)
  obtain ⟨W, ⟨m0, w0⟩, turn⟩ := q D hDn
  -- the new list
  generalize hs3 : ({ s2 with heap := s2.heap.push { cls := .type "list", data := .seq ([] : List Value).toArray } } : Shared) = s3
  have I3 : Inv X pins σ (upd H2 D (.lst [])) s3 := by
    rw [← hs3]
    refine I2.laid (t' := s2.toks) (fun b o e => Heap.get?_push_of_some _ e) (Nat.le_of_eq hD) ⟨Nat.zero_le _, [], 0, .nil, ?_⟩
    rw [← hD]
    exact Heap.get?_push_size _ rfl
  have h3 : s3.heap = s2.heap.push { cls := .type "list", data := .seq ([] : List Value).toArray } := by rw [← hs3]
  have sz : ∀ b ∈ fp, b < s2.heap.objs.size := fun b hb => by
    obtain ⟨o, e, _⟩ := T.obj _ _ st2 b hb
    exact Heap.lt_size e
  have f3 : ∀ b ∈ fp, FpOk X pins (upd H2 D (.lst [])) b ∧ b < s3.heap.objs.size := fun b hb => by
    have hlt := sz b hb
    refine ⟨⟨?_, (f2 b hb).2⟩, by rw [h3, Heap.size_push]; exact Nat.lt_succ_of_lt hlt⟩
    rw [upd_ne (by rw [← hD]; exact Nat.ne_of_lt hlt)]
    exact (f2 b hb).1
  have st3 : tn 0 s3.heap := T.keep _ _ _ st2 fun b _ o e => by rw [h3]; exact Heap.get?_push_of_some _ e
  have I4 := block_start I3 ok hN f3
  have pg := hg s3 (upd H2 D (.lst [])) s3.heap.objs.size (cellsFrom (s3.heap.objs.size + 1) scope.names (cloFrom X.env.cells scope.names [])) fp
  have pt := ht s3 (upd H2 D (.lst [])) s3.heap.objs.size (cellsFrom (s3.heap.objs.size + 1) scope.names (cloFrom X.env.cells scope.names [])) fp
  have pe := he s3 (upd H2 D (.lst [])) s3.heap.objs.size (cellsFrom (s3.heap.objs.size + 1) scope.names (cloFrom X.env.cells scope.names [])) fp
  show codeAny _ _ (.compStart (.ListComp elt [⟨tg, iter, ifs, 0⟩] scope pos) 0 (.ref it) (.ref D) (compEnvC scope (cellsFrom (s3.heap.objs.size + 1) scope.names (cloFrom X.env.cells scope.names [])) s3.heap.objs.size X.env)) (compPost (model X.prog X.w) X.A X.xe use Qf (.ref D) s3.heap.objs.size) { s3 with heap := pushCells (s3.heap.push { cls := .type "dict", data := .dict #[] }) scope.names }
  have nfp : ∀ b ∈ fp, (upd H2 D (.lst [])) b = none := fun b hb => (f3 b hb).1.1
  generalize hce : compEnvC scope (cellsFrom (s3.heap.objs.size + 1) scope.names (cloFrom X.env.cells scope.names [])) s3.heap.objs.size X.env = ce at I4 pg pt pe ⊢
  have cL : ce.locals = s3.heap.objs.size := by subst hce; rfl
  generalize hH3 : upd H2 D (.lst []) = H3 at I3 I4 pg pt pe w0 nfp f3
  generalize hs4 : ({ s3 with heap := pushCells (s3.heap.push { cls := .type "dict", data := .dict #[] }) scope.names } : Shared) = s4 at I4 ⊢
  have st4 : tn 0 s4.heap := T.keep _ _ _ st3 fun b _ o e => by rw [← hs4]; exact pushCells_keeps _ _ _ _ (Heap.get?_push_of_some _ e)
  have stat : ∀ {σ' : St} {H' : Hp} {s' : Shared}, Inv (X.blk s3 H3 scope ce fp) [] σ' H' s' → (∀ b ∈ fp, H' b = none) → ∀ b ∈ fp, FpOk (X.blk s3 H3 scope ce fp) [] H' b := fun {σ' H' s'} I' hn b hb =>
    ⟨hn b hb, (I'.ok.exf b hb).1, I'.ok.exfs b hb, .inl hb, fun x c e => (I'.ok.exf b hb).2 x c e, fun p hp => absurd (show p ∈ ([] : List (Addr × Obj)) ++ [] from hp) (by simp)⟩
  have loop : codeAny (model X.prog X.w) X.A (.compLoop (.ListComp elt [⟨tg, iter, ifs, 0⟩] scope pos) 0 (.ref it) (.ref D) ce) (compPost (model X.prog X.w) X.A X.xe use Qf (.ref D) s3.heap.objs.size) s4 := by
    refine compLoop_any (fun n s' => ∃ i H', Inv (X.blk s3 H3 scope ce fp) [] (wipe σ (own.map (·.2))) H' s' ∧ tn i s'.heap ∧ (∀ b ∈ fp, H' b = none) ∧ W i n H') ?_ m0 ⟨0, H3, I4, st4, nfp, w0⟩
    rintro n s5 ⟨i, H5, I5, st5, n5, w5⟩
    rcases turn i n H5 w5 with ⟨stop, qq⟩ | ⟨go, Nx, hNx, step⟩
    · have td := T.done (X.blk s3 H3 scope ce fp) rfl rfl rfl hc i [] s5 _ H5 (fun _ _ => False) I5 (stat I5 n5) st5 stop
      refine thnF td fun r s6 ⟨hr, I6⟩ => ?_
      subst hr
      -- back in the def's context
      have I7 : Inv X pins σ H5 s6 := I3.call' (ch := fp) I6.os I6.base I6.hok I6.bare fun b hb => ⟨(f3 b hb).1.2.2.2.1, (f3 b hb).1.2.1, (f3 b hb).1.2.2.2.2.1, (f3 b hb).1.2.2.2.2.2⟩
      have nC : H5 s3.heap.objs.size = none := by
        have z : H5 ce.locals = none := I6.free
        rw [cL] at z
        exact z
      obtain ⟨m, hn, _⟩ := I6.loc
      have hn : s6.heap.Ns ce.locals m := hn
      rw [cL] at hn
      exact hRR D s3.heap.objs.size s6 m H5 I7 qq hn (I3.fpOk (Nat.le_refl _) nC)
    · have ti := T.item (X.blk s3 H3 scope ce fp) rfl rfl rfl hc i [] s5 _ H5 (fun _ _ => False) I5 (stat I5 n5) st5 go
      refine thnF ti fun r s6 ⟨u, hr, h6⟩ => ?_
      subst hr
      refine thnF h6 fun _ s7 ⟨x, H7, I7, r7, y7, st7, n7⟩ => ?_
      have I7' := I7.pinned (stat I7 n7) (T.obj _ _ st7)
      refine thnF (pg _ s7 _ H7 x u _ I7' r7 (step x H7 y7)) fun _ s8 ⟨σ8, H8, I8, hw8, q8⟩ => ?_
      refine thnF (pt _ s8 σ8 H8 _ I8 q8) fun b s9 ⟨H9, I9, q9⟩ => ?_
      -- the turn's end
      have fin : ∀ {s' : Shared} {H' : Hp}, Inv (X.blk s3 H3 scope ce fp) ([] ++ pinsAt fp s7.heap) σ8 H' s' → Nx H' → ∃ m, m < n ∧ ∃ i H', Inv (X.blk s3 H3 scope ce fp) [] (wipe σ (own.map (·.2))) H' s' ∧ tn i s'.heap ∧ (∀ b ∈ fp, H' b = none) ∧ W i m H' := fun {s' H'} I' nx => by
        obtain ⟨m', hm, w'⟩ := hNx H' nx
        have pin' : ∀ b ∈ fp, ∀ o, s7.heap.get? b = some o → s'.heap.get? b = some o ∧ H' b = none := fun b hb o e =>
          let z := I'.pin (b, o) (List.mem_append_right _ (List.mem_append_right _ (mem_pinsAt hb e)))
          ⟨z.1, z.2.1⟩
        have hl : (wipe σ (own.map (·.2))).length = σ8.length := by rw [← hw8, wipe_length]
        refine ⟨m', hm, i + 1, H', (I'.unpinned (pins := [])).weak hl (fun j v e => ?_), T.keep _ _ _ st7 fun b hb o e => (pin' b hb o e).1, fun b hb => ?_, w'⟩
        · rw [← hw8] at e
          exact (wipe_some e).1
        · obtain ⟨o, e, _⟩ := T.obj _ _ st7 b hb
          exact (pin' b hb o e).2
      cases b with
      | false =>
        simp only [Bool.false_eq_true, if_false] at q9 ⊢
        exact fin I9 q9
      | true =>
        simp only [if_true] at q9 ⊢
        refine thnF (pe _ s9 σ8 H9 _ I9 q9) fun z s10 ⟨yv, H10, I10, r10, acc, hD10, hz10, nx⟩ => ?_
        exact app_ok (X := X.blk s3 H3 scope ce fp) I10 hD10 hz10 r10 fun s11 I11 => fin I11 nx
  exact codeAny_compStart_list loop (T.self X.A 0 _ _ _ st4 loop)
/-- as a value -/
theorem pe_lc {elt tg iter : Expr} {ifs : List Expr} {scope : Scope} {own : List (Str × Nat)} {pos : Pos} {wi : TI} {g : TG} {tt : TT} {te : TE} (hc : X.calm = true) (hN : X.N.Nodup) (hi : PI X tg iter wi) (ok : BlkOk X.N X.env.scope scope own)
    (hg : ∀ (s : Shared) (H : Hp) (C : Addr) (cl : List (Str × Addr)) (fp : List Addr), PG (X.blk s H scope (compEnvC scope cl C X.env) fp) tg g) (ht : ∀ (s : Shared) (H : Hp) (C : Addr) (cl : List (Str × Addr)) (fp : List Addr), PTs (X.blk s H scope (compEnvC scope cl C X.env) fp) ifs tt)
    (he : ∀ (s : Shared) (H : Hp) (C : Addr) (cl : List (Str × Addr)) (fp : List Addr), PE (X.blk s H scope (compEnvC scope cl C X.env) fp) elt te) (hs : ∀ x, foldedSetIterable iter X.env x = pure x := by intro _; rfl) :
    PE X (.ListComp elt [⟨tg, iter, ifs, 0⟩] scope pos) (tLc wi g tt te (own.map (·.2))) := by
  intro pins s σ H Q I h
  rw [eval_ListComp]
  refine lc_core hc hN I hi ok hg ht he hs h fun D C s' m H' I' q hn f => ⟨m, hn, fun h'' sb => ?_⟩
  obtain ⟨f0, f1, f2, f3, f4, f5⟩ := f
  exact ⟨.ref D, H', I'.turned (t' := s'.toks) (fun b o hb e => (sb.2 b hb).trans e) f0 f1 f3 f4 f5, rfl, q⟩
end

/-! ### the forms one uses -/
def blkC (N : List Str) (sc scope : Scope) (own : List (Str × Nat)) : Bool :=
  (match scope.kind with | .function => true | _ => false) && (scope.names.all fun y => decide (scope.names.lookup y.1 = some y.2)) && (own.all fun p => decide (N[p.2]? = some p.1)) &&
    (scope.names.all fun y => match y.2 with
      | .free => (match sc.names.lookup y.1 with | some .cell => true | some .free => true | _ => false)
      | .local => decide (y.1 ∈ own.map (·.1)) || decide (y.1 ∉ N)
      | .cell => decide (y.1 ∈ own.map (·.1)) || decide (y.1 ∉ N)
      | _ => true)
end L2

namespace L2
open PySem PySem.Spec PyProof.Rows


section
variable {prog : Program} {w : World} {A : Around} {R : Result → Shared → Prop} {s : Shared} {elt t0 i0 t1 i1 : Expr} {ifs0 ifs1 : List Expr} {scope : Scope} {pos : Pos} {it acc : Value} {env : Env}
end

section
variable {X : Cx}
/-- [elt for tg in iter if .. for tg1 in iter1 if ..]: behind the first clause's store and tests the second source's own loop, from which Nx is reached. vs: the block's names; vs1: those of the second target -/
def tLc2 (wi : TI) (g : TG) (tt : TT) (wi1 : TI) (g1 : TG) (tt1 : TT) (te : TE) (vs vs1 : List Nat) : TE := fun σ H Q => wi σ H fun J H1 => ∀ D, H1 D = none → ∃ W : Nat → Nat → Hp → Prop, (∃ m, W 0 m (upd H1 D (.lst []))) ∧ ∀ i m H, W i m H →
  (J.stop i H ∧ Q (.ref D) H) ∨ (J.go i H ∧ ∃ Nx : Hp → Prop, (∀ H', Nx H' → ∃ m', m' < m ∧ W (i + 1) m' H') ∧ ∀ x H', J.yld i H x H' → g x (wipe σ vs) H' fun σ2 H2 => wipe σ2 vs = wipe σ vs ∧ tt σ2 H2 fun b H3 =>
    if b = true then wi1 σ2 H3 fun J1 H4 => ∃ W1 : Nat → Nat → Hp → Prop, (∃ m, W1 0 m H4) ∧ ∀ j k H, W1 j k H →
      (J1.stop j H ∧ Nx H) ∨ (J1.go j H ∧ ∃ Nx1 : Hp → Prop, (∀ H', Nx1 H' → ∃ k', k' < k ∧ W1 (j + 1) k' H') ∧ ∀ x H', J1.yld j H x H' → g1 x (wipe σ2 vs1) H' fun σ3 H5 => wipe σ3 vs1 = wipe σ2 vs1 ∧ tt1 σ3 H5 fun b H6 =>
        if b = true then te σ3 H6 fun y H7 => ∃ acc, H7 D = some (.lst acc) ∧ acc.length < sizeLine ∧ Nx1 (upd H7 D (.lst (acc ++ [y]))) else Nx1 H6)
    else Nx H3)
end
end L2

namespace L2
open PySem PySem.Spec PyProof.Rows

/-! ### lists of pairs as tables -/
section
variable {κ : Type} [DecidableEq κ]
def valV (kvs : List (κ × V)) (k : κ) : Option V := (kvs.find? fun kv => decide (kv.1 = k)).map (·.2)
/-- in its place, or at the end -/
def putK (kvs : List (κ × V)) (k : κ) (v : V) : List (κ × V) :=
  if (kvs.any fun kv => decide (kv.1 = k)) = true then kvs.map (fun kv => if kv.1 = k then (kv.1, v) else kv) else kvs ++ [(k, v)]
def dropK (kvs : List (κ × V)) (k : κ) : List (κ × V) := kvs.filter fun kv => decide (kv.1 ≠ k)



end


/-! ### a tracked dict, its keys ints and texts or tuples of these -/

/-- raw entries of a dict with tuple keys -/
abbrev KT (H : Hp) : List (List Key × V) → List (List Key × Addr × Value) → Prop := Paired fun p q => p.1 = q.1 ∧ H q.2.1 = some (.tup (p.1.map kV)) ∧ RelV p.2 q.2.2

section
variable {P : Program} {w : World} {H : Hp} {h : Heap} {a : Addr}
end

/-- what the dict at a holds at the key y -/
def DGet (H : Hp) (a : Addr) (y : V) (r : Option V) : Prop :=
  (∃ kvs k, Rd H a (.dK kvs) ∧ y = kV k ∧ r = valV kvs k) ∨ ∃ kvs k b, Rd H a (.dT kvs) ∧ y = .ref b ∧ H b = some (.tup (k.map kV)) ∧ r = valV kvs k
/-- the heap behind a[y] = v -/
def DPut (H : Hp) (a : Addr) (y v : V) (H' : Hp) : Prop :=
  (∃ kvs k, H a = some (.dK kvs) ∧ y = kV k ∧ kvs.length < sizeLine ∧ H' = upd H a (.dK (putK kvs k v))) ∨
  ∃ kvs k b, H a = some (.dT kvs) ∧ y = .ref b ∧ H b = some (.tup (k.map kV)) ∧ kvs.length < sizeLine ∧ H' = upd H a (.dT (putK kvs k v))


section
variable {X : Cx} {pins : List (Addr × Obj)} {σ : St} {H : Hp} {s : Shared} {a : Addr} {y v : V} {u r : Value} {o : Option V} {A : Around} {E : Value → Shared → Prop}


end

section
variable {X : Cx} {pins : List (Addr × Obj)} {σ : St} {H : Hp} {s : Shared} {a : Addr} {kvs : List (Key × V)} {k : Key} {u : Value} {A : Around} {E : Value → Shared → Prop}
end


/-! ### readings and rules -/
/-- the element of a subscription, not a slice -/
def NoSl (i : Expr) : Prop := ∀ ov iv, subscripted i false ov iv = operate [ov, iv] (getItem ov iv)


/-- d[y] -/
def tDGet (td ty : TE) : TE := fun σ H Q => td σ H fun x H1 => ty σ H1 fun y H2 => ∃ a v, x = .ref a ∧ DGet H2 a y (some v) ∧ Q v H2
/-- y in d, y not in d -/
def tDIn (ty td : TE) : TE := fun σ H Q => ty σ H fun y H1 => td σ H1 fun x H2 => ∃ a o, x = .ref a ∧ DGet H2 a y o ∧ Q (.bl o.isSome) H2
def tDNotIn (ty td : TE) : TE := fun σ H Q => ty σ H fun y H1 => td σ H1 fun x H2 => ∃ a o, x = .ref a ∧ DGet H2 a y o ∧ Q (.bl (!o.isSome)) H2
/-- d[y] = v -/
def sDPut (td ty tv : TE) : TS := fun D σ H => tv σ H fun v H1 => td σ H1 fun x H2 => ty σ H2 fun y H3 => ∃ a H4, x = .ref a ∧ DPut H3 a y v H4 ∧ D.nx σ H4
/-- d[y] op= v -/
def sDAug (td ty tv : TE) (rd : V → V → Hp → VK → Prop) : TS := fun D σ H => td σ H fun x H1 => ty σ H1 fun y H2 => ∃ a v, x = .ref a ∧ DGet H2 a y (some v) ∧
  tv σ H2 fun y2 H3 => rd v y2 H3 fun z H4 => ∃ H5, DPut H4 a y z H5 ∧ D.nx σ H5
/-- del d[y] -/
def sDDel (td ty : TE) : TS := fun D σ H => td σ H fun x H1 => ty σ H1 fun y H2 => ∃ a kvs k, x = .ref a ∧ H2 a = some (.dK kvs) ∧ y = kV k ∧ (valV kvs k).isSome = true ∧ D.nx σ (upd H2 a (.dK (dropK kvs k)))

section
variable {X : Cx} {o i e value : Expr} {pos pos' tpos : Pos} {td ty tv : TE}
end


/-! ### displays -/
/-- {}, to be a dict of the kind that is wanted -/
def tDNewK : TE := fun _ H Q => ∀ p, H p = none → Q (.ref p) (upd H p (.dK []))
def tDNewT : TE := fun _ H Q => ∀ p, H p = none → Q (.ref p) (upd H p (.dT []))
section
variable {X : Cx} {pos : Pos}
end

/-- the pairs of a display, from the left -/
def tPairs : List (TE × TE) → St → Hp → (List (V × V) → Hp → Prop) → Prop
  | [], _, H, Q => Q [] H
  | (tk, tv) :: r, σ, H, Q => tk σ H fun x H1 => tv σ H1 fun y H2 => tPairs r σ H2 fun ps H3 => Q ((x, y) :: ps) H3
abbrev VV : List (V × V) → List (Value × Value) → Prop := Paired fun p q => RelV p.1 q.1 ∧ RelV p.2 q.2
def PPs (X : Cx) (pos : Pos) (keys : List (Option Expr)) (values : List Expr) (trs : List (TE × TE)) : Prop :=
  ∀ (pins : List (Addr × Obj)) (s : Shared) (σ : St) (H : Hp) (Q : List (V × V) → Hp → Prop), Inv X pins σ H s → tPairs trs σ H Q →
    wpAny (model X.prog X.w) X.A (evalPairs (pairTrees keys values X.env pos)) (fun vs s' => ∃ ps H', Inv X pins σ H' s' ∧ VV ps vs ∧ Q ps H') X.xe s

def mergeK (kvs more : List (Key × V)) : List (Key × V) := more.foldl (fun acc kv => putK acc kv.1 kv.2) kvs
/-- {k: v, ..} with keys ints and texts; the new dict stands empty while the pairs are made -/
def tDisp (trs : List (TE × TE)) : TE := fun σ H Q => ∀ p, H p = none → tPairs trs σ (upd H p (.dK [])) fun ps H2 => H2 p = some (.dK []) ∧ ∃ kvs : List (Key × V), ps = kvs.map (fun kv => (kV kv.1, kv.2)) ∧ kvs.length ≤ 15 ∧ Q (.ref p) (upd H2 p (.dK (mergeK [] kvs)))


/-! ### methods -/
/-- a method call o.m(e) of a built-in, with one argument: what must be seen of the text -/
structure M1 (X : Cx) (o : Expr) (m : Str) (apos : Pos) (e : Expr) (cpos : Pos) : Prop where
  base : attributeBase o m X.env (eval o X.env) = eval o X.env
  few : ((backTo cpos (starEach [e] X.env)).all (fun x => !x.1) && (backToKw cpos (keywordEach [] X.env)).all (fun x => x.1.isSome)
    && decide (([e] : List Expr).length + ([] : List Keyword).length + (if ([] : List Keyword).isEmpty then 0 else 1) < 30)) = true
  line : (apos.endLine == cpos.line) = true
  trees : backTo cpos (starEach [e] X.env) = [(false, eval e X.env)]
structure M2 (X : Cx) (o : Expr) (m : Str) (apos : Pos) (e f : Expr) (cpos : Pos) : Prop where
  base : attributeBase o m X.env (eval o X.env) = eval o X.env
  few : ((backTo cpos (starEach [e, f] X.env)).all (fun x => !x.1) && (backToKw cpos (keywordEach [] X.env)).all (fun x => x.1.isSome)
    && decide (([e, f] : List Expr).length + ([] : List Keyword).length + (if ([] : List Keyword).isEmpty then 0 else 1) < 30)) = true
  line : (apos.endLine == cpos.line) = true
  trees : backTo cpos (starEach [e, f] X.env) = [(false, eval e X.env), (false, eval f X.env)]

/-- a is a dict, whatever its keys -/
def IsD (H : Hp) (a : Addr) : Prop := (∃ kvs, Rd H a (.dK kvs)) ∨ ∃ kvs, Rd H a (.dT kvs)

section
variable {X : Cx} {pins : List (Addr × Obj)} {σ : St} {H : Hp} {s : Shared} {a : Addr} {y d : V} {u r : Value} {o : Option V} {A : Around} {E : Value → Shared → Prop}
end

def tDGet1 (td ty : TE) : TE := fun σ H Q => td σ H fun x H1 => ∃ a, x = .ref a ∧ IsD H1 a ∧ ty σ H1 fun y H2 => ∃ o, DGet H2 a y o ∧ Q (o.getD .non) H2
def tDGet2 (td ty tx : TE) : TE := fun σ H Q => td σ H fun x H1 => ∃ a, x = .ref a ∧ IsD H1 a ∧ ty σ H1 fun y H2 => tx σ H2 fun z H3 => ∃ o, DGet H3 a y o ∧ Q (o.getD z) H3
/-- d.pop(k): there; d.pop(k, x): there or not -/
def tDPop1 (td ty : TE) : TE := fun σ H Q => td σ H fun x H1 => ∃ a, x = .ref a ∧ IsD H1 a ∧ ty σ H1 fun y H2 => ∃ kvs k v, H2 a = some (.dK kvs) ∧ y = kV k ∧ valV kvs k = some v ∧ Q v (upd H2 a (.dK (dropK kvs k)))
def tDPop2 (td ty tx : TE) : TE := fun σ H Q => td σ H fun x H1 => ∃ a, x = .ref a ∧ IsD H1 a ∧ ty σ H1 fun y H2 => tx σ H2 fun z H3 => ∃ kvs k, H3 a = some (.dK kvs) ∧ y = kV k ∧
  (∀ v, valV kvs k = some v → Q v (upd H3 a (.dK (dropK kvs k)))) ∧ (valV kvs k = none → Q z H3)
section
variable {X : Cx} {o e f : Expr} {apos cpos : Pos} {td ty tx : TE}
end

/-! ### dict(d): a copy -/
section
variable {X : Cx} {pins : List (Addr × Obj)} {σ : St} {H : Hp} {s : Shared} {a : Addr} {kvs : List (Key × V)} {A : Around} {E : Value → Shared → Prop}
end


section
variable {X : Cx} {pins : List (Addr × Obj)} {σ : St} {H : Hp} {s : Shared} {a : Addr} {y : V} {u : Value} {A : Around} {E : Value → Shared → Prop}
end
end L2

namespace L2
open PySem PySem.Spec PyProof.Rows


section
variable {prog : Program} {w : World} {A : Around} {E : Value → Shared → Prop}


end

section
variable {X : Cx}
end
end L2

namespace L2
open PySem PySem.Spec PyProof.Rows

theorem boot_reversed5 : bootBuiltins "reversed" = some (.type "reversed") := by decide +kernel

section
variable {X : Cx} {pins : List (Addr × Obj)} {σ : St} {H : Hp} {s : Shared} {h' : Heap}
/-- several records of ours have turned -/
theorem Inv.turnedL {t' : Nat} {ch : List Addr} (I : Inv X pins σ H s) (k : ∀ b o, b ∉ ch → s.heap.get? b = some o → h'.get? b = some o) (hf : ∀ b ∈ ch, FpOk X pins H b) : Inv X pins σ H { s with heap := h', toks := t' } := by
  have nit : ∀ b u, H b = some u → b ∉ ch := fun b u e z => by
    have q := (hf b z).1
    rw [q] at e; cases e
  refine I.step (g' := s.gens) (d' := s.drawn) (ch := ch) (fun b hb => ⟨(hf b hb).2.2.2.1, (hf b hb).2.1, (hf b hb).2.2.2.2.1, (hf b hb).2.2.2.2.2⟩) (fun b o _ _ hc e _ => k b o hc e) (fun b o _ _ hc e _ => ⟨o.slots, k b o hc e⟩)
    (fun _ _ _ _ n => n) (fun b o hc e => ⟨o, k b o hc e⟩) (fun _ _ e => e) (fun _ _ _ e => e) (fun b ps e => ⟨#[], by rw [e]; simp⟩) (fun m hm => ?_) (fun b u e => ?_) I.bare
  · obtain ⟨o, es, ep, ho, r⟩ := hm
    exact ⟨o, es, ep, k _ o (fun z => (hf _ z).2.1 rfl) ho, r⟩
  · refine (I.hok b u e).stay (fun c v hc q => k c v ?_ q) (fun _ q => q) fun _ _ q => q
    rcases hc with z | z
    · rw [z]; exact nit b u e
    · exact nit c _ z
/-- .. and one new object is laid -/
theorem Inv.turnedNew {t' : Nat} {ch : List Addr} {T : Addr} {ob : HO} (I : Inv X pins σ H s) (k : ∀ b o, b ∉ ch → s.heap.get? b = some o → h'.get? b = some o) (hf : ∀ b ∈ ch, FpOk X pins H b) (hT : s.heap.objs.size ≤ T)
    (new : ObjOk X.prog X.w (upd H T ob) h' T ob) : Inv X pins σ (upd H T ob) { s with heap := h', toks := t' } := by
  have hn : H T = none := I.hok.fresh hT
  have nit : ∀ b u, H b = some u → b ∉ ch := fun b u e z => by
    have q := (hf b z).1
    rw [q] at e; cases e
  refine I.step (g' := s.gens) (d' := s.drawn) (ch := ch) (fun b hb => ⟨(hf b hb).2.2.2.1, (hf b hb).2.1, (hf b hb).2.2.2.2.1, (hf b hb).2.2.2.2.2⟩) (fun b o _ _ hc e _ => k b o hc e) (fun b o _ _ hc e _ => ⟨o.slots, k b o hc e⟩)
    (fun b o _ e n => ?_) (fun b o hc e => ⟨o, k b o hc e⟩) (fun b xs e => ?_) (fun b o u e => ?_) (fun b ps e => ⟨#[], ?_⟩) (fun m hm => ?_) (fun b u e => ?_) I.bare
  · rw [upd_ne (Nat.ne_of_lt (Nat.lt_of_lt_of_le (Heap.lt_size e) hT))]; exact n
  · rw [upd_ne (ne_of_none e hn)]; exact e
  · rw [upd_ne (ne_of_none e hn)]; exact e
  · rw [upd_ne (ne_of_none e hn), e]; simp
  · obtain ⟨o, es, ep, ho, r⟩ := hm
    exact ⟨o, es, ep, k _ o (fun z => (hf _ z).2.1 rfl) ho, r⟩
  · by_cases hb : b = T
    · subst hb
      rw [upd_same] at e
      cases e
      exact new
    · rw [upd_ne hb] at e
      refine (I.hok b u e).stay (fun c v hc q => k c v ?_ q) (fun c q => by rw [upd_ne (ne_of_none q hn)]; exact q) fun c xs q => by rw [upd_ne (ne_of_none q hn)]; exact q
      rcases hc with z | z
      · rw [z]; exact nit b u e
      · exact nit c _ z

/-! ### locking a thing while a statement runs -/
end
/-- the statement runs while the thing at d is locked (read, not written); d and what stands there are the reading's choice -/
def tLock (t : TS) : TS := fun D σ H => ∃ d u, H d = some u ∧ Mut (some u) ∧ ∀ od, t ⟨fun σ' H' => H' d = some (.frz od u) ∧ D.nx σ' (upd H' d u), fun v H' => H' d = some (.frz od u) ∧ D.rt v (upd H' d u), fun σ' H' => H' d = some (.frz od u) ∧ D.bk σ' (upd H' d u), fun σ' H' => H' d = some (.frz od u) ∧ D.ct σ' (upd H' d u)⟩ σ (upd H d (.frz od u))
def tLockE (t : TE) : TE := fun σ H Q => ∃ d u, H d = some u ∧ Mut (some u) ∧ ∀ od, t σ (upd H d (.frz od u)) fun v H' => H' d = some (.frz od u) ∧ Q v (upd H' d u)
section
variable {X : Cx}

/-! ### one iterator just laid -/
theorem pi_one {tg : Expr} {pins : List (Addr × Obj)} {σ : St} {H : Hp} {s : Shared} {R : It → Hp → Prop} {J : It} {tn : Nat → Heap → Prop} {tk : Nat} (I : Inv X pins σ H s) (o : Obj)
    (T : Turn X.prog X.w X.K tg J [s.heap.objs.size] s.heap.objs.size tn) (st : tn 0 (s.heap.push o)) (q : R J H) : PIE X pins σ tg R (.ref s.heap.objs.size) { s with heap := s.heap.push o, toks := tk } := by
  refine ⟨s.heap.objs.size, [s.heap.objs.size], tn, J, H, rfl, I.kept fun b ob e => Heap.get?_push_of_some _ e, T, st, fun b hb => ?_, q⟩
  have e : b = s.heap.objs.size := by simpa using hb
  subst e
  exact I.fpOk (Nat.le_refl _) (I.hok.fresh (Nat.le_refl _))
end

/-! ### range with a step -/
/-- lo, lo + c, .. (n of them) -/
def Itc (lo c : Int) (n : Nat) : It := ⟨fun i _ => i < n, fun i H x H' => H' = H ∧ x = .int (lo + (i : Nat) * c), fun i _ => n ≤ i⟩
theorem turn_rangeC {P : Program} {w : World} {K : PySem.W.Frag} {tg : Expr} (it : Addr) (lo c : Int) (n : Nat) : Turn P w K tg (Itc lo c n) [it] it (fun i h => IsRangeIter h it (lo + (i : Nat) * c) ((n : Int) - (i : Nat)) c) where
  mem := by simp
  obj := fun i h st b hb => by
    have e : b = it := by simpa using hb
    subst e
    exact ⟨_, st, fun v z => nomatch z⟩
  keep := fun i h h' st k => k it (by simp) _ st
  item := by
    intro X hP hw hK hc i pins s σ H E I hf st hg
    subst hP hw hK
    obtain ⟨f0, f1, f2, f3, f4, f5⟩ := hf it (by simp)
    have W := Walks.range (prog := X.prog) (w := X.w) (I.ok.hd hc) it lo c n
    refine W.item i s _ _ hg st fun v h' tk hv st' kk => ?_
    obtain ⟨t, rfl⟩ := hv
    have I1 : Inv X pins σ H { s with heap := h', toks := tk } := I.turned (fun b o hb e => kk b o (by simpa using hb) e) f0 f1 f3 f4 f5
    exact ⟨_, rfl, go_of (s := { s with heap := h', toks := tk }) (n := "range_iterator") st' rfl rfl (by decide) ⟨.int (lo + (i : Nat) * c), H, I1, ⟨t, rfl⟩, ⟨rfl, rfl⟩, st', fun b hb => (hf b hb).1⟩⟩
  done := by
    intro X hP hw hK hc i pins s σ H E I hf st hg
    subst hP hw hK
    obtain ⟨f0, f1, f2, f3, f4, f5⟩ := hf it (by simp)
    exact wpAny_pyNext_range_end (I.ok.hd hc) st (by have : n ≤ i := hg; omega) fun h' eb => ⟨rfl, I.turned (t' := s.toks) (fun b o hb e => eb b o hb e) f0 f1 f3 f4 f5⟩
  self := fun A i s Q E st h => wpAny_pyIter_rangeiter st h
/-- range(i, j, c): small bounds, n items -/
def RgC (i j c : Int) (n : Nat) : Prop := c ≠ 0 ∧ c.natAbs < 1073741824 ∧ Builtin.Range.small i j c = true ∧ Builtin.Range.rangeSize i j c = n
def iRng3 (ta : TA) : TI := fun σ H R => ta σ H fun vs H1 => ∃ (i j c : Int) (n : Nat), vs = [.int i, .int j, .int c] ∧ RgC i j c n ∧ R (Itc i c n) H1
section
variable {X : Cx} {tg : Expr}
theorem pi_range3 {a b c : Expr} {ta : TA} {p pos : Pos} (hg : Gl X "range") (hm : X.mg "range" = none) (ha : PA X [a, b, c] ta)
    (hs : starEach [a, b, c] X.env = (false, eval a X.env) :: starEach [b, c] X.env := by rfl) (hpl : (backTo pos (starEach [b, c] X.env)).any (·.1) = false := by rfl) :
    PI X tg (.Call (.Name "range" p) [a, b, c] [] pos) (iRng3 ta) := by
  intro pins s σ H R I h
  refine Call_ (ld_blt I hg hm boot_range (PyProof.Rows.callWith_type1 (thn (ha pos pins s σ H _ I h) fun us s1 ⟨vs, H1, I1, r1, q1⟩ => ?_) hs hpl))
  obtain ⟨i, j, k, n, e, ⟨c0, c1, c2, c3⟩, q⟩ := q1
  subst e
  cases r1 with
  | cons r rr =>
    cases rr with
    | cons r' rr =>
      cases rr with
      | cons r'' rr =>
        cases rr
        obtain ⟨t, rfl⟩ := r
        obtain ⟨t', rfl⟩ := r'
        obtain ⟨t'', rfl⟩ := r''
        refine call_range_3 c0 ?_ (.inl (PyProof.noPylong_small c1))
        refine wpAny_pyIter_range (IsRange.new ..) c2 ?_
        have I2 : Inv X pins σ H1 { s1 with heap := s1.heap.push { cls := .type "range", data := .fields #[.int i t, .int j t', .int k t''] } } := I1.kept (t' := s1.toks) fun b o e => Heap.get?_push_of_some _ e
        refine pi_one (tk := s1.toks) I2 _ (turn_rangeC _ i k n) ?_ q
        have e1 : i + ((0 : Nat) : Int) * k = i := by simp
        have e2 : (n : Int) - ((0 : Nat) : Int) = Builtin.Range.rangeSize i j k := by rw [c3]; simp
        show IsRangeIter _ _ (i + ((0 : Nat) : Int) * k) ((n : Int) - ((0 : Nat) : Int)) k
        rw [e1, e2]
        exact Heap.get?_push_size _ rfl
end

/-! ### reversed(list) -/
/-- the list at a (n items at the start, which the loop leaves there), from its end -/
def Itv (K : PySem.W.Frag) (a : Addr) (n : Nat) : It :=
  ⟨fun i H => i < n ∧ ∃ (xs : List V) (x : V), SqL K H a xs ∧ xs[n - 1 - i]? = some x, fun i H x H' => H' = H ∧ ∀ xs, SqL K H a xs → xs[n - 1 - i]? = some x, fun i _ => n ≤ i⟩
theorem turn_rev {P : Program} {w : World} {K : PySem.W.Frag} {tg : Expr} (a it : Addr) (n : Nat) : Turn P w K tg (Itv K a n) [it] it (fun i h => i ≤ n ∧ h.IsRevIter it a ((n : Int) - 1 - (i : Nat))) where
  mem := by simp
  obj := fun i h st b hb => by
    have e : b = it := by simpa using hb
    subst e
    obtain ⟨_, o, e, c, d⟩ := st
    exact ⟨o, e, fun v z => by rw [d] at z; cases z⟩
  keep := fun i h h' st k => ⟨st.1, st.2.at fun o e => k it (by simp) o e⟩
  item := by
    intro X hP hw hK hc i pins s σ H E I hf st hg
    subst hP hw hK
    obtain ⟨hin, xs, x, hq, hx⟩ := hg
    obtain ⟨its, rv, p, hz⟩ := I.list hq
    obtain ⟨u, hu, ru⟩ := rv.get hx
    obtain ⟨f0, f1, f2, f3, f4, f5⟩ := hf it (by simp)
    obtain ⟨_, hit⟩ := st
    have e1 : (n : Int) - 1 - ((i : Nat) : Int) = ((n - 1 - i : Nat) : Int) := by omega
    rw [e1] at hit
    refine wpAny_pyNext_rev_item hit p.isList (x := u) (by simpa using hu) fun h' st' sb => ?_
    have e2 : ((n - 1 - i : Nat) : Int) - 1 = (n : Int) - 1 - ((i + 1 : Nat) : Int) := by omega
    rw [e2] at st'
    have I1 : Inv X pins σ H { s with heap := h' } := I.turned (t' := s.toks) (fun b o hb e => (sb.2 b hb).trans e) f0 f1 f3 f4 f5
    obtain ⟨o, e, c, d⟩ := id st'
    exact ⟨u, rfl, go_of (s := { s with heap := h' }) e c d (by decide) ⟨x, H, I1, ru, ⟨rfl, fun ys hy => by rw [I.list_inj hy hq]; exact hx⟩, ⟨hin, st'⟩, fun b hb => (hf b hb).1⟩⟩
  done := by
    intro X hP hw hK hc i pins s σ H E I hf st hg
    subst hP hw hK
    obtain ⟨f0, f1, f2, f3, f4, f5⟩ := hf it (by simp)
    obtain ⟨hin, hit⟩ := st
    have hge : n ≤ i := hg
    have e1 : (n : Int) - 1 - ((i : Nat) : Int) = -1 := by omega
    rw [e1] at hit
    exact wpAny_pyNext_rev_end (I.ok.hd hc) hit fun h' eb => ⟨rfl, I.turned (t' := s.toks) (fun b o hb e => eb b o hb e) f0 f1 f3 f4 f5⟩
  self := fun A i s Q E st h => wpAny_pyIter_revIter st.2 h
def iRev (K : PySem.W.Frag) (ta : TA) : TI := fun σ H R => ta σ H fun vs H1 => ∃ (a : Addr) (xs : List V), vs = [.ref a] ∧ SqL K H1 a xs ∧ R (Itv K a xs.length) H1
section
variable {X : Cx} {tg : Expr}
theorem pi_reversed {e : Expr} {ta : TA} {p pos : Pos} (hg : Gl X "reversed") (hm : X.mg "reversed" = none) (ha : PA X [e] ta) (hs : starEach [e] X.env = [(false, eval e X.env)] := by rfl) : PI X tg (.Call (.Name "reversed" p) [e] [] pos) (iRev X.K ta) := by
  intro pins s σ H R I h
  refine Call_ (ld_blt I hg hm boot_reversed5 (PyProof.Rows.callWith_type1 (thn (ha pos pins s σ H _ I h) fun us s1 ⟨vs, H1, I1, r1, q1⟩ => ?_) hs rfl))
  obtain ⟨a, xs, e, hq, q⟩ := q1
  subst e
  cases r1 with
  | cons r rr =>
    cases rr
    cases r
    obtain ⟨its, rv, p', hz⟩ := I1.list hq
    have hl := rv.length
    have e1 : ((its.toArray.size : Nat) : Int) - 1 = (xs.length : Int) - 1 - ((0 : Nat) : Int) := by simp only [List.size_toArray]; omega
    refine call_reversed_list p'.isList (wpAny_pyIter_revIter (l := a) (i := ((its.toArray.size : Nat) : Int) - 1) ⟨_, Heap.get?_push_size _ rfl, rfl, rfl⟩ ?_)
    refine pi_one (tk := s1.toks) I1 _ (turn_rev a _ xs.length) ⟨Nat.zero_le _, ?_⟩ q
    rw [← e1]
    exact ⟨_, Heap.get?_push_size _ rfl, rfl, rfl⟩
end

/-! ### a str -/
def Its (x : Str) : It := ⟨fun i _ => i < x.cps.size, fun i H v H' => H' = H ∧ ∃ c, x.cps[i]? = some c ∧ v = .str ⟨#[c]⟩, fun i _ => x.cps.size ≤ i⟩
def iStr (te : TE) : TI := fun σ H R => te σ H fun v H1 => ∃ x, v = .str x ∧ R (Its x) H1

/-! ### a dict's keys: any dict's entries -/
section
variable {prog : Program} {w : World} {A : Around} {E : Value → Shared → Prop} {s : Shared}
end

/-! ### a locked dict -/
section
variable {X : Cx} {pins : List (Addr × Obj)} {σ : St} {H : Hp} {s : Shared} {d : Addr} {o : Obj}
end

/-- the keys of the locked dict at d, in their order -/
def Itk (d : Addr) (o : Obj) (kvs : List (Key × V)) : It :=
  ⟨fun i H => H d = some (.frz o (.dK kvs)) ∧ i < kvs.length, fun i H x H' => H' = H ∧ ∃ k v, kvs[i]? = some (k, v) ∧ x = kV k, fun i H => H d = some (.frz o (.dK kvs)) ∧ kvs.length ≤ i⟩
/-- .. of tuple keys: the key's own tuple -/
def Itkt (d : Addr) (o : Obj) (kvs : List (List Key × V)) : It :=
  ⟨fun i H => H d = some (.frz o (.dT kvs)) ∧ i < kvs.length, fun i H x H' => H' = H ∧ ∃ (k : List Key) (v : V) (q : Addr), kvs[i]? = some (k, v) ∧ x = .ref q ∧ H q = some (.tup (k.map kV)), fun i H => H d = some (.frz o (.dT kvs)) ∧ kvs.length ≤ i⟩
/-- the values -/
def Itd (d : Addr) (o : Obj) (kvs : List (Key × V)) : It :=
  ⟨fun i H => H d = some (.frz o (.dK kvs)) ∧ i < kvs.length, fun i H x H' => H' = H ∧ ∃ k, kvs[i]? = some (k, x), fun i H => H d = some (.frz o (.dK kvs)) ∧ kvs.length ≤ i⟩
/-- the pairs, each a new tuple -/
def Iti (d : Addr) (o : Obj) (kvs : List (Key × V)) : It :=
  ⟨fun i H => H d = some (.frz o (.dK kvs)) ∧ i < kvs.length, fun i H x H' => ∃ T k v, kvs[i]? = some (k, v) ∧ x = .ref T ∧ H T = none ∧ H' = upd H T (.tup [kV k, v]), fun i H => H d = some (.frz o (.dK kvs)) ∧ kvs.length ≤ i⟩
section
variable {P : Program} {w : World} {K : PySem.W.Frag} {tg : Expr} {d : Addr} {o : Obj} {es : Array DictEntry} {ep : Nat}
end

/-! ### for k in d, d.keys(), d.values(), d.items() -/
/-- the dict is locked (tLock, or by the caller) -/
def iKeys (td : TE) : TI := fun σ H R => td σ H fun x H1 => ∃ d o, x = .ref d ∧ ((∃ kvs, H1 d = some (.frz o (.dK kvs)) ∧ R (Itk d o kvs) H1) ∨ ∃ kvs, H1 d = some (.frz o (.dT kvs)) ∧ R (Itkt d o kvs) H1)
def iVals (td : TE) : TI := fun σ H R => td σ H fun x H1 => ∃ d o kvs, x = .ref d ∧ H1 d = some (.frz o (.dK kvs)) ∧ R (Itd d o kvs) H1
def iItems (td : TE) : TI := fun σ H R => td σ H fun x H1 => ∃ d o kvs, x = .ref d ∧ H1 d = some (.frz o (.dK kvs)) ∧ R (Iti d o kvs) H1
def iKeysM (td : TE) : TI := fun σ H R => td σ H fun x H1 => ∃ d o kvs, x = .ref d ∧ H1 d = some (.frz o (.dK kvs)) ∧ R (Itk d o kvs) H1
section
variable {X : Cx} {tg e : Expr} {td : TE} {apos cpos : Pos}
end

/-! ### enumerate(list) -/
/-- the list at a as it stands at each turn, each item in a new pair -/
def Ite (K : PySem.W.Frag) (a : Addr) : It :=
  ⟨fun i H => ∃ (xs : List V) (x : V), SqL K H a xs ∧ xs[i]? = some x, fun i H v H' => ∃ T x, v = .ref T ∧ H T = none ∧ H' = upd H T (.tup [.int (i : Nat), x]) ∧ ∀ xs, SqL K H a xs → xs[i]? = some x, fun i H => ∃ xs : List V, SqL K H a xs ∧ xs.length ≤ i⟩
theorem turn_enum {P : Program} {w : World} {K : PySem.W.Frag} {elts : List Expr} {kk : Nat} {tpos : Pos} (a e it : Addr) :
    Turn P w K (.Tuple elts kk tpos) (Ite K a) [e, it] e (fun i h => (∃ old, IsEnum h e it ((i : Nat) : Int) old) ∧ h.IsListIter it a i ∧ e ≠ it) where
  mem := by simp
  obj := fun i h st b hb => by
    obtain ⟨⟨old, he⟩, ⟨o, ho, hc, hd⟩, _⟩ := st
    have e' : b = e ∨ b = it := by simpa using hb
    rcases e' with z | z
    · rw [z]; exact ⟨_, he, fun v q => nomatch q⟩
    · rw [z]; exact ⟨o, ho, fun v q => by rw [hd] at q; cases q⟩
  keep := fun i h h' st k => let ⟨⟨old, he⟩, hi, hne⟩ := st; ⟨⟨old, k e (by simp) _ he⟩, hi.at fun o q => k it (by simp) o q, hne⟩
  item := by
    intro X hP hw hK hc i pins s σ H E I hf st hg
    subst hP hw hK
    obtain ⟨⟨old, he⟩, hit, hne⟩ := st
    obtain ⟨xs, x, hq, hx⟩ := hg
    obtain ⟨its, rv, p, hz⟩ := I.list hq
    obtain ⟨u, hu, ru⟩ := rv.get hx
    have hel : e < s.heap.objs.size := Heap.lt_size he
    have hil : it < s.heap.objs.size := by obtain ⟨_, q, _⟩ := hit; exact Heap.lt_size q
    refine wpAny_pyNext_enum_item he hit p.isList (x := u) (by simpa using hu) hne fun h' ho hit' hT hsz hk => ?_
    refine ⟨_, rfl, wpAny_letOwnedTupleGo_enum (s := { s with heap := h', toks := s.toks + 1 }) ho fun h'' he' sb => ?_⟩
    have hT2 : h''.get? s.heap.objs.size = some { cls := .type "tuple", data := .seq #[.int i s.toks, u] } := (sb.2 _ (Nat.ne_of_gt hel)).trans hT
    have new : ObjOk X.prog X.w (upd H s.heap.objs.size (.tup [.int (i : Nat), x])) h'' s.heap.objs.size (.tup [.int (i : Nat), x]) :=
      ⟨by show 2 ≤ sizeLine; decide, [.int i s.toks, u], .cons ⟨_, rfl⟩ (.cons ru .nil), ⟨_, hT2, rfl, _, rfl⟩⟩
    have I1 : Inv X pins σ (upd H s.heap.objs.size (.tup [.int (i : Nat), x])) { s with heap := h'', toks := s.toks + 1 } :=
      I.turnedNew (ch := [e, it]) (fun b ob hb q => (sb.2 b (fun z => hb (by simp [z]))).trans (hk b ob (fun z => hb (by simp [z])) (fun z => hb (by simp [z])) q)) hf (Nat.le_refl _) new
    refine ⟨.ref s.heap.objs.size, _, I1, rfl, ⟨_, x, rfl, I.hok.fresh (Nat.le_refl _), rfl, fun ys hy => by rw [I.list_inj hy hq]; exact hx⟩, ⟨⟨u, ?_⟩, hit'.at fun o q => (sb.2 it (Ne.symm hne)).trans q, hne⟩, fun b hb => ?_⟩
    · have e1 : ((i + 1 : Nat) : Int) = (i : Int) + 1 := by omega
      rw [e1]; exact he'
    · have hb' : b < s.heap.objs.size := by
        have e' : b = e ∨ b = it := by simpa using hb
        rcases e' with z | z
        · rw [z]; exact hel
        · rw [z]; exact hil
      rw [upd_ne (Nat.ne_of_lt hb')]
      exact (hf b hb).1
  done := by
    intro X hP hw hK hc i pins s σ H E I hf st hg
    subst hP hw hK
    obtain ⟨⟨old, he⟩, hit, hne⟩ := st
    obtain ⟨xs, hq, hx⟩ := hg
    obtain ⟨its, rv, p, hz⟩ := I.list hq
    obtain ⟨f0, f1, f2, f3, f4, f5⟩ := hf it (by simp)
    have hl := rv.length
    exact wpAny_pyNext_enum_end (I.ok.hd hc) he hit p.isList (by simp; omega) fun h' eb => ⟨rfl, I.turned (t' := s.toks) (fun b o hb q => eb b o hb q) f0 f1 f3 f4 f5⟩
  self := fun A i s Q E st h => let ⟨⟨_, he⟩, _⟩ := st; wpAny_pyIter_enum he h
def iEnum (K : PySem.W.Frag) (ta : TA) : TI := fun σ H R => ta σ H fun vs H1 => ∃ a xs, vs = [.ref a] ∧ SqL K H1 a xs ∧ R (Ite K a) H1
theorem pi_enum {X : Cx} {e : Expr} {ta : TA} {p pos tpos : Pos} {elts : List Expr} {kk : Nat} (hg : Gl X "enumerate") (hm : X.mg "enumerate" = none) (ha : PA X [e] ta) (hs : starEach [e] X.env = [(false, eval e X.env)] := by rfl) :
    PI X (.Tuple elts kk tpos) (.Call (.Name "enumerate" p) [e] [] pos) (iEnum X.K ta) := by
  intro pins s σ H R I h
  refine Call_ (ld_blt I hg hm boot_enumerate (PyProof.Rows.callWith_type1 (thn (ha pos pins s σ H _ I h) fun us s1 ⟨vs, H1, I1, r1, q1⟩ => ?_) hs rfl))
  obtain ⟨a, xs, ex, hq, q⟩ := q1
  subst ex
  cases r1 with
  | cons r rr =>
    cases rr
    cases r
    obtain ⟨its, rv, p', hz⟩ := I1.list hq
    refine call_enumerate_list p'.isList fun h' he hit hsz hk => wpAny_pyIter_enum he ?_
    have I2 : Inv X pins σ H1 { s1 with heap := h' } := I1.kept (t' := s1.toks) hk
    refine ⟨s1.heap.objs.size + 1, [s1.heap.objs.size + 1, s1.heap.objs.size], _, _, H1, rfl, I2, turn_enum a (s1.heap.objs.size + 1) s1.heap.objs.size, ⟨⟨.none, he⟩, hit, Nat.succ_ne_self _⟩, fun b hb => ?_, q⟩
    have e' : b = s1.heap.objs.size + 1 ∨ b = s1.heap.objs.size := by simpa using hb
    have hle : s1.heap.objs.size ≤ b := by
      rcases e' with z | z
      · rw [z]; exact Nat.le_add_right _ _
      · rw [z]; exact Nat.le_refl _
    exact I1.fpOk hle (I1.hok.fresh hle)
/-! ### zip(list, list) -/
theorem boot_zip5 : bootBuiltins "zip" = some (.type "zip") := by decide +kernel
/-- the lists at a and b as they stand at each turn, the items in new pairs -/
def Itz (K : PySem.W.Frag) (a b : Addr) : It :=
  ⟨fun i H => ∃ (xs ys : List V) (x y : V), SqL K H a xs ∧ SqL K H b ys ∧ xs[i]? = some x ∧ ys[i]? = some y,
    fun i H v H' => ∃ T x y, v = .ref T ∧ H T = none ∧ H' = upd H T (.tup [x, y]) ∧ (∀ xs, SqL K H a xs → xs[i]? = some x) ∧ ∀ ys, SqL K H b ys → ys[i]? = some y,
    fun i H => ∃ xs ys : List V, SqL K H a xs ∧ SqL K H b ys ∧ (xs.length ≤ i ∨ ys.length ≤ i)⟩
theorem turn_zip {P : Program} {w : World} {K : PySem.W.Frag} {elts : List Expr} {kk : Nat} {tpos : Pos} {a b z TI TO i1 i2 : Addr} (D : ZipApart z TI TO i1 i2 a b) :
    Turn P w K (.Tuple elts kk tpos) (Itz K a b) [z, TI, TO, i1, i2] z (fun i h => IsZip h z TI TO .none ∧ IsPair h TI (.ref i1) (.ref i2) ∧ (∃ x y, IsPair h TO x y) ∧ h.IsListIter i1 a i ∧ h.IsListIter i2 b i) where
  mem := by simp
  obj := fun i h st c hc => by
    obtain ⟨hz, hTI, ⟨x, y, hTO⟩, ⟨o1, e1, _, d1⟩, ⟨o2, e2, _, d2⟩⟩ := st
    have e' : c = z ∨ c = TI ∨ c = TO ∨ c = i1 ∨ c = i2 := by simpa using hc
    rcases e' with q | q | q | q | q
    · rw [q]; exact ⟨_, hz, fun v q => nomatch q⟩
    · rw [q]; exact ⟨_, hTI, fun v q => nomatch q⟩
    · rw [q]; exact ⟨_, hTO, fun v q => nomatch q⟩
    · rw [q]; exact ⟨o1, e1, fun v q => by rw [d1] at q; cases q⟩
    · rw [q]; exact ⟨o2, e2, fun v q => by rw [d2] at q; cases q⟩
  keep := fun i h h' st k => by
    obtain ⟨hz, hTI, ⟨x, y, hTO⟩, h1, h2⟩ := st
    exact ⟨k z (by simp) _ hz, k TI (by simp) _ hTI, ⟨x, y, k TO (by simp) _ hTO⟩, h1.at fun o q => k i1 (by simp) o q, h2.at fun o q => k i2 (by simp) o q⟩
  item := by
    intro X hP hw hK hc i pins s σ H E I hf st hg
    subst hP hw hK
    obtain ⟨hz, hTI, ⟨x0, y0, hTO⟩, h1, h2⟩ := st
    obtain ⟨xs, ys, x, y, hqx, hqy, hx, hy⟩ := hg
    obtain ⟨its, rv, p, _⟩ := I.list hqx
    obtain ⟨its2, rv2, p2, _⟩ := I.list hqy
    obtain ⟨u, hu, ru⟩ := rv.get hx
    obtain ⟨u2, hu2, ru2⟩ := rv2.get hy
    have hzl : z < s.heap.objs.size := Heap.lt_size hz
    refine wpAny_pyNext_zip_item D hz hTI hTO h1 h2 p.isList p2.isList (x := u) (y := u2) (by simpa using hu) (by simpa using hu2) fun h' z' TO' h1' h2' hT hsz hk => ?_
    refine ⟨_, rfl, wpAny_letOwnedTupleGo_zip (s := { s with heap := h' }) z' fun h'' z'' sb => ?_⟩
    have hT2 : h''.get? s.heap.objs.size = some { cls := .type "tuple", data := .seq #[u, u2] } := (sb.2 _ (Nat.ne_of_gt hzl)).trans hT
    have new : ObjOk X.prog X.w (upd H s.heap.objs.size (.tup [x, y])) h'' s.heap.objs.size (.tup [x, y]) :=
      ⟨by show 2 ≤ sizeLine; decide, [u, u2], .cons ru (.cons ru2 .nil), ⟨_, hT2, rfl, _, rfl⟩⟩
    have I1 : Inv X pins σ (upd H s.heap.objs.size (.tup [x, y])) { s with heap := h'' } :=
      I.turnedNew (t' := s.toks) (ch := [z, TI, TO, i1, i2]) (fun c o hb q => (sb.2 c (fun q' => hb (by simp [q']))).trans (hk c o (fun q' => hb (by simp [q'])) (fun q' => hb (by simp [q'])) (fun q' => hb (by simp [q'])) (fun q' => hb (by simp [q'])) q)) hf (Nat.le_refl _) new
    refine ⟨.ref s.heap.objs.size, _, I1, rfl, ⟨_, x, y, rfl, I.hok.fresh (Nat.le_refl _), rfl, fun l hl => by rw [I.list_inj hl hqx]; exact hx, fun l hl => by rw [I.list_inj hl hqy]; exact hy⟩, ⟨z'', ?_, ⟨u, u2, ?_⟩, ?_, ?_⟩, fun c hcm => ?_⟩
    · exact (sb.2 _ D.TIz).trans (hk _ _ D.TIz D.TITO D.TIi1 D.TIi2 hTI)
    · exact (sb.2 _ D.TOz).trans TO'
    · exact h1'.at fun o q => (sb.2 _ D.i1z).trans q
    · exact h2'.at fun o q => (sb.2 _ D.i2z).trans q
    · have hlt : c < s.heap.objs.size := by
        have e' : c = z ∨ c = TI ∨ c = TO ∨ c = i1 ∨ c = i2 := by simpa using hcm
        rcases e' with q | q | q | q | q
        · rw [q]; exact hzl
        · rw [q]; exact Heap.lt_size hTI
        · rw [q]; exact Heap.lt_size hTO
        · rw [q]; obtain ⟨_, e1, _⟩ := h1; exact Heap.lt_size e1
        · rw [q]; obtain ⟨_, e2, _⟩ := h2; exact Heap.lt_size e2
      rw [upd_ne (Nat.ne_of_lt hlt)]
      exact (hf c hcm).1
  done := by
    intro X hP hw hK hc i pins s σ H E I hf st hg
    subst hP hw hK
    obtain ⟨hz, hTI, ⟨x0, y0, hTO⟩, h1, h2⟩ := st
    obtain ⟨xs, ys, hqx, hqy, hend⟩ := hg
    obtain ⟨its, rv, p, _⟩ := I.list hqx
    obtain ⟨its2, rv2, p2, _⟩ := I.list hqy
    have l1 := rv.length
    have l2 := rv2.length
    have he : its.toArray[i]? = none ∨ its2.toArray[i]? = none := by
      rcases hend with q | q
      · exact .inl (by simp; omega)
      · exact .inr (by simp; omega)
    exact wpAny_pyNext_zip_end (I.ok.hd hc) D hz hTI hTO h1 h2 p.isList p2.isList he fun h' hk => ⟨rfl, I.turnedL (t' := s.toks) (ch := [z, TI, TO, i1, i2]) (fun c o hb q =>
      hk c o (fun q' => hb (by simp [q'])) (fun q' => hb (by simp [q'])) (fun q' => hb (by simp [q'])) (fun q' => hb (by simp [q'])) q) hf⟩
  self := fun A i s Q E st h => wpAny_pyIter_zip st.1 h
def iZip (K : PySem.W.Frag) (ta : TA) : TI := fun σ H R => ta σ H fun vs H1 => ∃ a b xs ys, vs = [.ref a, .ref b] ∧ SqL K H1 a xs ∧ SqL K H1 b ys ∧ R (Itz K a b) H1
theorem pi_zip {X : Cx} {e e2 : Expr} {ta : TA} {p pos tpos : Pos} {elts : List Expr} {kk : Nat} (hg : Gl X "zip") (hm : X.mg "zip" = none) (ha : PA X [e, e2] ta)
    (hs : starEach [e, e2] X.env = (false, eval e X.env) :: starEach [e2] X.env := by rfl) (hpl : (backTo pos (starEach [e2] X.env)).any (·.1) = false := by rfl) :
    PI X (.Tuple elts kk tpos) (.Call (.Name "zip" p) [e, e2] [] pos) (iZip X.K ta) := by
  intro pins s σ H R I h
  refine Call_ (ld_blt I hg hm boot_zip5 (PyProof.Rows.callWith_type1 (thn (ha pos pins s σ H _ I h) fun us s1 ⟨vs, H1, I1, r1, q1⟩ => ?_) hs hpl))
  obtain ⟨a, b, xs, ys, ex, hqx, hqy, q⟩ := q1
  subst ex
  cases r1 with
  | cons r rr =>
    cases rr with
    | cons r' rr =>
      cases rr
      cases r
      cases r'
      obtain ⟨its, rv, p1, _⟩ := I1.list hqx
      obtain ⟨its2, rv2, p2, _⟩ := I1.list hqy
      have la : a < s1.heap.objs.size := p1.lt
      have lb : b < s1.heap.objs.size := p2.lt
      refine call_zip_2 p1.isList p2.isList fun h' hz hTI hTO h1 h2 hsz hk => wpAny_pyIter_zip hz ?_
      have I2 : Inv X pins σ H1 { s1 with heap := h' } := I1.kept (t' := s1.toks) hk
      refine ⟨s1.heap.objs.size + 4, [s1.heap.objs.size + 4, s1.heap.objs.size + 2, s1.heap.objs.size + 3, s1.heap.objs.size, s1.heap.objs.size + 1], _, _, H1, rfl, I2, turn_zip (PySem.W.ktu_apart s1.heap.objs.size a b la lb), ⟨hz, hTI, ⟨_, _, hTO⟩, h1, h2⟩, fun c hcm => ?_, q⟩
      have e' : c = s1.heap.objs.size + 4 ∨ c = s1.heap.objs.size + 2 ∨ c = s1.heap.objs.size + 3 ∨ c = s1.heap.objs.size ∨ c = s1.heap.objs.size + 1 := by simpa using hcm
      have hle : s1.heap.objs.size ≤ c := by
        rcases e' with z | z | z | z | z
        · rw [z]; exact Nat.le_add_right _ _
        · rw [z]; exact Nat.le_add_right _ _
        · rw [z]; exact Nat.le_add_right _ _
        · rw [z]; exact Nat.le_refl _
        · rw [z]; exact Nat.le_add_right _ _
      exact I1.fpOk hle (I1.hok.fresh hle)
end L2

section 
namespace Bits
open PySem PyProof.Rows

theorem nat_and_mul_pow (k : Nat) : ∀ a b : Nat, a < 2 ^ k → a &&& (b * 2 ^ k) = 0 := by
  induction k with
  | zero =>
    intro a b h
    have h0 : a = 0 := by
      rw [Nat.pow_zero] at h
      omega
    subst h0
    simp
  | succ k ih =>
    intro a b h
    have hm : (b * 2 ^ (k + 1)) = (b * 2 ^ k) * 2 := by rw [Nat.pow_succ, Nat.mul_assoc]
    have hlt : a / 2 < 2 ^ k := by
      rw [Nat.pow_succ] at h
      generalize 2 ^ k = m at h ⊢
      omega
    have i := ih (a / 2) b hlt
    rw [hm]
    generalize b * 2 ^ k = B at i ⊢
    have e : (a &&& (B * 2)) / 2 = a / 2 &&& (B * 2) / 2 := Nat.and_div_two
    have e2 : (B * 2) / 2 = B := by omega
    have o := @Nat.and_mod_two_eq_one a (B * 2)
    rw [e2, i] at e
    omega

theorem natCast_mul_pow (m k : Nat) : (m : Int) * 2 ^ k = ((m * 2 ^ k : Nat) : Int) := by
  rw [two_pow_cast]
  first
    | exact (Int.natCast_mul _ _).symm
    | simp

/-- low bits a, high part b: (b << k) | a -/
theorem bitOr_join {a b : Int} {k : Nat} (h0 : 0 ≤ a) (h1 : a < 2 ^ k) (hb : 0 ≤ b) : Builtin.bitOr a (b * 2 ^ k) = a + b * 2 ^ k := by
  obtain ⟨n, rfl⟩ := Int.eq_ofNat_of_zero_le h0
  obtain ⟨m, rfl⟩ := Int.eq_ofNat_of_zero_le hb
  have hn : n < 2 ^ k := by
    rw [two_pow_cast] at h1
    omega
  have e : Builtin.bitAnd (n : Int) ((m * 2 ^ k : Nat) : Int) = 0 := by
    rw [bitAnd_pp (by omega) (by omega), Int.toNat_natCast, Int.toNat_natCast, nat_and_mul_pow k n m hn] <;> rfl
  rw [natCast_mul_pow, bitOr_and, e]
  omega
theorem bitOr_join' {a b : Int} {k : Nat} (h0 : 0 ≤ a) (h1 : a < 2 ^ k) (hb : 0 ≤ b) : Builtin.bitOr (b * 2 ^ k) a = a + b * 2 ^ k := by
  rw [bitOr_comm]
  exact bitOr_join h0 h1 hb

/-- x & ((1 << k) - 1) -/
theorem bitAnd_mask {x : Int} (k : Nat) (hx : 0 ≤ x) : Builtin.bitAnd x (2 ^ k - 1) = x % 2 ^ k := by
  obtain ⟨n, rfl⟩ := Int.eq_ofNat_of_zero_le hx
  have hp : 0 < 2 ^ k := Nat.two_pow_pos k
  rw [two_pow_cast]
  have e : ((2 ^ k : Nat) : Int) - 1 = ((2 ^ k - 1 : Nat) : Int) := by
    generalize (2 : Nat) ^ k = m at hp
    omega
  rw [e, bitAnd_pp (by omega) (by omega), Int.toNat_natCast, Int.toNat_natCast, Nat.and_two_pow_sub_one_eq_mod]
  first
    | rfl
    | exact Int.natCast_emod _ _
    | simp


theorem nat_xor_add_and (m : Nat) : ∀ n : Nat, (m ^^^ n) + 2 * (m &&& n) = m + n := by
  induction m using Nat.strongRecOn with
  | _ m ih =>
    intro n
    by_cases h0 : m = 0
    · subst h0
      simp
    · have ih' := ih (m / 2) (by omega) (n / 2)
      rw [← Nat.xor_div_two, ← Nat.and_div_two] at ih'
      have o1 := @Nat.xor_mod_two_eq_one m n
      have a1 := @Nat.and_mod_two_eq_one m n
      omega

theorem bitXor_pp {x y : Int} (hx : 0 ≤ x) (hy : 0 ≤ y) : Builtin.bitXor x y = ((x.toNat ^^^ y.toNat : Nat) : Int) := by
  have e := nat_xor_add_and x.toNat y.toNat
  rw [bitXor_and, bitAnd_pp hx hy]
  omega

end Bits
end 

section 
namespace TL
open PySem PySem.Builtin PySem.Builtin.Str PySem.StrLaws

abbrev tl (x : Str) : List Nat := x.cps.toList

/-! ### the list functions -/
/-- S stands at the head of l -/
def pre (S l : List Nat) : Bool := l.take S.length == S
/-- l cut at each S from the left; k signs are still to be passed over -/
def spl (S : List Nat) : Nat → List Nat → List Nat → List (List Nat)
  | _, acc, [] => [acc]
  | 0, acc, c :: r => if pre S (c :: r) = true then acc :: spl S (S.length - 1) [] r else spl S 0 (acc ++ [c]) r
  | k + 1, acc, _ :: r => spl S k acc r
/-- what stands before the first S, and behind it -/
def par (S : List Nat) : List Nat → List Nat → Option (List Nat × List Nat)
  | _, [] => none
  | acc, c :: r => if pre S (c :: r) = true then some (acc, (c :: r).drop S.length) else par S (acc ++ [c]) r




/-! ### the model's split and partition are these -/




/-! ### computing spl and par -/

/-- joined lists -/
def joinL (S : List Nat) : List (List Nat) → List Nat
  | [] => []
  | [p] => p
  | p :: q :: r => p ++ (S ++ joinL S (q :: r))

/-! ### digits -/
/-- the signs of a number -/
def numL (n : Nat) : List Nat := (Nat.toDigits 10 n).map Char.toNat

/-! ### words: x.split() -/
def wstep (st : List (List Nat) × List Nat) (c : Nat) : List (List Nat) × List Nat :=
  if Unicode.isSpace c = true then (if st.2 = [] then st else (st.1 ++ [st.2], [])) else (st.1, st.2 ++ [c])
def wfin (st : List (List Nat) × List Nat) : List (List Nat) := if st.2 = [] then st.1 else st.1 ++ [st.2]
end TL
end 

namespace L2
open PySem PySem.Spec PyProof.Rows



/-- a new list of texts, tracked -/
def rNewStrs (ys : List Str) : Hp → VK → Prop := fun H Q => ∀ p, H p = none → Q (.ref p) (upd H p (.lst (ys.map V.str)))

section
variable {X : Cx} {pins : List (Addr × Obj)} {σ : St} {H : Hp} {s : Shared} {Q : VK}
end

section
variable {X : Cx}





/-! ### of a text alone -/

/-! ### of a text and a text -/

end

section
variable {X : Cx} {o e : Expr} {to te : TE}
def tM0 (r : V → List V → Hp → VK → Prop) (to : TE) : TE := fun σ H Q => to σ H fun x H1 => (∃ a, x = .str a) ∧ r x [] H1 Q
def tM1 (r : V → List V → Hp → VK → Prop) (to te : TE) : TE := fun σ H Q => to σ H fun x H1 => (∃ a, x = .str a) ∧ te σ H1 fun y H2 => r x [y] H2 Q

end
end L2

namespace L2
open PySem PySem.Spec PyProof.Rows

section
variable {X : Cx}
end

/-! ### slices of a text -/

/-- a part, clipped, as the text's slice reckons it -/
def clipS (n d : Nat) : Option Int → Int
  | none => (d : Int)
  | some i => max 0 (min (if i < 0 then i + (n : Int) else i) (n : Int))

/-- z[lo:hi] -/
def cutS (z : Str) (lo hi : Option Int) : Str :=
  ⟨((z.cps.toList.drop (HT.sIx z.length 0 lo)).take (HT.sIx z.length z.length hi - HT.sIx z.length 0 lo)).toArray⟩
def rSlS : V → Option Int → Option Int → Hp → VK → Prop := fun x lo hi H Q => ∃ z, x = .str z ∧ z.length ≤ sizeLine ∧ Q (.str (cutS z lo hi)) H
end L2

namespace Att
open PySem PySem.W PySem.Calls PyProof.Rows

/-! ### the script -/



/-! ### the attachment: holds_open's last premise (the goal 'hc' behind k_head) from a wpAny of the law's body -/



/-! ### rules over ANY heap (no ledger) from facts about the written part K: the library's own take a ledger (News) for what they write -/
section
variable {prog : Program} {w : World} {A : Around} {E : Value → Shared → Prop} {s : Shared} {K : Frag}





/-! the whole heap as the ledger: makes every rule that writes through a ledger a rule over any heap -/
def noObjs (h : Heap) : Heap := { h with objs := #[] }
def ledger (h : Heap) (L d : Addr) : List (Addr × Obj) := (List.range h.objs.size).filterMap fun a => if a = L ∨ a = d then none else (h.get? a).map fun o => (a, o)

end
end Att

namespace L2
open PySem PySem.Spec PyProof.Rows


/-- nothing is tracked but the script, known to the object (or it is an object of the module) -/
def Only (H : Hp) : Prop := ∀ b, H b = none ∨ ∃ o xs, H b = some (.frz o (.lst xs))

end L2

namespace L2
open PySem PySem.Spec PyProof.Rows

abbrev KOf {K : PySem.W.Frag} {h : Heap} (_ : K.In h) : PySem.W.Frag := K

end L2

/- THE LAST THEOREM (shape; LID, My.* are yours):
   My.Adr: a structure of the addresses that your layer names (classes, functions); My.Txt K t: a structure (Prop) of the equations over K;
   My.txt_mk : {K} {implicit addresses ..} (e1 : nsIn K mainGlobals "law" = some (some (.ref f))) (e2 : K.lookup f = some ⟨oc, od, .func (fnOf "law" "law" params body scope dV kV doc pm an cdv ct), sl⟩) (e3 : codeIn K cdv "law" = true) .. : ∃ t, My.Txt K t

set_option maxRecDepth 100000 in
set_option maxHeartbeats 0 in
theorem PySem.Challenge.cw_LID_holds : PySem.Challenge.rw_LID.Holds := by
  w_on; o_law; k_head; (case hw => w_witness2)
  k_fill
  refine L2.walk_of (l := PySem.Challenge.rw_LID) (n := 63) (k := 40) (x := "script") (CX := fun w => ..) (sp := fun _ => My.sp_law) rfl (by decide) rfl ⟨rfl, by decide, by decide⟩ (fun w h Y => PySem.W.kIn_of Y) ?F ?S ?C
  case F =>
    intro w mg fa h KX G hmg
    have T : ∃ t, My.Txt (L2.KOf KX) t := by
      dsimp only [L2.KOf]                          -- K must stand as «<heap const> w.params» for k_is
      refine' My.txt_mk ?e1 ?e2 ?e3 ..
      (case e1 => PySem.W.k_is)                    -- in the order: a name -> its address -> its object -> its parts
      (case e2 => PySem.W.k_is)
      ..
    obtain ⟨t, T⟩ := T
    have e0 := hmg.symm.trans (PySem.W.mg_of KX G T.law)
    cases e0                                       -- fa is the law's own address
    exact ⟨_, fun s u => .of_eq rfl, fun base kb nb => My.law_fn T kb nb⟩     -- if «.of_eq rfl» comes too early: refine' ⟨_, ?b, fun base kb nb => My.law_fn T kb nb⟩; exact fun s u => .of_eq rfl
  case S => exact fun w H a ns hl hO hS => ..
  case C => exact ..
(the tactic k_is has no namespace: write k_is) -/

/-! SHORT WORDS over the layer: a def of the text, its body, what a loop and a test want. -/
namespace L2
open PySem PySem.Spec PyProof.Rows

/-! ### the text by places -/
/-- the j-th statement of a class's body -/
def inClass (s : Stmt) (j : Nat) : Stmt := match s with
  | .ClassDef _ _ _ body _ _ _ _ _ _ _ => body.getD j (.Pass ⟨0, 0, 0, 0⟩)
  | _ => .Pass ⟨0, 0, 0, 0⟩
def defArgs (s : Stmt) : Arguments := match s with
  | .FunctionDef _ a _ _ _ _ _ _ _ _ => a
  | _ => { posonlyargs := [], args := [], vararg := none, kwonlyargs := [], kw_defaults := [], kwarg := none, defaults := [] }
def defBody (s : Stmt) : List Stmt := match s with
  | .FunctionDef _ _ b _ _ _ _ _ _ _ => b
  | _ => []
def defScope (s : Stmt) : Scope := match s with
  | .FunctionDef _ _ _ _ _ _ sc _ _ _ => sc
  | _ => { kind := .function, names := [], isGenerator := false, isCoroutine := false }

/-! ### no exception leaves a def -/
abbrev CX0 : CXT := fun _ _ _ _ _ _ => False
abbrev E0 : XK := fun _ _ _ => False
theorem pass0 {X : Cx} : Passes CX0 X E0 := fun _ _ _ _ _ _ _ h => h.elim

/-! ### a def (or method) of the text as it stands behind the top -/
structure Fun (K : PySem.W.Frag) (x qual : Str) (st : Stmt) (f : Addr) (fd : FuncData) : Prop where
  ex : ∃ (oc : Value) (od : Option Addr) (kV doc pm : Value) (an : Option Addr) (cdv ct : Value) (osl : Array (Option Value)),
    fd = PySem.W.fnOf x qual (defArgs st) (defBody st) (defScope st) .none kV doc pm an cdv ct ∧ K.lookup f = some ⟨oc, od, .func fd, osl⟩ ∧ PySem.W.codeIn K cdv qual = true
  kp : PySem.W.keepIn K (.ref f) = true
section
variable {P : Program} {w : World} {K : PySem.W.Frag} {mg : Str → Option Value} {base : Heap}
/-- THE RULE for a def: its body as a term of rules, and the reading of that term -/
theorem Fun.ok {x qual : Str} {st : Stmt} {f : Addr} {fd : FuncData} {N ps : List Str} {k : Nat} {sp : Sp} (F : Fun K x qual st f fd) (S : FnScope N ps (defScope st)) (len : ∀ vs H Q E, sp vs H Q E → vs.length = ps.length)
    (hbody : ∀ (cdv : Value) (A : Around) (outer : List Env) (s : Shared) (H : Hp) (vs : List V) (Q : VK) (E : XK), Room k (A.deeper (envOfC qual (defScope st) s.heap.objs.size f cdv)) → sp vs H Q E →
      ∃ t, PSs (cxOf CX0 P w K mg base N qual (defScope st) f cdv A outer s H E).nox (defBody st) t ∧ t { nx := fun _ H' => Q .non H', rt := Q } (start N vs) H) : FnOk P w K mg base CX0 (k + 1) f fd ps sp := by
  obtain ⟨oc, od, kV, doc, pm, an, cdv, ct, osl, rfl, lk, hcd⟩ := F.ex
  refine fn_of lk hcd S len fun A outer s H vs Q E hr hsp => ?_
  obtain ⟨t, h, q⟩ := hbody cdv A outer s H vs Q E hr hsp
  exact ⟨t, h.nox, q⟩
/-- how its arguments bind (no defaults): h is «fun _ _ _ _ _ _ us hl => match us, hl with | [_, _], _ => rfl», one _ a parameter -/
theorem Fun.binds {x qual : Str} {st : Stmt} {f : Addr} {fd : FuncData} {ps : List Str} (F : Fun K x qual st f fd)
    (h : ∀ (kV doc pm : Value) (an : Option Addr) (cdv ct : Value) (us : List Value), us.length = ps.length → bindArgs (PySem.W.fnOf x qual (defArgs st) (defBody st) (defScope st) .none kV doc pm an cdv ct) ⟨us, []⟩ = pure (ps.zip us)) : Binds K fd ps [] := by
  obtain ⟨oc, od, kV, doc, pm, an, cdv, ct, osl, rfl, lk, hcd⟩ := F.ex
  exact .all (h kV doc pm an cdv ct)
theorem fun_mk {x qual : Str} {st : Stmt} {f : Addr} {oc : Value} {od an : Option Addr} {osl : Array (Option Value)} {kV doc pm cdv ct : Value} (l : K.lookup f = some ⟨oc, od, .func (PySem.W.fnOf x qual (defArgs st) (defBody st) (defScope st) .none kV doc pm an cdv ct), osl⟩)
    (c : PySem.W.codeIn K cdv qual = true) (k : PySem.W.keepIn K (.ref f) = true) : Fun K x qual st f (PySem.W.fnOf x qual (defArgs st) (defBody st) (defScope st) .none kV doc pm an cdv ct) := ⟨⟨oc, od, kV, doc, pm, an, cdv, ct, osl, rfl, l, c⟩, k⟩
end

/-! ### expressions in short: the name that stands in the i-th slot -/
section
variable {X : Cx}
theorem pv (i : Nat) {x : Str} {pos : Pos} (hN : X.N[i]? = some x := by rfl) (hv : Vis X.env.scope x := by first | exact Or.inl rfl | exact Or.inr (Or.inl rfl) | exact Or.inr (Or.inr rfl)) (hd : (x == ("__debug__" : Str)) = false := by decide)
    (hcd : (x == ("__classdict__" : Str)) = false := by decide) : PE X (.Name x pos) (tVar i) := pe_var hN hv hd hcd
end

/-! ### tests -/

/-! ### heaps -/
/-- all that was tracked is as it was -/
def Same (H H' : Hp) : Prop := ∀ b o, H b = some o → H' b = some o
theorem Same.trans {H H1 H2 : Hp} (a : Same H H1) (b : Same H1 H2) : Same H H2 := fun c o h => b c o (a c o h)
theorem Same.free {H H' : Hp} (e : Same H H') {l : Addr} (h : H' l = Option.none) : H l = Option.none := by
  cases q : H l with
  | none => rfl
  | some o =>
    rw [e l o q] at h
    cases h
theorem Same.seq {K : PySem.W.Frag} {H H' : Hp} {a : Addr} {xs : List V} (e : Same H H') (h : SqL K H a xs) : SqL K H' a xs := by
  rcases h with (h | ⟨o, h⟩) | h
  · exact .inl (.inl (e _ _ h))
  · exact .inl (.inr ⟨o, e _ _ h⟩)
  · exact .inr h

/-! ### a dict's pairs: keys that differ -/
section
variable {κ : Type} [DecidableEq κ]
end
/-! ### lists -/
end L2

end
section
section
set_option Elab.async false
set_option linter.all false
set_option maxRecDepth 100000
namespace Att
open PySem PySem.W PySem.Calls PyProof.Rows
/-! ### rules over ANY heap (no ledger) from facts about the written part K: the library's own take a ledger (News) for what they write -/
section
variable {prog : Program} {w : World} {A : Around} {E : Value → Shared → Prop} {s : Shared} {K : Frag}
end
end Att
namespace L2
open PySem PySem.Spec PyProof.Rows
end L2
namespace L2
open PySem PySem.Spec PyProof.Rows
end L2
end
section
set_option Elab.async false
set_option linter.all false
set_option maxRecDepth 100000
set_option maxHeartbeats 2000000
namespace L2
open PySem PySem.Spec PyProof.Rows
open PySem.W (WData Codec OpenSpec Well WellAll ReadsW ReadsAllW)
/-! ### an answer as data -/
mutual
/-- x stands for the datum d, lists and tuples all the way -/
inductive Dw (K : PySem.W.Frag) (H : Hp) : V → WData → Prop
  | non : Dw K H .non .none
  | bl (b : Bool) : Dw K H (.bl b) (.bool b)
  | int (i : Int) : Dw K H (.int i) (.int i)
  | str (x : Str) : Dw K H (.str x) (.str x)
  | byt (b : Array UInt8) : Dw K H (.byt b) (.bytes b.toList)
  | lst {a : Addr} {xs : List V} {ds : List WData} : SqL K H a xs → DwAll K H xs ds → Dw K H (.ref a) (.list ds)
  | tup {a : Addr} {xs : List V} {ds : List WData} : SqT K H a xs → DwAll K H xs ds → Dw K H (.ref a) (.tuple ds)
inductive DwAll (K : PySem.W.Frag) (H : Hp) : List V → List WData → Prop
  | nil : DwAll K H [] []
  | cons {v : V} {vs : List V} {d : WData} {ds : List WData} : Dw K H v d → DwAll K H vs ds → DwAll K H (v :: vs) (d :: ds)
end
theorem dw_ints {K : PySem.W.Frag} {H : Hp} : ∀ ns : List Int, DwAll K H (ns.map V.int) (ns.map WData.int)
  | [] => .nil
  | n :: r => .cons (.int n) (dw_ints r)
theorem ints_dw {K : PySem.W.Frag} {H : Hp} : ∀ (ns : List Int) (xs : List V), DwAll K H xs (ns.map WData.int) → xs = ns.map V.int
  | [], xs, h => by
    cases h
    rfl
  | n :: r, xs, h => by
    cases h with
    | cons h1 h2 =>
      cases h1
      rw [ints_dw r _ h2] <;> rfl
section
variable {P : Program} {w : World} {K : PySem.W.Frag} {H : Hp} {h : Heap} {R : PySem.W.WRecords} {cl : Str → Option Addr}
theorem sqL_at {a : Addr} {xs : List V} (hok : HOk P w H h) (KX : K.In h) (q : SqL K H a xs) : ∃ (its : List Value) (o : Obj) (n : Nat), Vals xs its ∧ h.get? a = some o ∧ o.cls = .type "list" ∧ o.data = .seq its.toArray n := by
  rcases q with q | ⟨o, its, n, e, hc, _, hd, _, hv⟩
  · obtain ⟨_, its, n, hv, e⟩ := (show ObjOk P w H h a (.lst xs) from q.ok hok)
    exact ⟨its, _, n, hv, e, rfl, rfl⟩
  · exact ⟨its.toList, o, n, hv, KX _ _ e, hc, by simp [hd]⟩
theorem sqT_at {a : Addr} {xs : List V} (hok : HOk P w H h) (KX : K.In h) (q : SqT K H a xs) : ∃ (its : List Value) (o : Obj) (n : Nat), Vals xs its ∧ h.get? a = some o ∧ o.cls = .type "tuple" ∧ o.data = .seq its.toArray n := by
  rcases q with q | ⟨o, its, n, e, hc, hd, _, hv⟩
  · obtain ⟨_, its, hv, o, e, hc, n, hd⟩ := (show ObjOk P w H h a (.tup xs) from q.ok hok)
    exact ⟨its, o, n, hv, e, hc, hd⟩
  · exact ⟨its.toList, o, n, hv, KX _ _ e, hc, by simp [hd]⟩
mutual
theorem Dw.reads (hok : HOk P w H h) (KX : K.In h) : ∀ (d : WData) (v : V) (u : Value), Dw K H v d → RelV v u → ∃ as, ReadsW R cl h u d as
  | .none, _, _, x, r => by
    cases x
    cases r
    exact ⟨_, ReadsW.none⟩
  | .bool b, _, _, x, r => by
    cases x
    cases r
    exact ⟨_, ReadsW.bool b⟩
  | .int i, _, _, x, r => by
    cases x
    obtain ⟨t, rfl⟩ := r
    exact ⟨_, ReadsW.int i t⟩
  | .str s, _, _, x, r => by
    cases x
    obtain ⟨t, rfl⟩ := r
    exact ⟨_, ReadsW.str s t⟩
  | .bytes b, _, _, x, r => by
    cases x
    obtain ⟨t, rfl⟩ := r
    exact ⟨_, ReadsW.bytes _ t⟩
  | .list ds, _, _, x, r => by
    cases x with
    | lst hs ha =>
      cases r
      obtain ⟨its, o, n, rv, ho, hc, hd⟩ := sqL_at hok KX hs
      obtain ⟨as, hr⟩ := Dw.readsAll hok KX ds _ its ha rv
      exact ⟨_, ReadsW.list ho hc hd hr⟩
  | .tuple ds, _, _, x, r => by
    cases x with
    | tup hs ha =>
      cases r
      obtain ⟨its, o, n, rv, ho, hc, hd⟩ := sqT_at hok KX hs
      obtain ⟨as, hr⟩ := Dw.readsAll hok KX ds _ its ha rv
      exact ⟨_, ReadsW.tuple ho hc hd hr⟩
  | .float _, _, _, x, _ => by cases x
  | .dict _, _, _, x, _ => by cases x
  | .bytearray _, _, _, x, _ => by cases x
  | .set _, _, _, x, _ => by cases x
  | .frozenset _, _, _, x, _ => by cases x
  | .obj _ _, _, _, x, _ => by cases x
theorem Dw.readsAll (hok : HOk P w H h) (KX : K.In h) : ∀ (ds : List WData) (vs : List V) (us : List Value), DwAll K H vs ds → Vals vs us → ∃ as, ReadsAllW R cl h us ds as
  | [], _, _, x, r => by
    cases x
    cases r
    exact ⟨_, ReadsAllW.nil⟩
  | d :: ds, _, _, x, r => by
    cases x with
    | cons h1 h2 =>
      cases r with
      | cons r1 r2 =>
        obtain ⟨as, q1⟩ := Dw.reads hok KX d _ _ h1 r1
        obtain ⟨bs, q2⟩ := Dw.readsAll hok KX ds _ _ h2 r2
        exact ⟨_, ReadsAllW.cons q1 q2⟩
end
end
/-! ### the arguments -/
mutual
/-- data that a codec tells -/
def plW : WData → Bool
  | .none => true
  | .bool _ => true
  | .int _ => true
  | .str _ => true
  | .bytes _ => true
  | .list xs => plWs xs
  | .tuple xs => plWs xs
  | _ => false
def plWs : List WData → Bool
  | [] => true
  | x :: r => plW x && plWs r
end
theorem plWs_map {α : Type} {f : α → WData} (h : ∀ a, plW (f a) = true) : ∀ l : List α, plWs (l.map f) = true
  | [] => rfl
  | x :: r => by
    show (plW (f x) && plWs (r.map f)) = true
    rw [h x, plWs_map h r] <;> rfl
theorem pl_enc : ∀ (c : Codec) (a : c.denote), plW (c.enc a) = true
  | .unit, _ => rfl
  | .bool, _ => rfl
  | .int _ _, _ => rfl
  | .nat _ _, _ => rfl
  | .u8, _ => rfl
  | .bytes _ _, _ => rfl
  | .text _ _ _ _, _ => rfl
  | .list _ _ c, a => plWs_map (fun x => pl_enc c x) a
  | .pair c d, a => by
    show (plW (c.enc a.1) && (plW (d.enc a.2) && true)) = true
    rw [pl_enc c a.1, pl_enc d a.2] <;> rfl
  | .triple c d e, a => by
    show (plW (c.enc a.1) && (plW (d.enc a.2.1) && (plW (e.enc a.2.2) && true))) = true
    rw [pl_enc c a.1, pl_enc d a.2.1, pl_enc e a.2.2] <;> rfl
  | .option c, none => rfl
  | .option c, some x => pl_enc c x
theorem pl_encAll : ∀ (cs : List Codec) (a : Codec.denoteAll cs), plWs (Codec.encAll cs a) = true
  | [], _ => rfl
  | c :: cs, a => by
    show (plW (c.enc a.1) && plWs (Codec.encAll cs a.2)) = true
    rw [pl_enc c a.1, pl_encAll cs a.2] <;> rfl
theorem weight_mem : ∀ {xs : List WData} {d : WData}, d ∈ xs → d.weight ≤ WData.weightAll xs
  | [], d, h => absurd h (by simp)
  | x :: r, d, h => by
    show d.weight ≤ x.weight + 1 + WData.weightAll r
    rcases List.mem_cons.mp h with e | m
    · rw [e]
      omega
    · have z := weight_mem m
      omega
def toV : Value → V
  | .none => .non
  | .bool b => .bl b
  | .int i _ => .int i
  | .str x _ => .str x
  | .bytes b _ => .byt b
  | .ref a => .ref a
  | _ => .non
/-- a value of the arguments, its objects among A -/
def OkU (A : List Addr) : Value → Prop
  | .none => True
  | .bool _ => True
  | .int _ _ => True
  | .str _ _ => True
  | .bytes _ _ => True
  | .ref a => a ∈ A
  | _ => False
theorem OkU.mono {A B : List Addr} (h : ∀ a ∈ A, a ∈ B) : ∀ {u : Value}, OkU A u → OkU B u := fun {u} x => by
  cases u with
  | ref a => exact h a x
  | none => trivial
  | bool b => trivial
  | int i t => trivial
  | str s t => trivial
  | bytes b t => trivial
  | _ => exact False.elim x
theorem relV_toV {A : List Addr} {u : Value} (x : OkU A u) : RelV (toV u) u := by
  cases u with
  | ref a => rfl
  | none => rfl
  | bool b => rfl
  | int i t => exact ⟨t, rfl⟩
  | str s t => exact ⟨t, rfl⟩
  | bytes b t => exact ⟨t, rfl⟩
  | _ => exact False.elim x
theorem vals_toV {A : List Addr} : ∀ {vs : List Value}, (∀ u ∈ vs, OkU A u) → Vals (vs.map toV) vs
  | [], _ => .nil
  | u :: r, h => .cons (relV_toV (h u (List.mem_cons_self ..))) (vals_toV fun x hx => h x (List.mem_cons_of_mem _ hx))
/-- an object of the arguments -/
def ArgOb (h : Heap) (A : List Addr) (a : Addr) : Prop := ∃ vs : List Value, vs.length ≤ sizeLine ∧ (∀ u ∈ vs, OkU A u) ∧
  (h.get? a = some { cls := .type "list", data := .seq vs.toArray } ∨ h.get? a = some { cls := .type "tuple", data := .seq vs.toArray })
theorem ArgOb.mono {h : Heap} {A B : List Addr} {a : Addr} (k : ∀ a ∈ A, a ∈ B) (x : ArgOb h A a) : ArgOb h B a := by
  obtain ⟨vs, h1, h2, h3⟩ := x
  exact ⟨vs, h1, fun u hu => (h2 u hu).mono k, h3⟩
theorem wellAll_len {P : Params} {h : Heap} : ∀ {vs : List Value} {ds : List WData}, WellAll P h vs ds → vs.length = ds.length
  | _, _, .nil => rfl
  | _, _, .cons _ b => by
    show _ + 1 = _ + 1
    rw [wellAll_len b]
theorem well_list {P : Params} {h : Heap} {v : Value} {ds : List WData} (x : Well P h v (.list ds)) : ∃ (a : Addr) (vs : List Value), v = .ref a ∧ h.get? a = some { cls := .type "list", data := .seq vs.toArray } ∧ WellAll P h vs ds := by
  cases x with
  | list ho hall => exact ⟨_, _, rfl, ho, hall⟩
theorem well_tuple {P : Params} {h : Heap} {v : Value} {ds : List WData} (x : Well P h v (.tuple ds)) : ∃ (a : Addr) (vs : List Value), v = .ref a ∧ h.get? a = some { cls := .type "tuple", data := .seq vs.toArray } ∧ WellAll P h vs ds := by
  cases x with
  | tuple ho hall => exact ⟨_, _, rfl, ho, hall⟩
theorem well_cons {P : Params} {h : Heap} {us : List Value} {d : WData} {ds : List WData} (x : WellAll P h us (d :: ds)) : ∃ (v : Value) (vs : List Value), us = v :: vs ∧ Well P h v d ∧ WellAll P h vs ds := by
  cases x with
  | cons a b => exact ⟨_, _, rfl, a, b⟩
theorem line_of {n : Nat} (h : n ≤ 1048576) : n ≤ sizeLine := Nat.le_trans h (by decide)
section
variable {P : Params} {h : Heap}
mutual
theorem area_one : ∀ (d : WData) (v : Value), Well P h v d → plW d = true → d.weight ≤ 1048576 → ∃ A : List Addr, OkU A v ∧ ∀ a ∈ A, ArgOb h A a
  | .none, _, x, _, _ => by
    cases x
    exact ⟨[], trivial, fun a m => absurd m (by simp)⟩
  | .bool b, _, x, _, _ => by
    cases x
    exact ⟨[], trivial, fun a m => absurd m (by simp)⟩
  | .int i, _, x, _, _ => by
    cases x
    exact ⟨[], trivial, fun a m => absurd m (by simp)⟩
  | .str s, _, x, _, _ => by
    cases x
    exact ⟨[], trivial, fun a m => absurd m (by simp)⟩
  | .bytes b, _, x, _, _ => by
    cases x
    exact ⟨[], trivial, fun a m => absurd m (by simp)⟩
  | .list ds, _, x, p, z => by
    obtain ⟨a, vs, rfl, ho, hall⟩ := well_list x
    have z2 : WData.weightAll ds ≤ 1048576 := z
    obtain ⟨A, h1, h2⟩ := area_all ds _ hall p fun d hd => Nat.le_trans (weight_mem hd) z2
    have k : ∀ b ∈ A, b ∈ a :: A := fun b hb => List.mem_cons_of_mem _ hb
    refine ⟨a :: A, List.mem_cons_self .., fun b hb => ?_⟩
    rcases List.mem_cons.mp hb with e | m
    · rw [e]
      exact ⟨vs, line_of (by rw [wellAll_len hall]; exact Nat.le_trans (PySem.W.length_le_weightAllW ds) z2), fun u hu => (h1 u hu).mono k, .inl ho⟩
    · exact (h2 b m).mono k
  | .tuple ds, _, x, p, z => by
    obtain ⟨a, vs, rfl, ho, hall⟩ := well_tuple x
    have z2 : WData.weightAll ds ≤ 1048576 := z
    obtain ⟨A, h1, h2⟩ := area_all ds _ hall p fun d hd => Nat.le_trans (weight_mem hd) z2
    have k : ∀ b ∈ A, b ∈ a :: A := fun b hb => List.mem_cons_of_mem _ hb
    refine ⟨a :: A, List.mem_cons_self .., fun b hb => ?_⟩
    rcases List.mem_cons.mp hb with e | m
    · rw [e]
      exact ⟨vs, line_of (by rw [wellAll_len hall]; exact Nat.le_trans (PySem.W.length_le_weightAllW ds) z2), fun u hu => (h1 u hu).mono k, .inr ho⟩
    · exact (h2 b m).mono k
  | .float _, _, _, p, _ => Bool.noConfusion (show false = true from p)
  | .dict _, _, _, p, _ => Bool.noConfusion (show false = true from p)
  | .bytearray _, _, _, p, _ => Bool.noConfusion (show false = true from p)
  | .set _, _, _, p, _ => Bool.noConfusion (show false = true from p)
  | .frozenset _, _, _, p, _ => Bool.noConfusion (show false = true from p)
  | .obj _ _, _, _, p, _ => Bool.noConfusion (show false = true from p)
theorem area_all : ∀ (ds : List WData) (vs : List Value), WellAll P h vs ds → plWs ds = true → (∀ d ∈ ds, d.weight ≤ 1048576) → ∃ A : List Addr, (∀ u ∈ vs, OkU A u) ∧ ∀ a ∈ A, ArgOb h A a
  | [], _, x, _, _ => by
    cases x
    exact ⟨[], fun u m => absurd m (by simp), fun a m => absurd m (by simp)⟩
  | d :: ds, _, x, p, z => by
    obtain ⟨v, vs, rfl, x1, x2⟩ := well_cons x
    have q : plW d = true ∧ plWs ds = true := Bool.and_eq_true_iff.mp p
    obtain ⟨A, a1, a2⟩ := area_one d v x1 q.1 (z d (List.mem_cons_self ..))
    obtain ⟨B, b1, b2⟩ := area_all ds vs x2 q.2 fun e he => z e (List.mem_cons_of_mem _ he)
    have kA : ∀ b ∈ A, b ∈ A ++ B := fun b hb => List.mem_append.mpr (.inl hb)
    have kB : ∀ b ∈ B, b ∈ A ++ B := fun b hb => List.mem_append.mpr (.inr hb)
    refine ⟨A ++ B, fun u hu => ?_, fun b hb => ?_⟩
    · rcases List.mem_cons.mp hu with e | m
      · rw [e]
        exact a1.mono kA
      · exact (b1 u m).mono kB
    · rcases List.mem_append.mp hb with m | m
      · exact (a2 b m).mono kA
      · exact (b2 b m).mono kB
end
end
/-- what is tracked of an argument's object -/
def hoOf (o : Obj) : Option HO := match o.data with
  | .seq vs _ => if (o.cls == Value.type "list") = true then some (.frz o (.lst (vs.toList.map toV))) else some (.frz o (.tup (vs.toList.map toV)))
  | _ => none
def argH (K : PySem.W.Frag) (h : Heap) (A : List Addr) : Hp := fun b => if b ∈ A then (if (K.lookup b).isNone = true then (h.get? b).bind hoOf else none) else none
/-- nothing is tracked but what is known to the object -/
def OnlyF (H : Hp) : Prop := ∀ b, H b = none ∨ ∃ o u, H b = some (.frz o u)
theorem hoOf_lst (vs : List Value) : hoOf { cls := .type "list", data := .seq vs.toArray } = some (.frz { cls := .type "list", data := .seq vs.toArray } (.lst (vs.map toV))) := by
  show (if (Value.type "list" == Value.type "list") = true then some (HO.frz { cls := .type "list", data := .seq vs.toArray } (.lst (vs.toArray.toList.map toV))) else some (HO.frz { cls := .type "list", data := .seq vs.toArray } (.tup (vs.toArray.toList.map toV)))) = _
  rw [if_pos (beq_self_eq_true _)]
theorem hoOf_tup (vs : List Value) : hoOf { cls := .type "tuple", data := .seq vs.toArray } = some (.frz { cls := .type "tuple", data := .seq vs.toArray } (.tup (vs.map toV))) := by
  show (if (Value.type "tuple" == Value.type "list") = true then some (HO.frz { cls := .type "tuple", data := .seq vs.toArray } (.lst (vs.toArray.toList.map toV))) else some (HO.frz { cls := .type "tuple", data := .seq vs.toArray } (.tup (vs.toArray.toList.map toV)))) = _
  rw [if_neg (by decide)]
section
variable {P : Program} {w : World} {K : PySem.W.Frag} {h : Heap} {A : List Addr}
theorem argH_at {b : Addr} {o : Obj} (hb : b ∈ A) (hk : K.lookup b = none) (e : h.get? b = some o) : argH K h A b = hoOf o := by
  unfold argH
  rw [if_pos hb, hk, if_pos (show (none : Option Obj).isNone = true from rfl), e] <;> rfl
theorem of_argH {b : Addr} {u : HO} (q : argH K h A b = some u) : b ∈ A ∧ K.lookup b = none := by
  unfold argH at q
  by_cases hb : b ∈ A
  · rw [if_pos hb] at q
    cases hk : K.lookup b with
    | none => exact ⟨hb, rfl⟩
    | some o =>
      rw [hk, if_neg (by simp)] at q
      cases q
  · rw [if_neg hb] at q
    cases q
/-- what stands tracked -/
theorem argH_is (ar : ∀ a ∈ A, ArgOb h A a) {b : Addr} {u : HO} (q : argH K h A b = some u) : K.lookup b = none ∧ ∃ vs : List Value, vs.length ≤ sizeLine ∧ (∀ u ∈ vs, OkU A u) ∧
    ((h.get? b = some { cls := .type "list", data := .seq vs.toArray } ∧ u = .frz { cls := .type "list", data := .seq vs.toArray } (.lst (vs.map toV))) ∨
     (h.get? b = some { cls := .type "tuple", data := .seq vs.toArray } ∧ u = .frz { cls := .type "tuple", data := .seq vs.toArray } (.tup (vs.map toV)))) := by
  obtain ⟨hb, hk⟩ := of_argH q
  obtain ⟨vs, h1, h2, h3⟩ := ar b hb
  refine ⟨hk, vs, h1, h2, ?_⟩
  rcases h3 with e | e
  · rw [argH_at hb hk e, hoOf_lst] at q
    exact .inl ⟨e, (Option.some.inj q).symm⟩
  · rw [argH_at hb hk e, hoOf_tup] at q
    exact .inr ⟨e, (Option.some.inj q).symm⟩
theorem argH_only (ar : ∀ a ∈ A, ArgOb h A a) : OnlyF (argH K h A) := fun b => by
  cases q : argH K h A b with
  | none => exact .inl rfl
  | some u =>
    obtain ⟨_, vs, _, _, ⟨_, e⟩ | ⟨_, e⟩⟩ := argH_is ar q
    · exact .inr ⟨_, _, by rw [e]⟩
    · exact .inr ⟨_, _, by rw [e]⟩
theorem argH_ok (ar : ∀ a ∈ A, ArgOb h A a) : HOk P w (argH K h A) h := fun b u q => by
  obtain ⟨_, vs, h1, h2, ⟨e, rfl⟩ | ⟨e, rfl⟩⟩ := argH_is ar q
  · exact ⟨e, by rw [List.length_map]; exact h1, vs, _, vals_toV h2, e⟩
  · exact ⟨e, by rw [List.length_map]; exact h1, vs, vals_toV h2, _, e, rfl, _, rfl⟩
theorem seq_inj {c c' : Value} {vs us : List Value} (e : (some { cls := c, data := .seq vs.toArray } : Option Obj) = some { cls := c', data := .seq us.toArray }) : c = c' ∧ vs = us := by
  have e1 := Option.some.inj e
  have e2 : c = c' := congrArg Obj.cls e1
  have e3 : Data.seq vs.toArray = Data.seq us.toArray := congrArg Obj.data e1
  injection e3 with e4
  refine ⟨e2, ?_⟩
  have e5 := congrArg Array.toList e4
  simpa using e5
/-- a list argument -/
theorem argL (KX : K.In h) (ar : ∀ a ∈ A, ArgOb h A a) {a : Addr} {vs : List Value} (ha : a ∈ A) (e : h.get? a = some { cls := .type "list", data := .seq vs.toArray }) : (∀ u ∈ vs, OkU A u) ∧ SqL K (argH K h A) a (vs.map toV) := by
  obtain ⟨us, h1, h2, h3⟩ := ar a ha
  have hu : us = vs := by
    rcases h3 with q | q
    · rw [e] at q
      exact (seq_inj q).2.symm
    · rw [e] at q
      exact absurd (Value.type.inj (seq_inj q).1) (by decide)
  subst hu
  refine ⟨h2, ?_⟩
  cases hk : K.lookup a with
  | none => exact .inl (.inr ⟨_, by rw [argH_at ha hk e, hoOf_lst]⟩)
  | some o =>
    have e2 := KX a o hk
    rw [e] at e2
    obtain rfl := Option.some.inj e2
    exact .inr ⟨_, us.toArray, _, hk, rfl, rfl, rfl, by rw [List.size_toArray]; exact h1, by simpa using vals_toV h2⟩
theorem argT (KX : K.In h) (ar : ∀ a ∈ A, ArgOb h A a) {a : Addr} {vs : List Value} (ha : a ∈ A) (e : h.get? a = some { cls := .type "tuple", data := .seq vs.toArray }) : (∀ u ∈ vs, OkU A u) ∧ SqT K (argH K h A) a (vs.map toV) := by
  obtain ⟨us, h1, h2, h3⟩ := ar a ha
  have hu : us = vs := by
    rcases h3 with q | q
    · rw [e] at q
      exact absurd (Value.type.inj (seq_inj q).1) (by decide)
    · rw [e] at q
      exact (seq_inj q).2.symm
  subst hu
  refine ⟨h2, ?_⟩
  cases hk : K.lookup a with
  | none => exact .inl (.inr ⟨_, by rw [argH_at ha hk e, hoOf_tup]⟩)
  | some o =>
    have e2 := KX a o hk
    rw [e] at e2
    obtain rfl := Option.some.inj e2
    exact .inr ⟨_, us.toArray, _, hk, rfl, rfl, by rw [List.size_toArray]; exact h1, by simpa using vals_toV h2⟩
mutual
theorem dw_one {Pm : Params} (KX : K.In h) (ar : ∀ a ∈ A, ArgOb h A a) : ∀ (d : WData) (v : Value), Well Pm h v d → plW d = true → OkU A v → Dw K (argH K h A) (toV v) d
  | .none, _, x, _, _ => by
    cases x
    exact .non
  | .bool b, _, x, _, _ => by
    cases x
    exact .bl b
  | .int i, _, x, _, _ => by
    cases x
    exact .int i
  | .str s, _, x, _, _ => by
    cases x
    exact .str s
  | .bytes b, _, x, _, _ => by
    cases x
    have z := Dw.byt (K := K) (H := argH K h A) b.toArray
    exact z
  | .list ds, _, x, p, hu => by
    obtain ⟨a, vs, rfl, ho, hall⟩ := well_list x
    obtain ⟨h2, hs⟩ := argL KX ar hu ho
    exact .lst hs (dw_all KX ar ds _ hall p h2)
  | .tuple ds, _, x, p, hu => by
    obtain ⟨a, vs, rfl, ho, hall⟩ := well_tuple x
    obtain ⟨h2, hs⟩ := argT KX ar hu ho
    exact .tup hs (dw_all KX ar ds _ hall p h2)
  | .float _, _, _, p, _ => Bool.noConfusion (show false = true from p)
  | .dict _, _, _, p, _ => Bool.noConfusion (show false = true from p)
  | .bytearray _, _, _, p, _ => Bool.noConfusion (show false = true from p)
  | .set _, _, _, p, _ => Bool.noConfusion (show false = true from p)
  | .frozenset _, _, _, p, _ => Bool.noConfusion (show false = true from p)
  | .obj _ _, _, _, p, _ => Bool.noConfusion (show false = true from p)
theorem dw_all {Pm : Params} (KX : K.In h) (ar : ∀ a ∈ A, ArgOb h A a) : ∀ (ds : List WData) (vs : List Value), WellAll Pm h vs ds → plWs ds = true → (∀ u ∈ vs, OkU A u) → DwAll K (argH K h A) (vs.map toV) ds
  | [], _, x, _, _ => by
    cases x
    exact .nil
  | d :: ds, _, x, p, hu => by
    obtain ⟨v, vs, rfl, x1, x2⟩ := well_cons x
    have q : plW d = true ∧ plWs ds = true := Bool.and_eq_true_iff.mp p
    exact .cons (dw_one KX ar d v x1 q.1 (hu _ (List.mem_cons_self ..))) (dw_all KX ar ds vs x2 q.2 fun u m => hu u (List.mem_cons_of_mem _ m))
end
end
/-! ### the call -/
theorem spec_call {P : Program} {w : World} {K : PySem.W.Frag} {mg mb : Str → Option Value} {CX : CXT} {k : Nat} {fa : Addr} {fd : FuncData} {ps : List Str} {sp : Sp} {s₁ : Shared} {vals : List Value} {ds : List WData} {R : PySem.W.WRecords} {cl : Str → Option Addr} {d0 : WData}
    (KX : K.In s₁.heap) (hns : s₁.heap.Ns mainGlobals mg) (hb : s₁.heap.Ns builtinsNs mb) (hbb : ∀ x : Str, x ≠ "__name__" → mb x = bootBuiltins x) (hlim : s₁.heap.NoLimit) (hg : s₁.gens = #[])
    (hwl : WellAll w.params s₁.heap vals ds) (hpl : plWs ds = true) (hwt : ∀ d ∈ ds, d.weight ≤ 1048576) (hr : Room k callerA)
    (F : ∀ base : Heap, K.In base → base.Ns mainGlobals mg → FnOk P w K mg base CX k fa fd ps sp) (hbind : ∀ (s : Shared) (us : List Value), us.length = ps.length → BindsTo s fd ⟨us, []⟩ (ps.zip us)) (hlen : ds.length = ps.length)
    (hsp : ∀ (H : Hp) (xs : List V), OnlyF H → DwAll K H xs ds → sp xs H (fun v H' => Dw K H' v d0) fun _ _ _ => False)
    (hCX : ∀ H e s', CX [] H s₁ (fun _ _ _ => False) e s' → False) :
    codeAny (model P w) callerA (.call (.ref fa) ⟨vals, []⟩) (fun r s' => ∃ u as, r = .ok (.ret u) ∧ ReadsW R cl s'.heap u d0 as ∧ OldK s₁.heap s'.heap ∧ s'.os = s₁.os ∧ AllBare s'.gens) s₁ := by
  obtain ⟨A, ho, ar⟩ := area_all ds vals hwl hpl hwt
  have hO : OnlyF (argH K s₁.heap A) := argH_only ar
  have hok : HOk P w (argH K s₁.heap A) s₁.heap := argH_ok ar
  have hS := dw_all KX ar ds vals hwl hpl ho
  have hV := vals_toV ho
  have hK : ∀ b u, argH K s₁.heap A b = some u → K.lookup b = none := fun b u q => (argH_is ar q).1
  have noA : ∀ {b : Addr} {o : Obj} {es : Array DictEntry} {ep : Nat}, s₁.heap.get? b = some o → o.data = .dict es ep → argH K s₁.heap A b = none := fun {b o es ep} e d => by
    cases q : argH K s₁.heap A b with
    | none => rfl
    | some u =>
      obtain ⟨_, vs, _, _, ⟨e2, _⟩ | ⟨e2, _⟩⟩ := argH_is ar q
      · rw [e2] at e
        cases e
        have d' : Data.seq vs.toArray _ = Data.dict es ep := d
        cases d'
      · rw [e2] at e
        cases e
        have d' : Data.seq vs.toArray _ = Data.dict es ep := d
        cases d'
  generalize argH K s₁.heap A = H at hO hok hS hK noA
  have base_of : ∀ {b : Addr} {o : Obj}, s₁.heap.get? b = some o → H b = none → (hidT s₁.heap H).get? b = some o := fun e n => hidT_get e n
  have nsK : ∀ {b : Addr} {m : Str → Option Value}, s₁.heap.Ns b m → (hidT s₁.heap H).Ns b m := fun {b m} ⟨o, es, ep, e, d, r⟩ => ⟨o, es, ep, base_of e (noA e d), d, r⟩
  have nK : ∀ b o, K.lookup b = some o → H b = none := fun b o e => by
    cases q : H b with
    | none => rfl
    | some u =>
      rw [hK b u q] at e
      cases e
  have hKb : K.In (hidT s₁.heap H) := fun b o e => base_of (KX b o e) (nK b o e)
  have hM : Mod K mg (hidT s₁.heap H) := ⟨hKb, nsK hns, ⟨mb, nsK hb, hbb⟩, let ⟨mc, h1, h2⟩ := hlim; ⟨mc, nsK h1, h2⟩⟩
  have e0 : Env0 P w K mg (hidT s₁.heap H) callerA [] s₁ H := ⟨rfl, hM, fun b o e => of_hidT e, Nat.le_of_eq (hidT_size _ _), trivial, fun b hb => absurd (show b ∈ ([] : List Addr) from hb) (by simp), hok, .of_eq hg⟩
  have hl : vals.length = ps.length := by rw [wellAll_len hwl]; exact hlen
  refine codeAny_mono ((F _ hKb (nsK hns)).run callerA [] s₁ H ⟨vals, []⟩ vals (vals.map toV) _ _ hr e0 (hbind s₁ vals hl) hV (hsp H _ hO hS)) fun r s' x => ?_
  cases r with
  | error e => exact (hCX H e s' x).elim
  | ok fl =>
    cases fl with
    | next => exact False.elim x
    | brk => exact False.elim x
    | cont => exact False.elim x
    | ret u =>
      obtain ⟨v, H', os, bare, un, hok', r', q⟩ := x
      have kept : ∀ b o, s₁.heap.get? b = some o → s'.heap.get? b = some o := fun b o e => by
        cases q2 : H b with
        | none => exact un.keep b o e q2 (by intro z; exact absurd (show b ∈ ([] : List Addr) from z) (by simp)) (by simp)
        | some u2 =>
          rcases hO b with z | ⟨ob, u3, z⟩
          · rw [q2] at z
            cases z
          · have z2 := un.frzs b ob _ z
            obtain ⟨e1, _⟩ := hok b _ z
            obtain ⟨e2, _⟩ := hok' b _ z2
            rw [e] at e1
            cases e1
            exact e2
      have KX' : K.In s'.heap := fun b o e => kept b o (KX b o e)
      obtain ⟨as, hrd⟩ := Dw.reads (R := R) (cl := cl) hok' KX' d0 v u q r'
      exact ⟨u, as, rfl, hrd, OldK.of_keep kept, os, bare⟩
/-! ### the row -/
theorem layable_weight {ds : List WData} (h : WData.layableAll ds = true) : ∀ d ∈ ds, d.weight ≤ 1048576 := fun d hd =>
  (PySem.W.layableW_iff.mp (List.all_eq_true.mp h d hd)).2.2
theorem encAll_len : ∀ (cs : List Codec) (a : Codec.denoteAll cs), (Codec.encAll cs a).length = cs.length
  | [], _ => rfl
  | c :: cs, a => by
    show (Codec.encAll cs a.2).length + 1 = cs.length + 1
    rw [encAll_len cs a.2]
/-- the goal that k_headS leaves (case hc), from the promise of the row's def: whatever the arguments that the codecs let and the row asks for, the def gives what stands for enc (f ..) -/
theorem walk_spec {r : OpenSpec} {k : Nat} {q : Program} {loose : List Str} {XP : (Str → Option Value) → Heap → Prop} {YP : World → Heap → Prop} {d : DefRec} {K : Params → PySem.W.Frag} {CX : World → CXT} {ps : List Str} {sp : World → Sp}
    (hwell : r.wellSaid = true) (hdf : d.params.defaults = []) (hlen : r.args.length = ps.length) (hr : Room k callerA)
    (hY : ∀ (w : World) (h : Heap), YP w h → (K w.params).In h)
    (F : ∀ (w : World) (mg : Str → Option Value) (fa : Addr) (h : Heap), YP w h → (K w.params).In h → h.Ns mainGlobals mg → mg d.name = some (.ref fa) →
      ∃ fd : FuncData, (∀ (s : Shared) (us : List Value), us.length = ps.length → BindsTo s fd ⟨us, []⟩ (ps.zip us)) ∧
        ∀ base : Heap, (K w.params).In base → base.Ns mainGlobals mg → FnOk r.prog w (K w.params) mg base (CX w) k fa fd ps (sp w))
    (hsp : ∀ (w : World) (H : Hp) (xs : List V) (a : Codec.denoteAll r.args), OnlyF H → Codec.withinAll r.args a = true → Codec.app r.args r.asked a = true → DwAll (K w.params) H xs (Codec.encAll r.args a) →
      sp w xs H (fun v H' => Dw (K w.params) H' v (r.ret.enc (Codec.app r.args r.f a))) fun _ _ _ => False)
    (hCX : ∀ (w : World) (H : Hp) (s : Shared) (e : Value) (s' : Shared), CX w [] H s (fun _ _ _ => False) e s' → False) :
    PySem.W.WalkOS q loose XP YP r d [] (fun f vs => PySem.call f vs) := by
  intro w s_0 s₁ mg mb G Y fa o pm cd doc dV kV ho hd hcd hD hmg hg args vals as hpre hlay hrd hwl hlo
  obtain ⟨a, e1, e2⟩ := PySem.W.os_pre_some hpre
  obtain ⟨e3, hwi⟩ := Codec.encAll_of_decAll r.args args a e1
  subst e3
  have KX := hY w _ Y
  obtain ⟨fd, hb, hF⟩ := F w mg fa _ Y KX G.T.g hmg
  refine PySem.W.enter_call (codeAny_mono (spec_call (R := []) (cl := classAt s_0.heap) (d0 := r.ret.enc (Codec.app r.args r.f a)) KX G.T.g G.T.b G.T.builtins G.T.nolimit hg hwl (pl_encAll _ _) (layable_weight hlay) hr hF hb (by rw [encAll_len]; exact hlen)
    (fun H xs hO hS => hsp w H xs a hO hwi e2 hS) fun H e s' => hCX w H s₁ e s') fun r' s' hq => ?_)
  obtain ⟨u, as', rfl, h1, h2, h3, h4⟩ := hq
  exact ⟨.inl ⟨u, _, as', rfl, fun _ => rfl, h1, (OpenSpec.post_iff hwell hwi _ _).mpr rfl, fun z => Bool.noConfusion (show false = true from z)⟩, h2, h3, h4⟩
/-- the same where the promise hangs on the written part alone -/
theorem walk_specK {r : OpenSpec} {k : Nat} {q : Program} {loose : List Str} {XP : (Str → Option Value) → Heap → Prop} {YP : World → Heap → Prop} {d : DefRec} {K : Params → PySem.W.Frag} {CX : CXT} {ps : List Str} {sp : PySem.W.Frag → Sp}
    (hwell : r.wellSaid = true) (hdf : d.params.defaults = []) (hlen : r.args.length = ps.length) (hr : Room k callerA)
    (hY : ∀ (w : World) (h : Heap), YP w h → (K w.params).In h)
    (F : ∀ (w : World) (mg : Str → Option Value) (fa : Addr) (h : Heap), YP w h → (K w.params).In h → h.Ns mainGlobals mg → mg d.name = some (.ref fa) →
      ∃ fd : FuncData, (∀ (s : Shared) (us : List Value), us.length = ps.length → BindsTo s fd ⟨us, []⟩ (ps.zip us)) ∧
        ∀ base : Heap, (K w.params).In base → base.Ns mainGlobals mg → FnOk r.prog w (K w.params) mg base CX k fa fd ps (sp (K w.params)))
    (hsp : ∀ (K : PySem.W.Frag) (H : Hp) (xs : List V) (a : Codec.denoteAll r.args), OnlyF H → Codec.withinAll r.args a = true → Codec.app r.args r.asked a = true → DwAll K H xs (Codec.encAll r.args a) →
      sp K xs H (fun v H' => Dw K H' v (r.ret.enc (Codec.app r.args r.f a))) fun _ _ _ => False)
    (hCX : ∀ (H : Hp) (s : Shared) (e : Value) (s' : Shared), CX [] H s (fun _ _ _ => False) e s' → False) :
    PySem.W.WalkOS q loose XP YP r d [] (fun f vs => PySem.call f vs) :=
  walk_spec (K := K) (CX := fun _ => CX) (sp := fun w => sp (K w.params)) hwell hdf hlen hr hY F (fun w H xs a h1 h2 h3 h4 => hsp (K w.params) H xs a h1 h2 h3 h4) fun _ H s e s' => hCX H s e s'
end L2
-- rests on (row put in by the clerk, for the bench that shows a file only what it spells): KE.SpHead KE.OsShapes
end

end
section
set_option Elab.async false
namespace Sr
open Ql09

/-! ### lists -/
theorem take_snoc {α : Type} : ∀ {l : List α} {i : Nat} {x : α}, l[i]? = some x → l.take (i + 1) = l.take i ++ [x]
  | [], i, x, h => by simp at h
  | a :: l, 0, x, h => by
    have e : a = x := Option.some.inj h
    subst e
    rfl
  | a :: l, i + 1, x, h => by
    have ih := take_snoc (l := l) (i := i) (x := x) h
    show a :: l.take (i + 1) = a :: l.take i ++ [x]
    rw [ih]
    rfl
theorem take_more {α : Type} (l : List α) (i k : Nat) : l.take (i + k) = l.take i ++ (l.drop i).take k := by
  rw [List.take_add]
theorem drop_at {α : Type} : ∀ {l : List α} {i : Nat} {x : α}, l[i]? = some x → l.drop i = x :: l.drop (i + 1)
  | [], i, x, h => by simp at h
  | a :: l, 0, x, h => by
    have e : a = x := Option.some.inj h
    subst e
    rfl
  | a :: l, i + 1, x, h => drop_at (l := l) (i := i) (x := x) h

/-! ### numbers by their bytes -/
theorem number_nil : number [] = 0 := rfl
theorem number_cons (b : Nat) (r : List Nat) : number (b :: r) = b + 256 * number r := rfl
theorem number_append : ∀ (l r : List Nat), number (l ++ r) = number l + 256 ^ l.length * number r
  | [], r => by simp [number_nil]
  | b :: l, r => by
    rw [List.cons_append, number_cons, number_cons, number_append l r, List.length_cons, Nat.pow_succ]
    rw [Nat.mul_add, Nat.mul_comm (256 ^ l.length) 256, Nat.mul_assoc, Nat.add_assoc]
theorem number_one (l : List Nat) : number (l ++ [1]) = number l + 256 ^ l.length := by
  rw [number_append, number_cons, number_nil]
  simp
def Bys (l : List Nat) : Prop := ∀ b ∈ l, b < 256
theorem Bys.nil : Bys [] := fun _ h => by simp at h
theorem Bys.take {l : List Nat} (h : Bys l) (n : Nat) : Bys (l.take n) := fun b hb => h b (List.mem_of_mem_take hb)
theorem Bys.drop {l : List Nat} (h : Bys l) (n : Nat) : Bys (l.drop n) := fun b hb => h b (List.mem_of_mem_drop hb)
theorem Bys.append {l r : List Nat} (h : Bys l) (h' : Bys r) : Bys (l ++ r) := fun b hb => by
  rcases List.mem_append.mp hb with q | q
  · exact h b q
  · exact h' b q
theorem Bys.one {n : Nat} (h : n < 256) : Bys [n] := fun b hb => by
  have e : b = n := by simpa using hb
  omega
theorem number_lt : ∀ {l : List Nat}, Bys l → number l < 256 ^ l.length
  | [], _ => by simp [number_nil]
  | b :: l, h => by
    have h1 := number_lt (l := l) fun x hx => h x (List.mem_cons_of_mem _ hx)
    have h2 := h b (List.mem_cons_self ..)
    rw [number_cons, List.length_cons, Nat.pow_succ]
    omega
theorem number_le {l : List Nat} (h : Bys l) {k : Nat} (hk : l.length ≤ k) : number l < 256 ^ k :=
  Nat.lt_of_lt_of_le (number_lt h) (Nat.pow_le_pow_right (by decide) hk)
theorem number_w {l : List Nat} (h : Bys l) (hk : l.length ≤ 4) : number l < 2 ^ 32 := number_le h hk

theorem bytesOf_length (k n : Nat) : (bytesOf k n).length = k := by simp [bytesOf]
theorem bytesOf_bys (k n : Nat) : Bys (bytesOf k n) := fun b hb => by
  unfold bytesOf at hb
  obtain ⟨i, _, e⟩ := List.mem_map.mp hb
  have : n / 256 ^ i % 256 < 256 := Nat.mod_lt _ (by decide)
  omega
theorem bytesOf_at (k n i : Nat) (h : i < k) : (bytesOf k n)[i]? = some (n / 256 ^ i % 256) := by
  simp [bytesOf, List.getElem?_map, List.getElem?_range h]

/-! ### blocks -/
theorem blocks_length (n : Nat) : ∀ (k : Nat) (b : List Nat), (blocks n k b).length = k
  | 0, _ => rfl
  | k + 1, b => by simp [blocks, blocks_length n k]
theorem blocks_at (n : Nat) : ∀ (k : Nat) (b : List Nat) (i : Nat), i < k → (blocks n k b)[i]? = some ((b.drop (n * i)).take n)
  | 0, _, _, h => by omega
  | k + 1, b, 0, _ => by simp [blocks]
  | k + 1, b, i + 1, h => by
    have ih := blocks_at n k (b.drop n) i (by omega)
    show (blocks n k (b.drop n))[i]? = _
    rw [ih, List.drop_drop, Nat.mul_succ, Nat.add_comm (n * i) n]

/-! ### words -/
abbrev toN (l : List W) : List Nat := l.map fun x => x.toNat
theorem words_length (b : List Nat) : (words b).length = b.length / 4 := by simp [words, blocks_length]
theorem words_at {b : List Nat} (h : Bys b) {i : Nat} (hi : i < b.length / 4) : (toN (words b))[i]? = some (number ((b.drop (4 * i)).take 4)) := by
  unfold words toN
  rw [List.map_map, List.getElem?_map, blocks_at 4 _ b i hi]
  show some (BitVec.ofNat 32 (number ((b.drop (4 * i)).take 4))).toNat = _
  rw [BitVec.toNat_ofNat, Nat.mod_eq_of_lt]
  exact number_w ((h.drop _).take _) (by rw [List.length_take]; omega)

/-! ### a rotation -/
theorem rot_nat (x : W) {k : Nat} (h0 : 0 < k) (h : k < 32) : (x.rotateLeft k).toNat = (x.toNat / 2 ^ (32 - k) + x.toNat * 2 ^ k) % 2 ^ 32 := by
  have hk : k % 32 = k := Nat.mod_eq_of_lt h
  have hx : x.toNat < 2 ^ 32 := x.isLt
  have e32 : (2 : Nat) ^ 32 = 2 ^ (32 - k) * 2 ^ k := by rw [← Nat.pow_add]; congr 1; omega
  rw [BitVec.toNat_rotateLeft, hk, Nat.shiftRight_eq_div_pow, Nat.shiftLeft_eq]
  have hlo : x.toNat / 2 ^ (32 - k) < 2 ^ k := by
    rw [Nat.div_lt_iff_lt_mul (Nat.two_pow_pos _), Nat.mul_comm, ← e32]
    exact hx
  have em : x.toNat * 2 ^ k % 2 ^ 32 = (x.toNat % 2 ^ (32 - k)) * 2 ^ k := by
    rw [e32, Nat.mul_mod_mul_right]
  have e1 : (x.toNat / 2 ^ (32 - k) + x.toNat * 2 ^ k) % 2 ^ 32 = x.toNat / 2 ^ (32 - k) + x.toNat * 2 ^ k % 2 ^ 32 := by
    have hb : x.toNat / 2 ^ (32 - k) + x.toNat * 2 ^ k % 2 ^ 32 < 2 ^ 32 := by
      rw [em]
      have h3 : x.toNat % 2 ^ (32 - k) + 1 ≤ 2 ^ (32 - k) := Nat.mod_lt _ (Nat.two_pow_pos _)
      have h4 := Nat.mul_le_mul_right (2 ^ k) h3
      rw [← e32, Nat.add_mul] at h4
      omega
    rw [Nat.add_mod, Nat.mod_eq_of_lt (a := x.toNat / 2 ^ (32 - k))]
    · exact Nat.mod_eq_of_lt hb
    · exact Nat.lt_of_le_of_lt (Nat.div_le_self _ _) hx
  rw [e1, em, Nat.or_comm, ← Nat.shiftLeft_eq, Nat.or_comm, ← Nat.shiftLeft_add_eq_or_of_lt hlo, Nat.add_comm]

/-! ### a quarter of a round, as the program goes -/
def mixP (s : List W) (t a u k : Nat) : List W :=
  let s1 := s.set t (word s t + word s a)
  s1.set u ((word s1 u ^^^ word s1 t).rotateLeft k)
def quarterP (s : List W) (i : Nat × Nat × Nat × Nat) : List W :=
  mixP (mixP (mixP (mixP s i.1 i.2.1 i.2.2.2 16) i.2.2.1 i.2.2.2 i.2.1 12) i.1 i.2.1 i.2.2.2 8) i.2.2.1 i.2.2.2 i.2.1 7
theorem mixP_length (s : List W) (t a u k : Nat) : (mixP s t a u k).length = s.length := by simp [mixP]
theorem quarter_length (s : List W) (i : Nat × Nat × Nat × Nat) : (quarter s i).length = s.length := by
  obtain ⟨a, b, c, d⟩ := i
  simp [quarter]
theorem word_set_same (s : List W) (i : Nat) (x : W) (h : i < s.length) : word (s.set i x) i = x := by
  unfold word
  rw [List.getD_eq_getElem?_getD, List.getElem?_set_self h]
  rfl
theorem word_set_ne (s : List W) (i j : Nat) (x : W) (h : i ≠ j) : word (s.set i x) j = word s j := by
  unfold word
  rw [List.getD_eq_getElem?_getD, List.getElem?_set_ne h, List.getD_eq_getElem?_getD]
theorem quarterP_eq {s : List W} {a b c d : Nat} (ha : a < s.length) (hb : b < s.length) (hc : c < s.length) (hd : d < s.length)
    (ab : a ≠ b) (ac : a ≠ c) (ad : a ≠ d) (bc : b ≠ c) (bd : b ≠ d) (cd : c ≠ d) : quarterP s (a, b, c, d) = quarter s (a, b, c, d) := by
  have ba := ab.symm
  have ca := ac.symm
  have da := ad.symm
  have cb := bc.symm
  have db := bd.symm
  have dc := cd.symm
  apply List.ext_getElem?
  intro i
  simp only [quarterP, mixP, quarter]
  simp only [word_set_same, word_set_ne, List.length_set, ha, hb, hc, hd, ne_eq, ab, ac, ad, ba, bc, bd, ca, cb, cd, da, db, dc, not_false_eq_true]
  simp only [List.getElem?_set, List.length_set]
  by_cases e1 : a = i
  · subst e1
    simp [ha, ba, ca, da]
  · by_cases e2 : b = i
    · subst e2
      simp [hb, cb, db]
    · by_cases e3 : c = i
      · subst e3
        simp [hc, e2, dc]
      · by_cases e4 : d = i
        · subst e4
          simp [hd, e2, e3]
        · simp [e1, e2, e3, e4]
theorem rounds_ok {i : Nat × Nat × Nat × Nat} (h : i ∈ ROUNDS) : i.1 < 16 ∧ i.2.1 < 16 ∧ i.2.2.1 < 16 ∧ i.2.2.2 < 16 ∧ i.1 ≠ i.2.1 ∧ i.1 ≠ i.2.2.1 ∧ i.1 ≠ i.2.2.2 ∧ i.2.1 ≠ i.2.2.1 ∧ i.2.1 ≠ i.2.2.2 ∧ i.2.2.1 ≠ i.2.2.2 := by
  unfold ROUNDS at h
  simp only [List.mem_cons, List.not_mem_nil, or_false] at h
  rcases h with rfl | rfl | rfl | rfl | rfl | rfl | rfl | rfl <;> decide
theorem quarterP_rounds {s : List W} (hs : s.length = 16) {i : Nat × Nat × Nat × Nat} (h : i ∈ ROUNDS) : quarterP s i = quarter s i := by
  obtain ⟨h1, h2, h3, h4, h5, h6, h7, h8, h9, h10⟩ := rounds_ok h
  obtain ⟨a, b, c, d⟩ := i
  exact quarterP_eq (by rw [hs]; exact h1) (by rw [hs]; exact h2) (by rw [hs]; exact h3) (by rw [hs]; exact h4) h5 h6 h7 h8 h9 h10
theorem foldQ_length : ∀ (l : List (Nat × Nat × Nat × Nat)) (s : List W), (l.foldl quarter s).length = s.length
  | [], _ => rfl
  | i :: l, s => by rw [List.foldl_cons, foldQ_length l, quarter_length]
theorem twice_length (s : List W) : (twice s).length = s.length := foldQ_length _ _
def twices (n : Nat) (s : List W) : List W := (List.range n).foldl (fun t _ => twice t) s
theorem twices_zero (s : List W) : twices 0 s = s := rfl
theorem twices_succ (n : Nat) (s : List W) : twices (n + 1) s = twice (twices n s) := by
  unfold twices
  rw [List.range_succ, List.foldl_append, List.foldl_cons, List.foldl_nil]
theorem twices_length (s : List W) : ∀ n, (twices n s).length = s.length
  | 0 => rfl
  | n + 1 => by rw [twices_succ, twice_length, twices_length s n]
theorem foldQ_snoc {s : List W} {i : Nat} {q : Nat × Nat × Nat × Nat} (h : ROUNDS[i]? = some q) : (ROUNDS.take (i + 1)).foldl quarter s = quarter ((ROUNDS.take i).foldl quarter s) q := by
  rw [take_snoc h, List.foldl_append]
  rfl

/-! ### a block -/
def firstW (key once : List Nat) (counter : Nat) : List W := [0x61707865, 0x3320646E, 0x79622D32, 0x6B206574] ++ (words key ++ (BitVec.ofNat 32 counter :: words once))
theorem firstW_length {key once : List Nat} (hk : key.length = 32) (ho : once.length = 12) (c : Nat) : (firstW key once c).length = 16 := by
  simp [firstW, words_length, hk, ho]
theorem block_eq (key once : List Nat) (c : Nat) : block key once c = ((twices 10 (firstW key once c)).zip (firstW key once c)).flatMap fun x => bytesOf 4 (x.1 + x.2).toNat := rfl
theorem flatMap_length {α β : Type} (f : α → List β) (n : Nat) : ∀ (l : List α), (∀ x ∈ l, (f x).length = n) → (l.flatMap f).length = n * l.length
  | [], _ => by simp
  | a :: l, h => by
    rw [List.flatMap_cons, List.length_append, h a (List.mem_cons_self ..), flatMap_length f n l fun x hx => h x (List.mem_cons_of_mem _ hx), List.length_cons, Nat.mul_succ]
    omega
theorem block_length {key once : List Nat} (hk : key.length = 32) (ho : once.length = 12) (c : Nat) : (block key once c).length = 64 := by
  rw [block_eq, flatMap_length _ 4 _ fun x _ => bytesOf_length 4 _, List.length_zip, twices_length, firstW_length hk ho]
  rfl
theorem block_bys (key once : List Nat) (c : Nat) : Bys (block key once c) := fun b hb => by
  rw [block_eq] at hb
  obtain ⟨x, _, h⟩ := List.mem_flatMap.mp hb
  exact bytesOf_bys _ _ b h
theorem flatMap_snoc {α β : Type} (f : α → List β) {l : List α} {i : Nat} {x : α} (h : l[i]? = some x) : (l.take (i + 1)).flatMap f = (l.take i).flatMap f ++ f x := by
  rw [take_snoc h, List.flatMap_append]
  simp

/-! ### a stream -/
theorem xor_append {a b a' b' : List Nat} (h : a.length = b.length) : Ql09.xor (a ++ a') (b ++ b') = Ql09.xor a b ++ Ql09.xor a' b' := by
  unfold Ql09.xor
  rw [List.zip_append h, List.map_append]
theorem xor_length (a b : List Nat) : (Ql09.xor a b).length = min a.length b.length := by simp [Ql09.xor]
theorem xor_bys {a b : List Nat} (ha : Bys a) (hb : Bys b) : Bys (Ql09.xor a b) := fun c hc => by
  unfold Ql09.xor at hc
  obtain ⟨x, hx, e⟩ := List.mem_map.mp hc
  have h1 : x.1 < 2 ^ 8 := ha _ (List.of_mem_zip hx).1
  have h2 : x.2 < 2 ^ 8 := hb _ (List.of_mem_zip hx).2
  have h3 := Nat.xor_lt_two_pow h1 h2
  omega
def streamN (key once : List Nat) (counter : Nat) (b : List Nat) (i : Nat) : List Nat :=
  Ql09.xor (b.take (64 * i)) ((List.range i).flatMap fun j => block key once ((counter + j) % 2 ^ 32))
theorem keyst_length {key once : List Nat} (hk : key.length = 32) (ho : once.length = 12) (c i : Nat) : ((List.range i).flatMap fun j => block key once ((c + j) % 2 ^ 32)).length = 64 * i := by
  rw [flatMap_length _ 64 _ fun x _ => block_length hk ho _, List.length_range]
theorem streamN_zero (key once : List Nat) (c : Nat) (b : List Nat) : streamN key once c b 0 = [] := rfl
theorem streamN_succ {key once : List Nat} (hk : key.length = 32) (ho : once.length = 12) (c : Nat) (b : List Nat) {i : Nat} (hi : 64 * i ≤ b.length) :
    streamN key once c b (i + 1) = streamN key once c b i ++ Ql09.xor ((b.drop (64 * i)).take 64) (block key once ((c + i) % 2 ^ 32)) := by
  unfold streamN
  rw [Nat.mul_succ, take_more, List.range_succ, List.flatMap_append]
  rw [xor_append (by rw [List.length_take, keyst_length hk ho]; omega)]
  simp
theorem stream_eq (key once : List Nat) (c : Nat) (b : List Nat) : streamN key once c b ((b.length + 63) / 64) = stream key once c b := by
  unfold streamN stream
  rw [List.take_of_length_le (by omega)]
theorem stream_length {key once : List Nat} (hk : key.length = 32) (ho : once.length = 12) (c : Nat) (b : List Nat) : (stream key once c b).length = b.length := by
  unfold stream
  rw [xor_length, keyst_length hk ho]
  omega
theorem stream_bys {key once b : List Nat} (hb : Bys b) (c : Nat) : Bys (stream key once c b) := by
  unfold stream
  refine xor_bys hb fun x hx => ?_
  obtain ⟨i, _, h⟩ := List.mem_flatMap.mp hx
  exact block_bys _ _ _ x h

/-! ### a mark -/
def markStep (r : Nat) (a : Nat) (c : List Nat) : Nat := (a + number c + 256 ^ c.length) * r % P
def markN (r : Nat) (b : List Nat) (i : Nat) : Nat := ((blocks 16 ((b.length + 15) / 16) b).take i).foldl (markStep r) 0
theorem markN_zero (r : Nat) (b : List Nat) : markN r b 0 = 0 := rfl
theorem markN_succ (r : Nat) (b : List Nat) {i : Nat} (hi : i < (b.length + 15) / 16) :
    markN r b (i + 1) = (markN r b i + number ((b.drop (16 * i)).take 16 ++ [1])) * r % P := by
  unfold markN
  rw [take_snoc (blocks_at 16 _ b i hi), List.foldl_append, number_one, ← Nat.add_assoc]
  rfl
theorem P_pos : 0 < P := by decide
theorem markN_lt (r : Nat) (b : List Nat) : ∀ {i : Nat}, i ≤ (b.length + 15) / 16 → markN r b i < P
  | 0, _ => P_pos
  | i + 1, h => by rw [markN_succ r b (by omega)]; exact Nat.mod_lt _ P_pos
theorem mark_eq (key b : List Nat) : mark key b = bytesOf 16 (markN (clamp (number (key.take 16))) b ((b.length + 15) / 16) + number (key.drop 16)) := by
  have e : (blocks 16 ((b.length + 15) / 16) b).take ((b.length + 15) / 16) = blocks 16 ((b.length + 15) / 16) b := List.take_of_length_le (by rw [blocks_length]; exact Nat.le_refl _)
  unfold mark markN
  rw [e]
  rfl
theorem mark_length (key b : List Nat) : (mark key b).length = 16 := bytesOf_length _ _
theorem mark_bys (key b : List Nat) : Bys (mark key b) := bytesOf_bys _ _
theorem clamp_lt (n : Nat) : clamp n < 2 ^ 128 := by
  unfold clamp
  exact Nat.and_lt_two_pow _ (by decide)
end Sr

end
section
set_option Elab.async false
namespace Sr

/-- the row r stands at place p of ns; the place behind it is q -/
structure RowAt (ns : List Int) (p : Nat) (r : List Int) (q : Nat) : Prop where
  len : ns[p]? = some (r.length : Int)
  cut : (ns.drop (p + 1)).take r.length = r
  nxt : q = p + 1 + r.length
  le : q ≤ ns.length

theorem drop_cons {ns : List Int} {p : Nat} {x : Int} {r : List Int} (h : ns.drop p = x :: r) : ns[p]? = some x ∧ ns.drop (p + 1) = r := by
  have h1 : (ns.drop p)[0]? = some x := by rw [h]; rfl
  rw [List.getElem?_drop] at h1
  refine ⟨by simpa using h1, ?_⟩
  have h2 := congrArg (List.drop 1) h
  rw [List.drop_drop] at h2
  simpa using h2

theorem row_inv {ns : List Int} {p : Nat} {r s : List Int} (h : PyFlat.row (ns.drop p) = some (r, s)) : ∃ q, RowAt ns p r q ∧ s = ns.drop q := by
  cases e : ns.drop p with
  | nil => rw [e] at h; cases h
  | cons n t =>
    rw [e] at h
    simp only [PyFlat.row] at h
    obtain ⟨e1, e2⟩ := drop_cons e
    by_cases c : 0 ≤ n ∧ n.toNat ≤ t.length
    · rw [if_pos c] at h
      obtain ⟨c1, c2⟩ := c
      have h' := Option.some.inj h
      have er : t.take n.toNat = r := congrArg Prod.fst h'
      have es : t.drop n.toNat = s := congrArg Prod.snd h'
      have hl : r.length = n.toNat := by rw [← er, List.length_take]; omega
      have ht : t.length = ns.length - (p + 1) := by rw [← e2, List.length_drop]
      have hp : p < ns.length := by
        rcases Nat.lt_or_ge p ns.length with q | q
        · exact q
        · rw [List.getElem?_eq_none q] at e1; cases e1
      refine ⟨p + 1 + r.length, ⟨?_, ?_, rfl, ?_⟩, ?_⟩
      · rw [e1, hl]; congr 1; omega
      · rw [e2, hl, er]
      · omega
      · rw [← List.drop_drop, e2, hl, es]
    · rw [if_neg c] at h
      cases h

theorem rows1 {ns : List Int} {p : Nat} {xs : List (List Int)} {t : List Int} (h : PyFlat.rows 1 (ns.drop p) = some (xs, t)) : ∃ r q, xs = [r] ∧ RowAt ns p r q ∧ t = ns.drop q := by
  unfold PyFlat.rows at h
  cases e : PyFlat.row (ns.drop p) with
  | none => rw [e] at h; cases h
  | some a =>
    obtain ⟨r, s⟩ := a
    rw [e] at h
    obtain ⟨q, hq, hs⟩ := row_inv e
    have h' := Option.some.inj h
    exact ⟨r, q, (congrArg Prod.fst h').symm, hq, by rw [← hs]; exact (congrArg Prod.snd h').symm⟩
theorem rowsS {k : Nat} {ns : List Int} {p : Nat} {xs : List (List Int)} {t : List Int} (h : PyFlat.rows (k + 1) (ns.drop p) = some (xs, t)) : ∃ r q ys, xs = r :: ys ∧ RowAt ns p r q ∧ PyFlat.rows k (ns.drop q) = some (ys, t) := by
  unfold PyFlat.rows at h
  cases e : PyFlat.row (ns.drop p) with
  | none => rw [e] at h; cases h
  | some a =>
    obtain ⟨r, s⟩ := a
    rw [e] at h
    obtain ⟨q, hq, hs⟩ := row_inv e
    subst hs
    cases e2 : PyFlat.rows k (ns.drop q) with
    | none => simp only [e2] at h; cases h
    | some b =>
      obtain ⟨ys, u⟩ := b
      simp only [e2] at h
      have h' := Option.some.inj h
      have h1 : r :: ys = xs := congrArg Prod.fst h'
      have h2 : u = t := congrArg Prod.snd h'
      exact ⟨r, q, ys, h1.symm, hq, by rw [e2, h2]⟩
theorem rows2 {ns : List Int} {p : Nat} {xs : List (List Int)} {t : List Int} (h : PyFlat.rows 2 (ns.drop p) = some (xs, t)) : ∃ r q r' q', xs = [r, r'] ∧ RowAt ns p r q ∧ RowAt ns q r' q' ∧ t = ns.drop q' := by
  obtain ⟨r, q, ys, e, h1, h2⟩ := rowsS h
  obtain ⟨r', q', e', h3, h4⟩ := rows1 h2
  exact ⟨r, q, r', q', by rw [e, e'], h1, h3, h4⟩
theorem rows3 {ns : List Int} {p : Nat} {xs : List (List Int)} {t : List Int} (h : PyFlat.rows 3 (ns.drop p) = some (xs, t)) : ∃ r q r' q' r'' q'', xs = [r, r', r''] ∧ RowAt ns p r q ∧ RowAt ns q r' q' ∧ RowAt ns q' r'' q'' ∧ t = ns.drop q'' := by
  obtain ⟨r, q, ys, e, h1, h2⟩ := rowsS h
  obtain ⟨r', q', r'', q'', e', h3, h4, h5⟩ := rows2 h2
  exact ⟨r, q, r', q', r'', q'', by rw [e, e'], h1, h3, h4, h5⟩

/-- a call at place p of ns, the place behind it q -/
inductive CallAt (ns : List Int) (p : Nat) : List (List Int) → Nat → Prop
  | key {k q} (h : ns[p]? = some 0) (r : RowAt ns (p + 1) k q) : CallAt ns p [[0], k] q
  | block {x o q} (h : ns[p]? = some 1) (h1 : ns[p + 1]? = some x) (r : RowAt ns (p + 2) o q) : CallAt ns p [[1, x], o] q
  | stream {x y o b q q'} (h : ns[p]? = some 2) (h1 : ns[p + 1]? = some x) (h2 : ns[p + 2]? = some y) (r : RowAt ns (p + 3) o q) (r' : RowAt ns q b q') : CallAt ns p [[2, x, y], o, b] q'
  | mark {x k b q q'} (h : ns[p]? = some 3) (h1 : ns[p + 1]? = some x) (r : RowAt ns (p + 2) k q) (r' : RowAt ns q b q') : CallAt ns p [[3, x], k, b] q'
  | sealUp {x y o s b q q' q''} (h : ns[p]? = some 4) (h1 : ns[p + 1]? = some x) (h2 : ns[p + 2]? = some y) (r : RowAt ns (p + 3) o q) (r' : RowAt ns q s q') (r'' : RowAt ns q' b q'') : CallAt ns p [[4, x, y], o, s, b] q''
  | open_ {x y o s b q q' q''} (h : ns[p]? = some 5) (h1 : ns[p + 1]? = some x) (h2 : ns[p + 2]? = some y) (r : RowAt ns (p + 3) o q) (r' : RowAt ns q s q') (r'' : RowAt ns q' b q'') : CallAt ns p [[5, x, y], o, s, b] q''
  | drops {x o c q q'} (h : ns[p]? = some 6) (h1 : ns[p + 1]? = some x) (r : RowAt ns (p + 2) o q) (r' : RowAt ns q c q') : CallAt ns p [[6, x], o, c] q'

theorem two_of {l : List Int} (h : ¬ l.length < 2) : ∃ x y r, l = x :: y :: r := by
  match l, h with
  | [], h => simp at h
  | [_], h => simp at h
  | x :: y :: r, _ => exact ⟨x, y, r, rfl⟩
theorem one_of {l : List Int} (h : ¬ l.length < 1) : ∃ x r, l = x :: r := by
  match l, h with
  | [], h => simp at h
  | x :: r, _ => exact ⟨x, r, rfl⟩

theorem call_inv {ns : List Int} {p : Nat} {c : List (List Int)} {t : List Int} (h : PyFlat.call PyQl09.shape (ns.drop p) = some (c, t)) : ∃ q, CallAt ns p c q ∧ t = ns.drop q := by
  cases e : ns.drop p with
  | nil => rw [e] at h; cases h
  | cons z r =>
    rw [e] at h
    obtain ⟨e1, e2⟩ := drop_cons e
    unfold PyFlat.call at h
    simp only at h
    cases es : PyQl09.shape z with
    | none => simp only [es] at h; cases h
    | some nk =>
      obtain ⟨n, k⟩ := nk
      simp only [es] at h
      split at h
      · cases h
      · rename_i hn
        cases er : PyFlat.rows k (r.drop n) with
        | none => simp only [er] at h; cases h
        | some a =>
          obtain ⟨xs, u⟩ := a
          simp only [er] at h
          have h' := Option.some.inj h
          have hc : (z :: r.take n) :: xs = c := congrArg Prod.fst h'
          have ht : u = t := congrArg Prod.snd h'
          subst ht
          subst hc
          unfold PyQl09.shape at es
          by_cases z0 : z = 0
          · rw [if_pos z0] at es
            have es' := Option.some.inj es
            have en : 0 = n := congrArg Prod.fst es'
            have ek : 1 = k := congrArg Prod.snd es'
            subst en; subst ek; subst z0
            rw [List.drop_zero, ← e2] at er
            obtain ⟨k, q, rfl, hr, ht⟩ := rows1 er
            exact ⟨q, .key e1 hr, ht⟩
          rw [if_neg z0] at es
          by_cases z1 : z = 1
          · rw [if_pos z1] at es
            have es' := Option.some.inj es
            have en : 1 = n := congrArg Prod.fst es'
            have ek : 1 = k := congrArg Prod.snd es'
            subst en; subst ek; subst z1
            obtain ⟨x, r1, rfl⟩ := one_of hn
            obtain ⟨f1, f2⟩ := drop_cons e2
            have g : (x :: r1).drop 1 = ns.drop (p + 2) := f2.symm
            rw [g] at er
            obtain ⟨o, q, rfl, hr, ht⟩ := rows1 er
            exact ⟨q, .block e1 f1 hr, ht⟩
          rw [if_neg z1] at es
          by_cases z2 : z = 2
          · rw [if_pos z2] at es
            have es' := Option.some.inj es
            have en : 2 = n := congrArg Prod.fst es'
            have ek : 2 = k := congrArg Prod.snd es'
            subst en; subst ek; subst z2
            obtain ⟨x, y, r1, rfl⟩ := two_of hn
            obtain ⟨f1, f2⟩ := drop_cons e2
            obtain ⟨g1, g2⟩ := drop_cons f2
            have g : (x :: y :: r1).drop 2 = ns.drop (p + 3) := g2.symm
            rw [g] at er
            obtain ⟨o, q, b, q', rfl, hr, hr', ht⟩ := rows2 er
            exact ⟨q', .stream e1 f1 g1 hr hr', ht⟩
          rw [if_neg z2] at es
          by_cases z3 : z = 3
          · rw [if_pos z3] at es
            have es' := Option.some.inj es
            have en : 1 = n := congrArg Prod.fst es'
            have ek : 2 = k := congrArg Prod.snd es'
            subst en; subst ek; subst z3
            obtain ⟨x, r1, rfl⟩ := one_of hn
            obtain ⟨f1, f2⟩ := drop_cons e2
            have g : (x :: r1).drop 1 = ns.drop (p + 2) := f2.symm
            rw [g] at er
            obtain ⟨o, q, b, q', rfl, hr, hr', ht⟩ := rows2 er
            exact ⟨q', .mark e1 f1 hr hr', ht⟩
          rw [if_neg z3] at es
          by_cases z4 : z = 4
          · rw [if_pos z4] at es
            have es' := Option.some.inj es
            have en : 2 = n := congrArg Prod.fst es'
            have ek : 3 = k := congrArg Prod.snd es'
            subst en; subst ek; subst z4
            obtain ⟨x, y, r1, rfl⟩ := two_of hn
            obtain ⟨f1, f2⟩ := drop_cons e2
            obtain ⟨g1, g2⟩ := drop_cons f2
            have g : (x :: y :: r1).drop 2 = ns.drop (p + 3) := g2.symm
            rw [g] at er
            obtain ⟨o, q, s, q', b, q'', rfl, hr, hr', hr'', ht⟩ := rows3 er
            exact ⟨q'', .sealUp e1 f1 g1 hr hr' hr'', ht⟩
          rw [if_neg z4] at es
          by_cases z5 : z = 5
          · rw [if_pos z5] at es
            have es' := Option.some.inj es
            have en : 2 = n := congrArg Prod.fst es'
            have ek : 3 = k := congrArg Prod.snd es'
            subst en; subst ek; subst z5
            obtain ⟨x, y, r1, rfl⟩ := two_of hn
            obtain ⟨f1, f2⟩ := drop_cons e2
            obtain ⟨g1, g2⟩ := drop_cons f2
            have g : (x :: y :: r1).drop 2 = ns.drop (p + 3) := g2.symm
            rw [g] at er
            obtain ⟨o, q, s, q', b, q'', rfl, hr, hr', hr'', ht⟩ := rows3 er
            exact ⟨q'', .open_ e1 f1 g1 hr hr' hr'', ht⟩
          rw [if_neg z5] at es
          by_cases z6 : z = 6
          · rw [if_pos z6] at es
            have es' := Option.some.inj es
            have en : 1 = n := congrArg Prod.fst es'
            have ek : 2 = k := congrArg Prod.snd es'
            subst en; subst ek; subst z6
            obtain ⟨x, r1, rfl⟩ := one_of hn
            obtain ⟨f1, f2⟩ := drop_cons e2
            have g : (x :: r1).drop 1 = ns.drop (p + 2) := f2.symm
            rw [g] at er
            obtain ⟨o, q, b, q', rfl, hr, hr', ht⟩ := rows2 er
            exact ⟨q', .drops e1 f1 hr hr', ht⟩
          · rw [if_neg z6] at es
            cases es

theorem whole_id (c : List (List Int)) : PyQl09.whole c = c := by
  unfold PyQl09.whole
  split <;> rfl
theorem map_whole (cs : List (List (List Int))) : cs.map PyQl09.whole = cs := by
  have e : PyQl09.whole = id := funext whole_id
  rw [e, List.map_id]
theorem calls_eq (l : List Int) : PyQl09.calls l = PyFlat.calls PyQl09.shape l.length l := by
  unfold PyQl09.calls
  cases e : PyFlat.calls PyQl09.shape l.length l with
  | none => rfl
  | some cs =>
    show some (cs.map PyQl09.whole) = some cs
    rw [map_whole]

/-- what is left at place p: the calls cs -/
def Left (ns : List Int) (p : Nat) (cs : List (List (List Int))) : Prop := ∃ f, PyFlat.calls PyQl09.shape f (ns.drop p) = some cs
theorem Left.nil {ns : List Int} {p : Nat} {cs : List (List (List Int))} (h : Left ns p cs) (hp : ns.length ≤ p) : cs = [] := by
  obtain ⟨f, e⟩ := h
  rw [List.drop_eq_nil_of_le hp] at e
  cases f <;> exact (Option.some.inj e).symm
theorem Left.cons {ns : List Int} {p : Nat} {cs : List (List (List Int))} (h : Left ns p cs) (hp : p < ns.length) : ∃ c r q, cs = c :: r ∧ CallAt ns p c q ∧ Left ns q r := by
  obtain ⟨f, e⟩ := h
  rw [List.drop_eq_getElem_cons hp] at e
  cases f with
  | zero => cases e
  | succ f =>
    unfold PyFlat.calls at e
    rw [← List.drop_eq_getElem_cons hp] at e
    cases e1 : PyFlat.call PyQl09.shape (ns.drop p) with
    | none => simp only [e1] at e; cases e
    | some a =>
      obtain ⟨c, t⟩ := a
      obtain ⟨q, hq, rfl⟩ := call_inv e1
      simp only [e1] at e
      cases e2 : PyFlat.calls PyQl09.shape f (ns.drop q) with
      | none => simp only [e2] at e; cases e
      | some r =>
        simp only [e2] at e
        exact ⟨c, r, q, (Option.some.inj e).symm, hq, f, e2⟩
end Sr

end
section
set_option Elab.async false
namespace Sr
open Ql09 (block stream mark sealUp open_ tag blocks)
open Ql09Neutral (nats «ints» step asked1 natural long)

def ByI (l : List Int) : Prop := ∀ x ∈ l, 0 ≤ x ∧ x < 256
def KeyOk (key : List Nat) : Prop := key.length = 32 ∧ Bys key
theorem ByI.bys {l : List Int} (h : ByI l) : Bys (nats l) := fun b hb => by
  obtain ⟨x, hx, e⟩ := List.mem_map.mp hb
  have := h x hx
  omega
theorem nats_len (l : List Int) : (nats l).length = l.length := List.length_map _
theorem nat_of {z : Int} {k : Nat} (h : natural z k = true) : 0 ≤ z ∧ z < 2 ^ k := by
  unfold natural at h
  rw [Bool.and_eq_true] at h
  exact ⟨of_decide_eq_true h.1, of_decide_eq_true h.2⟩
theorem byi_of {l : List Int} (h : (l.all fun (z : Int) => natural z 8) = true) : ByI l := fun x hx => by
  have h1 := nat_of (List.all_eq_true.mp h x hx)
  have e : (2 : Int) ^ 8 = 256 := by decide
  omega
theorem w32 {z : Int} (h : z < 2 ^ 32) : z < 4294967296 := by
  have e : (2 : Int) ^ 32 = 4294967296 := by decide
  omega

/-! ### what is asked of a call -/
theorem asked_key {k : List Int} (h : asked1 [[0], k] = true) : ByI k ∧ k.length = 32 := by
  simp only [asked1, Bool.and_eq_true] at h
  exact ⟨byi_of h.1, of_decide_eq_true h.2⟩
theorem asked_block {c : Int} {o : List Int} (h : asked1 [[1, c], o] = true) : (0 ≤ c ∧ c < 2 ^ 32) ∧ ByI o ∧ o.length = 12 := by
  simp only [asked1, Bool.and_eq_true] at h
  exact ⟨nat_of h.1, byi_of h.2.1, of_decide_eq_true h.2.2⟩
theorem asked_stream {c n : Int} {o b : List Int} (h : asked1 [[2, c, n], o, b] = true) : (0 ≤ c ∧ c < 2 ^ 32) ∧ (0 ≤ n ∧ n < 2 ^ 32) ∧ (ByI o ∧ o.length = 12) ∧ ByI b ∧ (b.length : Int) = if 0 ≤ n ∧ n ≤ 65536 then n else 0 := by
  simp only [asked1, Bool.and_eq_true] at h
  obtain ⟨h1, h2, ⟨h3, h4⟩, h5, h6⟩ := h
  exact ⟨nat_of h1, nat_of h2, ⟨byi_of h3, of_decide_eq_true h4⟩, byi_of h5, of_decide_eq_true h6⟩
theorem asked_mark {n : Int} {k b : List Int} (h : asked1 [[3, n], k, b] = true) : (0 ≤ n ∧ n < 2 ^ 32) ∧ (ByI k ∧ k.length = 32) ∧ ByI b ∧ (b.length : Int) = if 0 ≤ n ∧ n ≤ 65536 then n else 0 := by
  simp only [asked1, Bool.and_eq_true] at h
  obtain ⟨h2, ⟨h3, h4⟩, h5, h6⟩ := h
  exact ⟨nat_of h2, ⟨byi_of h3, of_decide_eq_true h4⟩, byi_of h5, of_decide_eq_true h6⟩
theorem asked_seal {s n : Int} {o x b : List Int} (h : asked1 [[4, s, n], o, x, b] = true) : (0 ≤ s ∧ s < 2 ^ 32) ∧ (0 ≤ n ∧ n < 2 ^ 32) ∧ (ByI o ∧ o.length = 12) ∧ (ByI x ∧ (x.length : Int) = if 0 ≤ s ∧ s ≤ 65536 then s else 0) ∧ ByI b ∧ (b.length : Int) = if 0 ≤ n ∧ n ≤ 65536 then n else 0 := by
  simp only [asked1, Bool.and_eq_true] at h
  obtain ⟨h1, h2, ⟨h3, h4⟩, ⟨h7, h8⟩, h5, h6⟩ := h
  exact ⟨nat_of h1, nat_of h2, ⟨byi_of h3, of_decide_eq_true h4⟩, ⟨byi_of h7, of_decide_eq_true h8⟩, byi_of h5, of_decide_eq_true h6⟩
theorem asked_open {s n : Int} {o x b : List Int} (h : asked1 [[5, s, n], o, x, b] = true) : (0 ≤ s ∧ s < 2 ^ 32) ∧ (0 ≤ n ∧ n < 2 ^ 32) ∧ (ByI o ∧ o.length = 12) ∧ (ByI x ∧ (x.length : Int) = if 0 ≤ s ∧ s ≤ 65536 then s else 0) ∧ ByI b ∧ (b.length : Int) = if n ≤ 65536 then n + 16 else 0 := by
  simp only [asked1, Bool.and_eq_true] at h
  obtain ⟨h1, h2, ⟨h3, h4⟩, ⟨h7, h8⟩, h5, h6⟩ := h
  exact ⟨nat_of h1, nat_of h2, ⟨byi_of h3, of_decide_eq_true h4⟩, ⟨byi_of h7, of_decide_eq_true h8⟩, byi_of h5, of_decide_eq_true h6⟩
theorem asked_drops {n : Int} {o c : List Int} (h : asked1 [[6, n], o, c] = true) : (0 ≤ n ∧ n < 2 ^ 32) ∧ (ByI o ∧ (o.length : Int) = if 1 ≤ n ∧ n ≤ 16 then 12 * n else 0) ∧ (∀ x ∈ c, 0 ≤ x ∧ x < 2 ^ 32) ∧ (c.length : Int) = if 1 ≤ n ∧ n ≤ 16 then n else 0 := by
  simp only [asked1, Bool.and_eq_true] at h
  obtain ⟨h2, ⟨h3, h4⟩, h5, h6⟩ := h
  exact ⟨nat_of h2, ⟨byi_of h3, of_decide_eq_true h4⟩, fun x hx => nat_of (List.all_eq_true.mp h5 x hx), of_decide_eq_true h6⟩

/-! ### what a call answers -/
theorem most_of {n : Int} (h : 0 ≤ n) : n.toNat ≤ Ql09.MOST ↔ ¬ 65536 < n := by
  unfold Ql09.MOST
  omega
def ansOf (a : Ql09.Ans) : List Int := a.value :: (if a.value < 0 then [] else «ints» a.out)
theorem ansOf_no : ansOf Ql09.no = [-2] := rfl
theorem ansOf_0 (b : List Nat) : ansOf (Ql09.give 0 b) = 0 :: «ints» b := rfl
theorem ansOf_1 (b : List Nat) : ansOf (Ql09.give 1 b) = 1 :: «ints» b := rfl
theorem step_of (key : List Nat) {c : List (List Int)} {d : Ql09.Call} (h : Ql09Neutral.callOf c = some d) : step key c = (Ql09Neutral.kept key d, ansOf (Ql09.spec key d)) := by
  unfold step
  rw [h]
  rfl
theorem step_key (key : List Nat) (k : List Int) : step key [[0], k] = (nats k, [0]) := step_of key (d := .key (nats k)) rfl
theorem step_block (key : List Nat) (c : Int) (o : List Int) : step key [[1, c], o] = (key, 0 :: «ints» (block key (nats o) c.toNat)) := by
  rw [step_of key (d := .block (nats o) c.toNat) rfl]
  simp only [Ql09Neutral.kept, Ql09.spec, ansOf_0]
theorem step_stream (key : List Nat) {c n : Int} (hn : 0 ≤ n) (o b : List Int) : step key [[2, c, n], o, b] = (key, if 65536 < n then [-2] else 0 :: «ints» (stream key (nats o) c.toNat (nats b))) := by
  rw [step_of key (d := .stream (nats o) c.toNat (nats b) n.toNat) rfl]
  simp only [Ql09Neutral.kept, Ql09.spec, most_of hn]
  by_cases h : 65536 < n
  · rw [if_neg (fun q => q h), if_pos h, ansOf_no]
  · rw [if_pos h, if_neg h, ansOf_0]
theorem step_mark (key : List Nat) {n : Int} (hn : 0 ≤ n) (k b : List Int) : step key [[3, n], k, b] = (key, if 65536 < n then [-2] else 0 :: «ints» (mark (nats k) (nats b))) := by
  rw [step_of key (d := .mark (nats k) (nats b) n.toNat) rfl]
  simp only [Ql09Neutral.kept, Ql09.spec, most_of hn]
  by_cases h : 65536 < n
  · rw [if_neg (fun q => q h), if_pos h, ansOf_no]
  · rw [if_pos h, if_neg h, ansOf_0]
theorem step_seal (key : List Nat) {s n : Int} (hs : 0 ≤ s) (hn : 0 ≤ n) (o x b : List Int) : step key [[4, s, n], o, x, b] = (key, if 65536 < s ∨ 65536 < n then [-2] else 0 :: «ints» (sealUp key (nats o) (nats x) (nats b))) := by
  rw [step_of key (d := .sealUp (nats o) (nats x) s.toNat (nats b) n.toNat) rfl]
  simp only [Ql09Neutral.kept, Ql09.spec, most_of hn, most_of hs]
  by_cases h : 65536 < s ∨ 65536 < n
  · rw [if_neg (by omega), if_pos h, ansOf_no]
  · rw [if_pos (by omega), if_neg h, ansOf_0]
def openAns (o : Option (List Nat)) : List Int := match o with
  | some m => 1 :: «ints» m
  | none => [0]
theorem step_open (key : List Nat) {s n : Int} (hs : 0 ≤ s) (hn : 0 ≤ n) (o x b : List Int) : step key [[5, s, n], o, x, b] = (key, if 65536 < s ∨ 65536 < n then [-2] else openAns (open_ key (nats o) (nats x) (nats b))) := by
  rw [step_of key (d := .open_ (nats o) (nats x) s.toNat (nats b) n.toNat) rfl]
  simp only [Ql09Neutral.kept, Ql09.spec, most_of hn, most_of hs]
  by_cases h : 65536 < s ∨ 65536 < n
  · rw [if_neg (by omega), if_pos h, ansOf_no]
  · rw [if_pos (by omega), if_neg h]
    cases open_ key (nats o) (nats x) (nats b) with
    | none => rfl
    | some m => rfl
def dropsB (key : List Nat) (n : Nat) (o c : List Nat) : List Nat := ((blocks 12 n o).zip c).flatMap fun x => block key x.1 x.2
theorem step_drops (key : List Nat) {n : Int} (hn : 0 ≤ n) (o c : List Int) : step key [[6, n], o, c] = (key, if 1 ≤ n ∧ n ≤ 16 then 0 :: «ints» (dropsB key n.toNat (nats o) (nats c)) else [-2]) := by
  rw [step_of key (d := .drops n.toNat (nats o) (nats c)) rfl]
  simp only [Ql09Neutral.kept, Ql09.spec]
  by_cases h : 1 ≤ n ∧ n ≤ 16
  · rw [if_pos (by omega), if_pos h, ansOf_0]
    rfl
  · rw [if_neg (by omega), if_neg h, ansOf_no]

/-! ### how long an answer is -/
theorem ints_len (l : List Nat) : («ints» l).length = l.length := List.length_map _
theorem RowAt.short {ns : List Int} {p q : Nat} {r : List Int} (h : RowAt ns p r q) : r.length ≤ ns.length := by
  have := h.nxt
  have := h.le
  omega
theorem tag_len (key once seen b : List Nat) : (tag key once seen b).length = 16 := mark_length _ _
theorem step_short {ns : List Int} {p q : Nat} {c : List (List Int)} {key : List Nat} (h : CallAt ns p c q) (ha : asked1 c = true) (hk : KeyOk key ∨ Ql09Neutral.begins c = true) (hns : ns.length ≤ 30000) : ((step key c).2).length ≤ 30100 := by
  cases h with
  | key h r => rw [step_key]; show 1 ≤ 30100; decide
  | block h h1 r =>
    obtain ⟨_, _, lo⟩ := asked_block ha
    rcases hk with hk | hk
    · rw [step_block]
      simp only [List.length_cons, ints_len]
      rw [block_length hk.1 (by rw [nats_len]; exact lo)]
      decide
    · exact absurd hk (by simp [Ql09Neutral.begins])
  | stream h h1 h2 r r' =>
    obtain ⟨_, hn, ⟨_, lo⟩, _, _⟩ := asked_stream ha
    rcases hk with hk | hk
    · rw [step_stream _ hn.1]
      have := r'.short
      split
      · show 1 ≤ 30100; decide
      · simp only [List.length_cons, ints_len]
        rw [stream_length hk.1 (by rw [nats_len]; exact lo), nats_len]
        omega
    · exact absurd hk (by simp [Ql09Neutral.begins])
  | mark h h1 r r' =>
    obtain ⟨hn, _⟩ := asked_mark ha
    rw [step_mark _ hn.1]
    split
    · show 1 ≤ 30100; decide
    · simp only [List.length_cons, ints_len]
      rw [mark_length]
      decide
  | sealUp h h1 h2 r r' r'' =>
    obtain ⟨hs, hn, ⟨_, lo⟩, _⟩ := asked_seal ha
    rcases hk with hk | hk
    · rw [step_seal _ hs.1 hn.1]
      have := r''.short
      split
      · show 1 ≤ 30100; decide
      · simp only [List.length_cons, ints_len, sealUp, List.length_append]
        rw [stream_length hk.1 (by rw [nats_len]; exact lo), nats_len, tag_len]
        omega
    · exact absurd hk (by simp [Ql09Neutral.begins])
  | open_ h h1 h2 r r' r'' =>
    obtain ⟨hs, hn, ⟨_, lo⟩, _⟩ := asked_open ha
    rcases hk with hk | hk
    · rw [step_open _ hs.1 hn.1]
      have := r''.short
      split
      · show 1 ≤ 30100; decide
      · unfold Ql09.open_
        simp only
        split
        · simp only [openAns, List.length_cons, ints_len]
          rw [stream_length hk.1 (by rw [nats_len]; exact lo), List.length_take, nats_len]
          omega
        · simp [openAns]
    · exact absurd hk (by simp [Ql09Neutral.begins])
  | drops h h1 r r' =>
    obtain ⟨hn, ⟨_, lo⟩, _, lc⟩ := asked_drops ha
    rcases hk with hk | hk
    · rw [step_drops _ hn.1]
      split
      · rename_i hh
        rw [if_pos hh] at lo lc
        simp only [List.length_cons, ints_len, dropsB]
        rw [flatMap_length _ 64 _ fun x hx => ?_, List.length_zip, blocks_length]
        · omega
        · refine block_length hk.1 ?_ _
          obtain ⟨i, hi⟩ := List.getElem?_of_mem (List.of_mem_zip hx).1
          have hlt := (List.getElem?_eq_some_iff.mp hi).1
          rw [blocks_length] at hlt
          rw [blocks_at 12 _ _ i hlt] at hi
          rw [← Option.some.inj hi, List.length_take, List.length_drop, nats_len]
          omega
      · show 1 ≤ 30100; decide
    · exact absurd hk (by simp [Ql09Neutral.begins])
end Sr

end
section
set_option Elab.async false
set_option linter.all false
set_option maxRecDepth 100000
/-! The program's text by places: the places are those of the commit at hand. -/
namespace Sr
open PySem PySem.Spec PyProof.Rows L2
def top (i : Nat) : Stmt := PySem.Challenge.pw_sealedrows_s01_answers.main.body.getD i (.Pass ⟨0, 0, 0, 0⟩)
abbrev sNum : Stmt := top 26
abbrev sByt : Stmt := top 27
abbrev sWds : Stmt := top 28
abbrev sRot : Stmt := top 29
abbrev sMix : Stmt := top 30
abbrev sQua : Stmt := top 31
abbrev sMxd : Stmt := top 32
abbrev sBlk : Stmt := top 33
abbrev sStr : Stmt := top 34
abbrev sMrk : Stmt := top 35
abbrev sDrp : Stmt := top 36
abbrev sFil : Stmt := top 37
abbrev sSmk : Stmt := top 38
abbrev cRdr : Stmt := top 39
abbrev cPar : Stmt := top 40
abbrev cSlr : Stmt := top 41
abbrev sAns : Stmt := top 42
end Sr

end
section
set_option Elab.async false
set_option linter.all false
set_option maxRecDepth 100000
set_option maxHeartbeats 2000000
/-! Rules and lists of my own, over the hand layer. -/
namespace Sr
open PySem PySem.Spec PyProof.Rows L2
section
variable {X : Cx}
def CShl (i j : Int) : Prop := 0 ≤ j ∧ j ≤ 1000 ∧ i.natAbs < 2 ^ 200
theorem op_shlB : OpR X (binaryOp .LShift) (rI CShl fun i j => .int (i * 2 ^ j.toNat)) := opI fun i j _ _ _ _ _ hc q => by
  have h1 : 0 ≤ j := hc.1
  have h2 : j ≤ 1000 := hc.2.1
  have h3 : Builtin.Int.intBits i ≤ 200 := intBits_le hc.2.2
  have h4 : (2 : Int) ^ 27 = 134217728 := by decide
  exact lshift_int h1 (by rw [h4]; omega) q
def CMulB (i j : Int) : Prop := i.natAbs < 2 ^ 200 ∧ j.natAbs < 2 ^ 200
theorem op_mulB : OpR X (binaryOp .Mult) (rI CMulB fun i j => .int (i * j)) := opI fun i j _ _ _ _ _ hc q =>
  mul_int q (IntMulOk.of_bits (Nat.le_trans (intBits_le hc.1) (by decide)) (Nat.le_trans (intBits_le hc.2) (by decide)))
end
/-! ### loops -/
theorem for_by {J : It} {g : TG} {tb : TS} {D : Ends} {σ : L2.St} {H : Hp} (n : Nat) (Pv : Nat → L2.St → Hp → Prop) (h0 : Pv 0 σ H)
    (hs : ∀ i σ H, i < n → Pv i σ H → J.go i H ∧ ∀ x H', J.yld i H x H' → g x σ H' fun σ2 H2 => tb { D with nx := Pv (i + 1), ct := Pv (i + 1), bk := D.nx } σ2 H2)
    (hd : ∀ σ H, Pv n σ H → J.stop n H ∧ D.nx σ H) :
    ∃ W : Nat → Nat → L2.St → Hp → Prop, (∃ m, W 0 m σ H) ∧ ∀ i m σ H, W i m σ H →
      (J.stop i H ∧ D.nx σ H) ∨ (J.go i H ∧ ∃ N : L2.St → Hp → Prop, (∀ σ' H', N σ' H' → ∃ m', m' < m ∧ W (i + 1) m' σ' H') ∧ ∀ x H', J.yld i H x H' → g x σ H' fun σ2 H2 => tb { D with nx := N, ct := N, bk := D.nx } σ2 H2) := by
  refine ⟨fun i m σ H => m = n - i ∧ i ≤ n ∧ Pv i σ H, ⟨n, by simp, Nat.zero_le _, h0⟩, ?_⟩
  rintro i m σ H ⟨rfl, hi, p⟩
  by_cases hlt : i < n
  · obtain ⟨h1, h2⟩ := hs i σ H hlt p
    exact .inr ⟨h1, Pv (i + 1), fun σ' H' p' => ⟨n - (i + 1), by omega, rfl, hlt, p'⟩, h2⟩
  · have e : i = n := by omega
    subst e
    exact .inl (hd σ H p)
theorem lc_by {J : It} {g : TG} {tt : TT} {te : TE} {vs : List Nat} {σ : L2.St} {D : Addr} {H0 : Hp} {Q : VK} (n : Nat) (Pv : Nat → Hp → Prop) (h0 : Pv 0 H0)
    (hs : ∀ i H, i < n → Pv i H → J.go i H ∧ ∀ x H', J.yld i H x H' → g x (wipe σ vs) H' fun σ2 H2 => wipe σ2 vs = wipe σ vs ∧ tt σ2 H2 fun b H3 =>
      if b = true then te σ2 H3 fun y H4 => ∃ acc, H4 D = some (.lst acc) ∧ acc.length < sizeLine ∧ Pv (i + 1) (upd H4 D (.lst (acc ++ [y]))) else Pv (i + 1) H3)
    (hd : ∀ H, Pv n H → J.stop n H ∧ Q (.ref D) H) :
    ∃ W : Nat → Nat → Hp → Prop, (∃ m, W 0 m H0) ∧ ∀ i m H, W i m H →
      (J.stop i H ∧ Q (.ref D) H) ∨ (J.go i H ∧ ∃ Nx : Hp → Prop, (∀ H', Nx H' → ∃ m', m' < m ∧ W (i + 1) m' H') ∧ ∀ x H', J.yld i H x H' → g x (wipe σ vs) H' fun σ2 H2 => wipe σ2 vs = wipe σ vs ∧ tt σ2 H2 fun b H3 =>
        if b = true then te σ2 H3 fun y H4 => ∃ acc, H4 D = some (.lst acc) ∧ acc.length < sizeLine ∧ Nx (upd H4 D (.lst (acc ++ [y]))) else Nx H3) := by
  refine ⟨fun i m H => m = n - i ∧ i ≤ n ∧ Pv i H, ⟨n, by simp, Nat.zero_le _, h0⟩, ?_⟩
  rintro i m H ⟨rfl, hi, p⟩
  by_cases hlt : i < n
  · obtain ⟨h1, h2⟩ := hs i H hlt p
    exact .inr ⟨h1, Pv (i + 1), fun H' p' => ⟨n - (i + 1), by omega, rfl, hlt, p'⟩, h2⟩
  · have e : i = n := by omega
    subst e
    exact .inl (hd H p)
/-! ### heaps -/
theorem same_refl (H : Hp) : Same H H := fun _ _ e => e
theorem same_new {H : Hp} {p : Addr} {o : HO} (h : H p = none) : Same H (upd H p o) := fun b o' e => by
  rw [upd_ne (ne_of_none e h)]
  exact e
theorem same_add {H H1 : Hp} {p : Addr} {o : HO} (s : Same H H1) (h : H1 p = none) : Same H (upd H1 p o) := s.trans (same_new h)
theorem same_upd {H H1 : Hp} {p : Addr} {o : HO} (s : Same H H1) (h : H p = none) : Same H (upd H1 p o) := fun b o' e => by
  rw [upd_ne (ne_of_none e h)]
  exact s b o' e
/-- all but l is as it was -/
def But (l : Addr) (H H' : Hp) : Prop := ∀ b o, H b = some o → b ≠ l → H' b = some o
theorem But.refl (l : Addr) (H : Hp) : But l H H := fun _ _ e _ => e
theorem But.trans {l : Addr} {H H1 H2 : Hp} (a : But l H H1) (b : But l H1 H2) : But l H H2 := fun c o h n => b c o (a c o h n) n
theorem But.upd (l : Addr) (H : Hp) (o : HO) : But l H (L2.upd H l o) := fun b o' e n => by
  rw [upd_ne n]
  exact e
theorem But.same {l : Addr} {H0 H H' : Hp} (b : But l H H') (s : Same H0 H) (h : H0 l = none) : Same H0 H' := fun c o e => b c o (s c o e) (ne_of_none e h)
theorem same_but {l : Addr} {H H' : Hp} (s : Same H H') : But l H H' := fun c o e _ => s c o e
/-! ### lists of numbers as values -/
abbrev vN (l : List Nat) : List V := l.map fun (n : Nat) => V.int (n : Int)
abbrev vW (s : List Ql09.W) : List V := s.map fun (x : Ql09.W) => V.int ((x.toNat : Nat) : Int)
theorem vW_eq (s : List Ql09.W) : vN (toN s) = vW s := by
  unfold vN toN vW
  rw [List.map_map]
  rfl
theorem vN_len (l : List Nat) : (vN l).length = l.length := List.length_map _
theorem vW_len (l : List Ql09.W) : (vW l).length = l.length := List.length_map _
theorem vN_at {l : List Nat} {i : Nat} {x : V} (h : (vN l)[i]? = some x) : ∃ n, l[i]? = some n ∧ x = .int (n : Int) := by
  rw [List.getElem?_map] at h
  cases e : l[i]? with
  | none => rw [e] at h; cases h
  | some n => rw [e] at h; exact ⟨n, rfl, (Option.some.inj h).symm⟩
theorem at_vN {l : List Nat} {i n : Nat} (h : l[i]? = some n) : (vN l)[i]? = some (.int (n : Int)) := by
  rw [List.getElem?_map, h]
  rfl
theorem vW_at {s : List Ql09.W} {i : Nat} (h : i < s.length) : (vW s)[i]? = some (.int ((Ql09.word s i).toNat : Int)) := by
  rw [List.getElem?_map, List.getElem?_eq_getElem h]
  show some (V.int ((s[i].toNat : Nat) : Int)) = _
  unfold Ql09.word
  rw [List.getD_eq_getElem?_getD, List.getElem?_eq_getElem h]
  rfl
theorem vW_set (s : List Ql09.W) (i : Nat) (x : Ql09.W) : (vW s).set i (.int (x.toNat : Int)) = vW (s.set i x) := by
  unfold vW
  rw [List.map_set]
theorem vN_append (l r : List Nat) : vN l ++ vN r = vN (l ++ r) := (List.map_append ..).symm
theorem vN_snoc {l : List Nat} {i n : Nat} (h : l[i]? = some n) : vN (l.take i) ++ [.int (n : Int)] = vN (l.take (i + 1)) := by
  rw [take_snoc h]
  exact vN_append _ [n]
theorem vN_drop (l : List Nat) (k : Nat) : (vN l).drop k = vN (l.drop k) := (List.map_drop ..).symm
theorem vN_take (l : List Nat) (k : Nat) : (vN l).take k = vN (l.take k) := (List.map_take ..).symm
theorem ixN_nat {n j : Nat} (h : j < n) : ixN n (j : Int) = some j := by
  unfold ixN
  rw [if_pos (by omega), if_pos (by omega)]
  rfl
theorem cut_nat (xs : List V) (a k : Nat) : cutV xs (some (a : Int)) (some ((a + k : Nat) : Int)) = (xs.drop a).take k := by
  unfold cutV
  rw [HT.sIx_nat, HT.sIx_nat]
  by_cases h : a ≤ xs.length
  · rw [Nat.min_eq_left h]
    by_cases h2 : a + k ≤ xs.length
    · rw [Nat.min_eq_left h2, Nat.add_sub_cancel_left]
    · rw [Nat.min_eq_right (by omega : xs.length ≤ a + k), List.take_of_length_le (by rw [List.length_drop]; exact Nat.le_refl _), List.take_of_length_le (by rw [List.length_drop]; omega)]
  · rw [Nat.min_eq_right (by omega : xs.length ≤ a), List.drop_eq_nil_of_le (Nat.le_refl _), List.drop_eq_nil_of_le (by omega : xs.length ≤ a), List.take_nil, List.take_nil]
theorem cut_to (xs : List V) (k : Nat) : cutV xs none (some (k : Int)) = xs.take k := by
  have h := cut_nat xs 0 k
  rw [Nat.zero_add, List.drop_zero] at h
  rw [← h]
  unfold cutV
  rw [HT.sIx_nat, HT.sIx_nat, HT.sIx_none, Nat.zero_min]
theorem cut_from (xs : List V) (k : Nat) : cutV xs (some (k : Int)) none = xs.drop k := by
  unfold cutV
  rw [HT.sIx_nat, HT.sIx_none]
  by_cases h : k ≤ xs.length
  · rw [Nat.min_eq_left h, List.take_of_length_le (by rw [List.length_drop]; exact Nat.le_refl _)]
  · rw [Nat.min_eq_right (by omega : xs.length ≤ k), List.drop_eq_nil_of_le (Nat.le_refl _), List.drop_eq_nil_of_le (by omega : xs.length ≤ k), List.take_nil]
theorem cut_at (l : List Nat) (c i : Nat) : cutV (vN l) (some (0 + (i : Int) * (c : Int))) (some (0 + (i : Int) * (c : Int) + (c : Int))) = vN ((l.drop (c * i)).take c) := by
  have e1 : (0 : Int) + (i : Int) * (c : Int) = ((c * i : Nat) : Int) := by rw [Int.zero_add, Int.natCast_mul, Int.mul_comm]
  have e2 : ((c * i : Nat) : Int) + (c : Int) = ((c * i + c : Nat) : Int) := by rw [Int.natCast_add]
  rw [e1, e2, cut_nat, vN_drop, vN_take]
/-! ### numbers -/
theorem or_step (r : List Nat) {b : Nat} (hb : b < 256) : Builtin.bitOr (((Ql09.number r : Nat) : Int) * 2 ^ (8 : Int).toNat) (b : Int) = ((Ql09.number (b :: r) : Nat) : Int) := by
  have e8 : (2 : Int) ^ 8 = 256 := by decide
  have h := Bits.bitOr_join' (a := (b : Int)) (b := ((Ql09.number r : Nat) : Int)) (k := 8) (by omega) (by rw [e8]; omega) (by omega)
  rw [number_cons]
  refine Eq.trans h ?_
  rw [e8]
  omega
theorem num_small {l : List Nat} (hb : Bys l) (hl : l.length ≤ 17) : (((Ql09.number l : Nat) : Int)).natAbs < 2 ^ 200 := by
  rw [Int.natAbs_natCast]
  exact Nat.lt_of_lt_of_le (number_le hb hl) (by decide)
theorem byte_eq (n i : Nat) : Builtin.bitAnd ((n : Int) / 2 ^ (8 * (0 + (i : Int))).toNat) 255 = ((n / 256 ^ i % 256 : Nat) : Int) := by
  have e : (8 * (0 + (i : Int))).toNat = 8 * i := by omega
  have e2 : (2 : Int) ^ (8 * i) = ((256 ^ i : Nat) : Int) := by
    rw [Int.natCast_pow, Int.pow_mul]
    rfl
  rw [e, e2, bitAnd_m8, Int.natCast_emod, Int.natCast_ediv]
  rfl
theorem mask32 (n : Nat) : Builtin.bitAnd (n : Int) 4294967295 = ((n % 2 ^ 32 : Nat) : Int) := by
  have h := Bits.bitAnd_mask (x := (n : Int)) 32 (by omega)
  refine Eq.trans h ?_
  rw [Int.natCast_emod]
  rfl
theorem rot_eq (x : Ql09.W) {k : Nat} (h0 : 0 < k) (h : k < 32) :
    Builtin.bitAnd (Builtin.bitOr (((x.toNat : Nat) : Int) * 2 ^ ((k : Nat) : Int).toNat) (((x.toNat : Nat) : Int) / 2 ^ (32 - ((k : Nat) : Int)).toNat)) 4294967295 = (((x.rotateLeft k).toNat : Nat) : Int) := by
  have e1 : ((k : Nat) : Int).toNat = k := by omega
  have e2 : (32 - ((k : Nat) : Int)).toNat = 32 - k := by omega
  have hx : x.toNat < 2 ^ 32 := x.isLt
  have e32 : (2 : Nat) ^ 32 = 2 ^ k * 2 ^ (32 - k) := by rw [← Nat.pow_add]; congr 1; omega
  have hlo : x.toNat / 2 ^ (32 - k) < 2 ^ k := by
    rw [Nat.div_lt_iff_lt_mul (Nat.two_pow_pos _), ← e32]
    exact hx
  have e3 : ((x.toNat : Nat) : Int) / 2 ^ (32 - k) = ((x.toNat / 2 ^ (32 - k) : Nat) : Int) := by
    rw [Int.natCast_ediv, Int.natCast_pow]
    rfl
  have e4 : (2 : Int) ^ k = ((2 ^ k : Nat) : Int) := by
    rw [Int.natCast_pow]
    rfl
  rw [e1, e2, e3, Bits.bitOr_join' (Int.natCast_nonneg _) (by rw [e4]; exact Int.ofNat_lt.mpr hlo) (Int.natCast_nonneg _), e4, ← Int.natCast_mul, ← Int.natCast_add, mask32, rot_nat x h0 h]
theorem addw_eq (x y : Ql09.W) : Builtin.bitAnd (((x.toNat : Nat) : Int) + ((y.toNat : Nat) : Int)) 4294967295 = (((x + y).toNat : Nat) : Int) := by
  rw [← Int.natCast_add, mask32, BitVec.toNat_add]
theorem xorw_eq (x y : Ql09.W) : Builtin.bitXor ((x.toNat : Nat) : Int) ((y.toNat : Nat) : Int) = (((x ^^^ y).toNat : Nat) : Int) := by
  rw [Bits.bitXor_pp (by omega) (by omega), Int.toNat_natCast, Int.toNat_natCast, BitVec.toNat_xor]
theorem rg4 {n : Nat} (h : n ≤ 100000) : RgC 0 (n : Int) 4 ((n + 3) / 4) := ⟨by decide, by decide, by
  have hs : Builtin.Range.rangeSize 0 (n : Int) 4 = (((n + 3) / 4 : Nat) : Int) := by
    unfold Builtin.Range.rangeSize
    rw [if_pos (by decide)]
    split <;> omega
  unfold Builtin.Range.small
  rw [hs]
  generalize hz : (((n + 3) / 4 : Nat) : Int) = z
  have h1 : 0 ≤ z := by omega
  have h2 : z ≤ 100000 := by omega
  have fit : ∀ y : Int, -1000000 ≤ y → y ≤ 1000000 → Builtin.Range.rangeFitsLong y = true := fun y a b => by
    unfold Builtin.Range.rangeFitsLong
    rw [Bool.and_eq_true]
    exact ⟨decide_eq_true (by omega), decide_eq_true (by omega)⟩
  rw [fit 0 (by omega) (by omega), fit n (by omega) (by omega), fit _ (by omega) (by omega), fit z (by omega) (by omega)]
  simp only [Bool.true_and, Bool.and_true]
  rw [if_pos (by decide), fit _ (by omega) (by omega), Bool.or_true], by
  unfold Builtin.Range.rangeSize
  rw [if_pos (by decide)]
  split <;> omega⟩
theorem rg16 {n : Nat} (h : n ≤ 100000) : RgC 0 (n : Int) 16 ((n + 15) / 16) := ⟨by decide, by decide, by
  have hs : Builtin.Range.rangeSize 0 (n : Int) 16 = (((n + 15) / 16 : Nat) : Int) := by
    unfold Builtin.Range.rangeSize
    rw [if_pos (by decide)]
    split <;> omega
  unfold Builtin.Range.small
  rw [hs]
  generalize hz : (((n + 15) / 16 : Nat) : Int) = z
  have h1 : 0 ≤ z := by omega
  have h2 : z ≤ 100000 := by omega
  have fit : ∀ y : Int, -1000000 ≤ y → y ≤ 1000000 → Builtin.Range.rangeFitsLong y = true := fun y a b => by
    unfold Builtin.Range.rangeFitsLong
    rw [Bool.and_eq_true]
    exact ⟨decide_eq_true (by omega), decide_eq_true (by omega)⟩
  rw [fit 0 (by omega) (by omega), fit n (by omega) (by omega), fit _ (by omega) (by omega), fit z (by omega) (by omega)]
  simp only [Bool.true_and, Bool.and_true]
  rw [if_pos (by decide), fit _ (by omega) (by omega), Bool.or_true], by
  unfold Builtin.Range.rangeSize
  rw [if_pos (by decide)]
  split <;> omega⟩
theorem rg64 {n : Nat} (h : n ≤ 100000) : RgC 0 (n : Int) 64 ((n + 63) / 64) := ⟨by decide, by decide, by
  have hs : Builtin.Range.rangeSize 0 (n : Int) 64 = (((n + 63) / 64 : Nat) : Int) := by
    unfold Builtin.Range.rangeSize
    rw [if_pos (by decide)]
    split <;> omega
  unfold Builtin.Range.small
  rw [hs]
  generalize hz : (((n + 63) / 64 : Nat) : Int) = z
  have h1 : 0 ≤ z := by omega
  have h2 : z ≤ 100000 := by omega
  have fit : ∀ y : Int, -1000000 ≤ y → y ≤ 1000000 → Builtin.Range.rangeFitsLong y = true := fun y a b => by
    unfold Builtin.Range.rangeFitsLong
    rw [Bool.and_eq_true]
    exact ⟨decide_eq_true (by omega), decide_eq_true (by omega)⟩
  rw [fit 0 (by omega) (by omega), fit n (by omega) (by omega), fit _ (by omega) (by omega), fit z (by omega) (by omega)]
  simp only [Bool.true_and, Bool.and_true]
  rw [if_pos (by decide), fit _ (by omega) (by omega), Bool.or_true], by
  unfold Builtin.Range.rangeSize
  rw [if_pos (by decide)]
  split <;> omega⟩
/-! ### a def that is called by its name -/
structure Ok (P : Program) (w : World) (K : PySem.W.Frag) (mg : Str → Option Value) (base : Heap) (x : Str) (k : Nat) (ps : List Str) (sp : Sp) : Prop where
  ex : ∃ (f : Addr) (fd : FuncData), mg x = some (.ref f) ∧ PySem.W.keepIn K (.ref f) = true ∧ Binds K fd ps [] ∧ FnOk P w K mg base CX0 k f fd ps sp
section
variable {X : Cx}
theorem pe_gi {x : Str} {i : Int} {t : Tok} {pos : Pos} (hg : Gl X x) (hm : X.mg x = some (.int i t)) (hd : (x == ("__debug__" : Str)) = false := by decide) : PE X (.Name x pos) (tC (.int i)) := pe_glob (v := .int i) hg hm ⟨t, rfl⟩ hd
theorem pe_gr {x : Str} {a : Addr} {pos : Pos} (hg : Gl X x) (hm : X.mg x = some (.ref a)) (hd : (x == ("__debug__" : Str)) = false := by decide) : PE X (.Name x pos) (tC (.ref a)) := pe_glob (v := .ref a) hg hm rfl hd
theorem pe_fn {x : Str} {k : Nat} {ps : List Str} {sp : Sp} {e : Expr} {es : List Expr} {t : TA} {p pos : Pos} (G : Ok X.prog X.w X.K X.mg X.base x k ps sp) (hr : Room k X.A) (hg : Gl X x) (ha : PA X (e :: es) t)
    (hdb : (x == ("__debug__" : Str)) = false := by decide) (he : starEach (e :: es) X.env = (false, eval e X.env) :: starEach es X.env := by rfl) (hpl : (backTo pos (starEach es X.env)).any (·.1) = false := by rfl) :
    PE X (.Call (.Name x p) (e :: es) [] pos) (tCall sp [] E0 t) := by
  obtain ⟨f, fd, hm, hk, hb, F⟩ := G.ex
  exact pe_call F hr hg hm hk hb .nil pass0 ha hdb he hpl
end
end Sr

end
section
set_option Elab.async false
set_option linter.all false
set_option maxRecDepth 100000
set_option maxHeartbeats 2000000
namespace Sr
open PySem PySem.Spec PyProof.Rows L2
/-- what the program's top has written, as far as the defs ask it -/
structure Txt (K : PySem.W.Frag) (mg : Str → Option Value) : Prop where
  rng : mg "range" = none
  len : mg "len" = none
  rev : mg "reversed" = none
  zip : mg "zip" = none
  lst : mg "list" = none
  wb : ∃ t, mg "WORD_BYTES" = some (.int 4 t)
  bb : ∃ t, mg "BLOCK_BYTES" = some (.int 64 t)
  mb : ∃ t, mg "MARK_BYTES" = some (.int 16 t)
  wm : ∃ t, mg "WORD_MASK" = some (.int 4294967295 t)
  dr : ∃ t, mg "DOUBLE_ROUNDS" = some (.int 10 t)
  pr : ∃ t, mg "PRIME" = some (.int 1361129467683753853853498429727072845819 t)
  fm : ∃ t, mg "FACTOR_MASK" = some (.int 21267647620597763993911028882763415551 t)
  rf : ∃ t, mg "REFUSED" = some (.int (-2) t)
  mo : ∃ t, mg "MOST_BYTES" = some (.int 65536 t)
  con : ∃ q, mg "CONSTANTS" = some (.ref q) ∧ ∀ H : Hp, SqT K H q (vN [1634760805, 857760878, 2036477234, 1797285236])
  qua : ∃ (q : Addr) (rs : List Addr), mg "QUARTERS" = some (.ref q) ∧ rs.length = 8 ∧ (∀ H : Hp, SqT K H q (rs.map V.ref)) ∧
    ∀ (i : Nat) (r : Addr), rs[i]? = some r → ∃ x, Ql09.ROUNDS[i]? = some x ∧ ∀ H : Hp, SqT K H r (vN [x.1, x.2.1, x.2.2.1, x.2.2.2])
/-! ### the promises -/
/-- a new list is given back, all that was tracked stays -/
def New (H : Hp) (Q : VK) (l : List Nat) : Prop := ∀ (H' : Hp) (p : Addr), H p = none → H' p = some (.lst (vN l)) → Same H H' → Q (.ref p) H'
def spNum (K : PySem.W.Frag) : Sp := fun vs H Q _ => ∃ (a : Addr) (l : List Nat), vs = [.ref a] ∧ SqL K H a (vN l) ∧ Bys l ∧ l.length ≤ 17 ∧ Q (.int ((Ql09.number l : Nat) : Int)) H
def spByt : Sp := fun vs H Q _ => ∃ (n k : Nat), vs = [.int (n : Int), .int (k : Int)] ∧ k ≤ 100 ∧ New H Q (Ql09.bytesOf k n)
def spWds (K : PySem.W.Frag) : Sp := fun vs H Q _ => ∃ (a : Addr) (l : List Nat), vs = [.ref a] ∧ SqL K H a (vN l) ∧ Bys l ∧ l.length ≤ 100 ∧ l.length % 4 = 0 ∧ New H Q (toN (Ql09.words l))
def spRot : Sp := fun vs H Q _ => ∃ (x : Ql09.W) (k : Nat), vs = [.int (x.toNat : Int), .int (k : Int)] ∧ 0 < k ∧ k < 32 ∧ Q (.int ((x.rotateLeft k).toNat : Int)) H
def spMix : Sp := fun vs H Q _ => ∃ (l : Addr) (s : List Ql09.W) (t a u k : Nat), vs = [.ref l, .int (t : Int), .int (a : Int), .int (u : Int), .int (k : Int)] ∧ H l = some (.lst (vW s)) ∧ t < s.length ∧ a < s.length ∧ u < s.length ∧ 0 < k ∧ k < 32 ∧
  ∀ H' : Hp, H' l = some (.lst (vW (mixP s t a u k))) → But l H H' → Q .non H'
def spQua : Sp := fun vs H Q _ => ∃ (l : Addr) (s : List Ql09.W) (a b c d : Nat), vs = [.ref l, .int (a : Int), .int (b : Int), .int (c : Int), .int (d : Int)] ∧ H l = some (.lst (vW s)) ∧ a < s.length ∧ b < s.length ∧ c < s.length ∧ d < s.length ∧
  ∀ H' : Hp, H' l = some (.lst (vW (quarterP s (a, b, c, d)))) → But l H H' → Q .non H'
def spMxd (K : PySem.W.Frag) : Sp := fun vs H Q _ => ∃ (a : Addr) (s : List Ql09.W), vs = [.ref a] ∧ SqL K H a (vW s) ∧ s.length = 16 ∧
  ∀ (H' : Hp) (p : Addr), H p = none → H' p = some (.lst (vW (twices 10 s))) → Same H H' → Q (.ref p) H'
def spBlk (K : PySem.W.Frag) : Sp := fun vs H Q _ => ∃ (ka oa : Addr) (key once : List Nat) (c : Nat), vs = [.ref ka, .ref oa, .int (c : Int)] ∧ SqL K H ka (vN key) ∧ SqL K H oa (vN once) ∧ KeyOk key ∧ Bys once ∧ once.length = 12 ∧ c < 2 ^ 32 ∧ New H Q (Ql09.block key once c)
section
variable {P : Program} {w : World} {K : PySem.W.Frag} {mg : Str → Option Value} {base : Heap}
theorem scNum : FnScope ["row", "total", "byte"] ["row"] (defScope sNum) := ⟨rfl, rfl, rfl, by decide +kernel, rfl, by decide +kernel, by decide +kernel⟩
theorem ok_num {f : Addr} {fd : FuncData} (F : Fun K "number_from" "number_from" sNum f fd) (T : Txt K mg) : FnOk P w K mg base CX0 1 f fd ["row"] (spNum K) := by
  refine F.ok scNum (fun vs H Q E h => ?_) (fun cdv A outer s H vs Q E hr h => ?_)
  · obtain ⟨a, l, rfl, _⟩ := h
    rfl
  · obtain ⟨a, l, rfl, hS, hb, hl, k⟩ := h
    have hlen := vN_len l
    refine ⟨_, pss_cons (ps_set (i := 1) scNum.nd rfl (Or.inl rfl) pe_int) (pss_cons (ps_for PassesOwn.never rfl (pi_reversed rfl T.rev (pa_cons (pv 0) pa_nil)) (pg_name (i := 2) scNum.nd rfl (Or.inl rfl))
      (pss_one (ps_set (i := 1) scNum.nd rfl (Or.inl rfl) (pe_op op_or (pe_op op_shlB (pv 1) pe_int) (pv 2))))) (pss_one (ps_ret (pv 1)))), ?_⟩
    refine ⟨_, rfl, a, vN l, rfl, hS, for_by (J := Itv K a (vN l).length) l.length (fun i σ H' => H' = H ∧ ∃ v : Option V, σ = [some (.ref a), some (.int ((Ql09.number (l.drop (l.length - i)) : Nat) : Int)), v]) ⟨rfl, none, by rw [Nat.sub_zero, List.drop_length]; rfl⟩ ?_ ?_⟩
    · rintro i σ H' hi ⟨rfl, v, rfl⟩
      have hj : (vN l).length - 1 - i < (vN l).length := by omega
      refine ⟨⟨by omega, vN l, _, hS, List.getElem?_eq_getElem hj⟩, fun x H2 y => ?_⟩
      obtain ⟨rfl, y⟩ := y
      obtain ⟨b, e, rfl⟩ := vN_at (y (vN l) hS)
      rw [hlen] at e
      have hb8 : b < 256 := hb b (List.mem_of_getElem? e)
      have hd := drop_at e
      have e1 : l.length - 1 - i + 1 = l.length - i := by omega
      have e2 : l.length - 1 - i = l.length - (i + 1) := by omega
      rw [e1, e2] at hd
      refine ⟨_, rfl, _, _, rfl, rfl, ⟨by decide, by decide, num_small (hb.drop _) (by rw [List.length_drop]; omega)⟩, _, rfl, _, _, rfl, rfl, ?_⟩
      refine ⟨rfl, some (.int (b : Int)), ?_⟩
      rw [hd, ← or_step _ hb8]
      rfl
    · rintro σ H' ⟨rfl, v, rfl⟩
      refine ⟨by show (vN l).length ≤ l.length; omega, _, rfl, ?_⟩
      rw [Nat.sub_self, List.drop_zero]
      exact k
theorem scByt : FnScope ["number", "many", "place"] ["number", "many"] (defScope sByt) := ⟨rfl, rfl, rfl, by decide +kernel, rfl, by decide +kernel, by decide +kernel⟩
theorem ok_byt {f : Addr} {fd : FuncData} (F : Fun K "bytes_from" "bytes_from" sByt f fd) (T : Txt K mg) : FnOk P w K mg base CX0 1 f fd ["number", "many"] spByt := by
  refine F.ok scByt (fun vs H Q E h => ?_) (fun cdv A outer s H vs Q E hr h => ?_)
  · obtain ⟨a, l, rfl, _⟩ := h
    rfl
  · obtain ⟨n, k, rfl, hk, kk⟩ := h
    refine ⟨_, pss_one (ps_ret (pe_lc (own := [("place", 2)]) rfl scByt.nd (pi_range1 rfl T.rng (pa_cons (pv 1) pa_nil))
      (by show BlkOk ["number", "many", "place"] (defScope sByt) _ _; exact ⟨rfl, by decide +kernel, by decide +kernel, by decide +kernel, by decide +kernel⟩)
      (fun _ _ _ _ _ => pg_name (i := 2) scByt.nd rfl (Or.inl rfl)) (fun _ _ _ _ _ => pts_nil)
      (fun _ _ _ _ _ => pe_op op_and (pe_op op_shr (pv 0) (pe_op op_mul pe_int (pv 2))) pe_int))), ?_⟩
    refine ⟨_, rfl, (k : Int), rfl, by omega, by omega, fun D hD => lc_by (J := Itr 0 (k : Int).toNat) k (fun i H' => Same H H' ∧ H' D = some (.lst (vN ((Ql09.bytesOf k n).take i)))) ⟨same_new hD, upd_same⟩ ?_ ?_⟩
    · rintro i H' hi ⟨s1, hD'⟩
      refine ⟨by show i < (k : Int).toNat; omega, fun x H2 y => ?_⟩
      obtain ⟨rfl, rfl⟩ := y
      refine ⟨rfl, ?_⟩
      refine ⟨_, rfl, _, rfl, _, _, rfl, rfl, .inl ⟨by decide, by decide⟩, _, _, rfl, rfl, (by omega), _, _, rfl, rfl, _, hD', ?_, same_upd s1 hD, ?_⟩
      · rw [vN_len, List.length_take, bytesOf_length]
        exact Nat.lt_of_le_of_lt (Nat.min_le_right _ _) (Nat.lt_of_le_of_lt hk (by decide))
      · rw [upd_same]
        dsimp only
        rw [byte_eq, vN_snoc (bytesOf_at k n i hi)]
    · rintro H' ⟨s1, hD'⟩
      rw [List.take_of_length_le (by rw [bytesOf_length]; exact Nat.le_refl _)] at hD'
      exact ⟨by show (k : Int).toNat ≤ k; omega, kk H' D hD hD' s1⟩
theorem scWds : FnScope ["row", "start"] ["row"] (defScope sWds) := ⟨rfl, rfl, rfl, by decide +kernel, rfl, by decide +kernel, by decide +kernel⟩
theorem ok_wds {f : Addr} {fd : FuncData} (F : Fun K "words_from" "words_from" sWds f fd) (T : Txt K mg) (G : Ok P w K mg base "number_from" 1 ["row"] (spNum K)) : FnOk P w K mg base CX0 2 f fd ["row"] (spWds K) := by
  refine F.ok scWds (fun vs H Q E h => ?_) (fun cdv A outer s H vs Q E hr h => ?_)
  · obtain ⟨a, l, rfl, _⟩ := h
    rfl
  · obtain ⟨a, l, rfl, hS, hb, hl, h4, kk⟩ := h
    obtain ⟨wt, hwb⟩ := T.wb
    refine ⟨_, pss_one (ps_ret (pe_lc (own := [("start", 1)]) rfl scWds.nd (pi_range3 rfl T.rng (pa_cons pe_int (pa_cons (pe_callB call_len_seq rfl T.len PySem.boot_len (pa_cons (pv 0) pa_nil)) (pa_cons (pe_gi rfl hwb) pa_nil))))
      (by show BlkOk ["row", "start"] (defScope sWds) _ _; exact ⟨rfl, by decide +kernel, by decide +kernel, by decide +kernel, by decide +kernel⟩)
      (fun _ _ _ _ _ => pg_name (i := 1) scWds.nd rfl (Or.inl rfl)) (fun _ _ _ _ _ => pts_nil)
      (fun _ _ _ _ _ => pe_fn G hr rfl (pa_cons (pe_slice (r := rSlL K) sl_list (pv 0) (po_some (pv 1)) (po_some (pe_op op_add (pv 1) (pe_gi rfl hwb)))) pa_nil)))), ?_⟩
    have hr4 : RgC 0 ((vN l).length : Int) 4 (l.length / 4) := by
      have q := rg4 (n := l.length) (by omega)
      have e : (l.length + 3) / 4 = l.length / 4 := by omega
      rw [e] at q
      rw [vN_len]
      exact q
    have hwl : (toN (Ql09.words l)).length = l.length / 4 := by rw [List.length_map, words_length]
    refine ⟨_, rfl, a, _, rfl, .inl hS, 0, _, 4, l.length / 4, rfl, hr4, fun D hD => lc_by (J := Itc 0 4 (l.length / 4)) (l.length / 4) (fun i H' => Same H H' ∧ H' D = some (.lst (vN ((toN (Ql09.words l)).take i)))) ⟨same_new hD, upd_same⟩ ?_ ?_⟩
    · rintro i H' hi ⟨s1, hD'⟩
      refine ⟨hi, fun x H2 y => ?_⟩
      obtain ⟨rfl, rfl⟩ := y
      refine ⟨rfl, ?_⟩
      refine ⟨_, rfl, _, rfl, _, rfl, _, rfl, _, _, rfl, rfl, _, rfl, a, _, rfl, s1.seq hS, fun p hp => ?_⟩
      refine ⟨p, (l.drop (4 * i)).take 4, rfl, SqL.of (Eq.trans upd_same (congrArg (fun q => some (HO.lst q)) (cut_at l 4 i))), (hb.drop _).take _, (by rw [List.length_take]; omega), _, Eq.trans (upd_ne (ne_of_none hD' hp)) hD', ?_, same_upd (same_add s1 hp) hD, ?_⟩
      · rw [vN_len, List.length_take, hwl]
        exact Nat.lt_of_le_of_lt (Nat.min_le_right _ _) (Nat.lt_of_le_of_lt (by omega : l.length / 4 ≤ 100) (by decide))
      · rw [upd_same, vN_snoc (words_at hb hi)]
    · rintro H' ⟨s1, hD'⟩
      rw [List.take_of_length_le (by rw [hwl]; exact Nat.le_refl _)] at hD'
      exact ⟨Nat.le_refl _, kk H' D hD hD' s1⟩
theorem scRot : FnScope ["word", "bits"] ["word", "bits"] (defScope sRot) := ⟨rfl, rfl, rfl, by decide +kernel, rfl, by decide +kernel, by decide +kernel⟩
theorem ok_rot {f : Addr} {fd : FuncData} (F : Fun K "rotate_left" "rotate_left" sRot f fd) (T : Txt K mg) : FnOk P w K mg base CX0 1 f fd ["word", "bits"] spRot := by
  refine F.ok scRot (fun vs H Q E h => ?_) (fun cdv A outer s H vs Q E hr h => ?_)
  · obtain ⟨a, l, rfl, _⟩ := h
    rfl
  · obtain ⟨x, k, rfl, h0, h32, kk⟩ := h
    obtain ⟨wt, hwm⟩ := T.wm
    refine ⟨_, pss_one (ps_ret (pe_op op_and (pe_op op_or (pe_op op_shlB (pv 0) (pv 1)) (pe_op op_shr (pv 0) (pe_op op_sub pe_int (pv 1)))) (pe_gi rfl hwm))), ?_⟩
    have hx : x.toNat < 2 ^ 200 := Nat.lt_of_lt_of_le x.isLt (by decide)
    refine ⟨_, rfl, _, rfl, _, _, rfl, rfl, ⟨by omega, by omega, by rw [Int.natAbs_natCast]; exact hx⟩, _, rfl, _, rfl, _, _, rfl, rfl, _, _, rfl, rfl, (by omega), _, _, rfl, rfl, _, _, rfl, rfl, ?_⟩
    show Q (V.int (Builtin.bitAnd (Builtin.bitOr (((x.toNat : Nat) : Int) * 2 ^ ((k : Nat) : Int).toNat) (((x.toNat : Nat) : Int) / 2 ^ (32 - ((k : Nat) : Int)).toNat)) 4294967295)) H
    rw [rot_eq x h0 h32]
    exact kk
theorem scMix : FnScope ["state", "target", "added", "turned", "bits"] ["state", "target", "added", "turned", "bits"] (defScope sMix) := ⟨rfl, rfl, rfl, by decide +kernel, rfl, by decide +kernel, by decide +kernel⟩
theorem ok_mix {f : Addr} {fd : FuncData} (F : Fun K "mix_pair" "mix_pair" sMix f fd) (T : Txt K mg) (G : Ok P w K mg base "rotate_left" 1 ["word", "bits"] spRot) : FnOk P w K mg base CX0 2 f fd ["state", "target", "added", "turned", "bits"] spMix := by
  refine F.ok scMix (fun vs H Q E h => ?_) (fun cdv A outer s H vs Q E hr h => ?_)
  · obtain ⟨_, _, _, _, _, _, rfl, _⟩ := h
    rfl
  · obtain ⟨l, s, t, a, u, k, rfl, hl, ht, ha, hu, h0, h32, kk⟩ := h
    obtain ⟨wt, hwm⟩ := T.wm
    refine ⟨_, pss_cons (ps_asg (pe_op op_and (pe_op op_add (pe_ix ix_list (pv 0) (pv 1) (fun _ _ => rfl)) (pe_ix ix_list (pv 0) (pv 2) (fun _ _ => rfl))) (pe_gi rfl hwm)) (pg_sub (pv 0) (pv 1) set_list))
      (pss_one (ps_asg (pe_fn G hr rfl (pa_cons (pe_op op_xor (pe_ix ix_list (pv 0) (pv 3) (fun _ _ => rfl)) (pe_ix ix_list (pv 0) (pv 1) (fun _ _ => rfl))) (pa_cons (pv 4) pa_nil))) (pg_sub (pv 0) (pv 3) set_list))), ?_⟩
    have e1 : (vW s).set t (V.int (Builtin.bitAnd (((Ql09.word s t).toNat : Int) + ((Ql09.word s a).toNat : Int)) 4294967295)) = vW (s.set t (Ql09.word s t + Ql09.word s a)) := by rw [addw_eq, vW_set]
    have hl1 : ∀ H : Hp, upd H l (.lst ((vW s).set t (V.int (Builtin.bitAnd (((Ql09.word s t).toNat : Int) + ((Ql09.word s a).toNat : Int)) 4294967295)))) l = some (.lst (vW (s.set t (Ql09.word s t + Ql09.word s a)))) := fun H => by rw [upd_same, e1]
    have hu1 : u < (s.set t (Ql09.word s t + Ql09.word s a)).length := by rw [List.length_set]; exact hu
    have ht1 : t < (s.set t (Ql09.word s t + Ql09.word s a)).length := by rw [List.length_set]; exact ht
    refine ⟨_, rfl, _, rfl, l, _, _, _, rfl, rfl, SqL.of hl, atI_nat (vW_at ht), _, rfl, _, rfl, l, _, _, _, rfl, rfl, SqL.of hl, atI_nat (vW_at ha), _, _, rfl, rfl, _, _, rfl, rfl, _, rfl, _, rfl, l, _, _, t, rfl, rfl, hl, ixN_nat (by rw [vW_len]; exact ht), ?_⟩
    refine ⟨_, rfl, _, rfl, l, _, _, _, rfl, rfl, SqL.of (hl1 _), atI_nat (vW_at hu1), _, rfl, _, rfl, l, _, _, _, rfl, rfl, SqL.of (hl1 _), atI_nat (vW_at ht1), _, _, rfl, rfl, _, rfl, ?_⟩
    refine ⟨_, k, congrArg (fun z => [V.int z, V.int (k : Int)]) (xorw_eq _ _), h0, h32, _, rfl, _, rfl, l, _, _, u, rfl, rfl, hl1 _, ixN_nat (by rw [vW_len]; exact hu1), ?_⟩
    exact kk _ (Eq.trans upd_same (congrArg (fun q => some (HO.lst q)) (vW_set _ _ _))) ((But.upd l H _).trans (But.upd l _ _))
theorem scQua : FnScope ["state", "a", "b", "c", "d"] ["state", "a", "b", "c", "d"] (defScope sQua) := ⟨rfl, rfl, rfl, by decide +kernel, rfl, by decide +kernel, by decide +kernel⟩
theorem ok_qua {f : Addr} {fd : FuncData} (F : Fun K "quarter_round" "quarter_round" sQua f fd) (G : Ok P w K mg base "mix_pair" 2 ["state", "target", "added", "turned", "bits"] spMix) : FnOk P w K mg base CX0 3 f fd ["state", "a", "b", "c", "d"] spQua := by
  refine F.ok scQua (fun vs H Q E h => ?_) (fun cdv A outer s H vs Q E hr h => ?_)
  · obtain ⟨_, _, _, _, _, _, rfl, _⟩ := h
    rfl
  · obtain ⟨l, s, a, b, c, d, rfl, hl, ha, hb, hc, hd, kk⟩ := h
    refine ⟨_, pss_cons (ps_expr (pe_fn G hr rfl (pa_cons (pv 0) (pa_cons (pv 1) (pa_cons (pv 2) (pa_cons (pv 4) (pa_cons pe_int pa_nil)))))))
      (pss_cons (ps_expr (pe_fn G hr rfl (pa_cons (pv 0) (pa_cons (pv 3) (pa_cons (pv 4) (pa_cons (pv 2) (pa_cons pe_int pa_nil)))))))
      (pss_cons (ps_expr (pe_fn G hr rfl (pa_cons (pv 0) (pa_cons (pv 1) (pa_cons (pv 2) (pa_cons (pv 4) (pa_cons pe_int pa_nil)))))))
      (pss_one (ps_expr (pe_fn G hr rfl (pa_cons (pv 0) (pa_cons (pv 3) (pa_cons (pv 4) (pa_cons (pv 2) (pa_cons pe_int pa_nil)))))))))), ?_⟩
    refine ⟨_, rfl, _, rfl, _, rfl, _, rfl, l, s, a, b, d, 16, rfl, hl, ha, hb, hd, by decide, by decide, fun H1 h1 b1 => ?_⟩
    refine ⟨_, rfl, _, rfl, _, rfl, _, rfl, l, _, c, d, b, 12, rfl, h1, by rw [mixP_length]; exact hc, by rw [mixP_length]; exact hd, by rw [mixP_length]; exact hb, by decide, by decide, fun H2 h2 b2 => ?_⟩
    refine ⟨_, rfl, _, rfl, _, rfl, _, rfl, l, _, a, b, d, 8, rfl, h2, by simp only [mixP_length]; exact ha, by simp only [mixP_length]; exact hb, by simp only [mixP_length]; exact hd, by decide, by decide, fun H3 h3 b3 => ?_⟩
    refine ⟨_, rfl, _, rfl, _, rfl, _, rfl, l, _, c, d, b, 7, rfl, h3, by simp only [mixP_length]; exact hc, by simp only [mixP_length]; exact hd, by simp only [mixP_length]; exact hb, by decide, by decide, fun H4 h4 b4 => ?_⟩
    exact kk H4 h4 (((b1.trans b2).trans b3).trans b4)
theorem scMxd : FnScope ["first", "state", "double_round", "a", "b", "c", "d"] ["first"] (defScope sMxd) := ⟨rfl, rfl, rfl, by decide +kernel, rfl, by decide +kernel, by decide +kernel⟩
theorem ok_mxd {f : Addr} {fd : FuncData} (F : Fun K "mixed_state" "mixed_state" sMxd f fd) (T : Txt K mg) (G : Ok P w K mg base "quarter_round" 3 ["state", "a", "b", "c", "d"] spQua) : FnOk P w K mg base CX0 4 f fd ["first"] (spMxd K) := by
  refine F.ok scMxd (fun vs H Q E h => ?_) (fun cdv A outer s H vs Q E hr h => ?_)
  · obtain ⟨_, _, rfl, _⟩ := h
    rfl
  · obtain ⟨a, s, rfl, hS, h16, kk⟩ := h
    obtain ⟨dt, hdr⟩ := T.dr
    obtain ⟨q, rs, hq, hrs, hQ, hR⟩ := T.qua
    refine ⟨_, pss_cons (ps_set (i := 1) scMxd.nd rfl (Or.inl rfl) (pe_callTy call_list_of rfl T.lst boot_list (pa_cons (pv 0) pa_nil)))
      (pss_cons (ps_for PassesOwn.never rfl (pi_range1 rfl T.rng (pa_cons (pe_gi rfl hdr) pa_nil)) (pg_name (i := 2) scMxd.nd rfl (Or.inl rfl))
        (pss_one (ps_for PassesOwn.never rfl (pi_tup (pe_gr rfl hq)) (pg_tup rfl (pgs_cons (pg_name (i := 3) scMxd.nd rfl (Or.inl rfl)) (pgs_cons (pg_name (i := 4) scMxd.nd rfl (Or.inl rfl)) (pgs_cons (pg_name (i := 5) scMxd.nd rfl (Or.inl rfl)) (pgs_cons (pg_name (i := 6) scMxd.nd rfl (Or.inl rfl)) pgs_nil)))))
          (pss_one (ps_expr (pe_fn G hr rfl (pa_cons (pv 1) (pa_cons (pv 3) (pa_cons (pv 4) (pa_cons (pv 5) (pa_cons (pv 6) pa_nil)))))))))))
      (pss_one (ps_ret (pv 1)))), ?_⟩
    refine ⟨_, rfl, a, _, rfl, .inl hS, fun l hl => ?_⟩
    refine ⟨10, rfl, by decide, by decide, for_by (J := Itr 0 (10 : Int).toNat) 10 (fun i σ H' => Same H H' ∧ H' l = some (.lst (vW (twices i s))) ∧ ∃ v2 v3 v4 v5 v6 : Option V, σ = [some (.ref a), some (.ref l), v2, v3, v4, v5, v6]) ⟨same_new hl, upd_same, none, none, none, none, none, rfl⟩ ?_ ?_⟩
    · rintro i σ H' hi ⟨s1, h1, v2, v3, v4, v5, v6, rfl⟩
      refine ⟨hi, fun x H2 y => ?_⟩
      obtain ⟨rfl, rfl⟩ := y
      refine ⟨q, rfl, ⟨_, hQ _⟩, for_tup (K := K) (a := q) (xs := rs.map V.ref) (fun j σ H' => Same H H' ∧ H' l = some (.lst (vW ((Ql09.ROUNDS.take j).foldl Ql09.quarter (twices i s)))) ∧ ∃ v2 v3 v4 v5 v6 : Option V, σ = [some (.ref a), some (.ref l), v2, v3, v4, v5, v6])
        ⟨s1, h1, _, _, _, _, _, rfl⟩ (fun _ _ H' _ _ => hQ H') ?_ ?_⟩
      · rintro j y σ H3 hj ⟨s2, h2, w2, w3, w4, w5, w6, rfl⟩
        rw [List.getElem?_map] at hj
        cases er : rs[j]? with
        | none => rw [er] at hj; cases hj
        | some r =>
          rw [er] at hj
          have ey : y = V.ref r := (Option.some.inj hj).symm
          subst ey
          obtain ⟨x, hx, hX⟩ := hR j r er
          have hxm := List.mem_of_getElem? hx
          obtain ⟨b1, b2, b3, b4, _⟩ := rounds_ok hxm
          have hl16 : ((Ql09.ROUNDS.take j).foldl Ql09.quarter (twices i s)).length = 16 := by rw [foldQ_length, twices_length, h16]
          refine ⟨r, _, rfl, hX _, rfl, _, _, rfl, _, _, rfl, _, _, rfl, _, _, rfl, rfl, ?_⟩
          refine ⟨_, rfl, _, rfl, _, rfl, _, rfl, _, rfl, l, _, x.1, x.2.1, x.2.2.1, x.2.2.2, rfl, h2, by rw [hl16]; exact b1, by rw [hl16]; exact b2, by rw [hl16]; exact b3, by rw [hl16]; exact b4, fun H4 h4 bt => ?_⟩
          refine ⟨bt.same s2 hl, ?_, _, _, _, _, _, rfl⟩
          rw [h4, foldQ_snoc hx, ← quarterP_rounds hl16 hxm]
      · rintro σ H3 ⟨s2, h2, w2, w3, w4, w5, w6, rfl⟩
        refine ⟨s2, ?_, _, _, _, _, _, rfl⟩
        rw [h2, twices_succ, List.length_map, hrs]
        rfl
    · rintro σ H3 ⟨s2, h2, w2, w3, w4, w5, w6, rfl⟩
      exact ⟨Nat.le_refl 10, _, rfl, kk H3 l hl h2 s2⟩
end
end Sr

end
section
set_option Elab.async false
set_option linter.all false
set_option maxRecDepth 100000
set_option maxHeartbeats 2000000
namespace Sr
open PySem PySem.Spec PyProof.Rows L2
def spStr (K : PySem.W.Frag) : Sp := fun vs H Q _ => ∃ (ka oa da : Addr) (key once data : List Nat) (c : Nat), vs = [.ref ka, .ref oa, .int (c : Int), .ref da] ∧ SqL K H ka (vN key) ∧ SqL K H oa (vN once) ∧ SqL K H da (vN data) ∧ KeyOk key ∧ Bys once ∧ once.length = 12 ∧ c < 2 ^ 32 ∧ Bys data ∧ data.length ≤ 70000 ∧ New H Q (Ql09.stream key once c data)
def spMrk (K : PySem.W.Frag) : Sp := fun vs H Q _ => ∃ (ka ra : Addr) (key row : List Nat), vs = [.ref ka, .ref ra] ∧ SqL K H ka (vN key) ∧ SqL K H ra (vN row) ∧ KeyOk key ∧ Bys row ∧ row.length ≤ 100000 ∧ New H Q (Ql09.mark key row)
/-! ### numbers -/
theorem first_eq (key once : List Nat) (c : Nat) (hc : c < 2 ^ 32) : ((vN [1634760805, 857760878, 2036477234, 1797285236] ++ vN (toN (Ql09.words key))) ++ [V.int (c : Int)]) ++ vN (toN (Ql09.words once)) = vW (firstW key once c) := by
  have e : ((BitVec.ofNat 32 c).toNat : Nat) = c := by rw [BitVec.toNat_ofNat]; exact Nat.mod_eq_of_lt hc
  rw [vW_eq, vW_eq]
  unfold firstW vW
  rw [List.map_append, List.map_append, List.map_cons (a := BitVec.ofNat 32 c), e, List.append_assoc, List.append_assoc]
  rfl
theorem cur_eq (c i : Nat) : Builtin.bitAnd ((c : Int) + (0 + (i : Int) * 64) / 64) 4294967295 = (((c + i) % 2 ^ 32 : Nat) : Int) := by
  have e : (c : Int) + (0 + (i : Int) * 64) / 64 = ((c + i : Nat) : Int) := by omega
  rw [e, mask32]
theorem xorn_eq (a b : Nat) : Builtin.bitXor (a : Int) (b : Int) = ((a ^^^ b : Nat) : Int) := by
  rw [Bits.bitXor_pp (by omega) (by omega), Int.toNat_natCast, Int.toNat_natCast]
theorem clamp_eq (n : Nat) : Builtin.bitAnd (n : Int) 21267647620597763993911028882763415551 = ((Ql09.clamp n : Nat) : Int) := by
  rw [PyProof.Rows.bitAnd_pp (by omega) (by omega), Int.toNat_natCast]
  rfl
theorem P_eq : ((Ql09.P : Nat) : Int) = 1361129467683753853853498429727072845819 := by decide +kernel
theorem mark_step (r : Nat) (row : List Nat) {i : Nat} (hi : i < (row.length + 15) / 16) :
    (((markN r row i : Nat) : Int) + ((Ql09.number ((row.drop (16 * i)).take 16 ++ [1]) : Nat) : Int)) * (r : Int) % 1361129467683753853853498429727072845819 = ((markN r row (i + 1) : Nat) : Int) := by
  rw [markN_succ r row hi, Int.natCast_emod, Int.natCast_mul, Int.natCast_add, P_eq]
/-- the bytes of a block, by its words so far -/
def zipB (A B : List Ql09.W) (i : Nat) : List Nat := ((A.zip B).take i).flatMap fun x => Ql09.bytesOf 4 (x.1 + x.2).toNat
theorem word_eq {s : List Ql09.W} {i : Nat} (h : i < s.length) : Ql09.word s i = s[i] := by
  unfold Ql09.word
  rw [List.getD_eq_getElem?_getD, List.getElem?_eq_getElem h]
  rfl
theorem zipB_succ {A B : List Ql09.W} {i : Nat} (ha : i < A.length) (hb : i < B.length) : zipB A B (i + 1) = zipB A B i ++ Ql09.bytesOf 4 (Ql09.word B i + Ql09.word A i).toNat := by
  have e : (A.zip B)[i]? = some (A[i], B[i]) := List.getElem?_zip_eq_some.mpr ⟨List.getElem?_eq_getElem ha, List.getElem?_eq_getElem hb⟩
  unfold zipB
  rw [flatMap_snoc _ e, word_eq ha, word_eq hb, BitVec.add_comm]
theorem zipB_len (A B : List Ql09.W) (i : Nat) : (zipB A B i).length ≤ 4 * B.length := by
  unfold zipB
  rw [flatMap_length _ 4 _ fun x _ => bytesOf_length 4 _, List.length_take, List.length_zip]
  omega
theorem zipB_all {A B : List Ql09.W} {n : Nat} (hn : B.length ≤ n) : zipB A B n = (A.zip B).flatMap fun x => Ql09.bytesOf 4 (x.1 + x.2).toNat := by
  unfold zipB
  rw [List.take_of_length_le (by rw [List.length_zip]; omega)]
def blkN (F : List Ql09.W) (i : Nat) : List Nat := zipB (twices 10 F) F i
theorem blkN_succ (F : List Ql09.W) {i : Nat} (hi : i < F.length) : blkN F (i + 1) = blkN F i ++ Ql09.bytesOf 4 (Ql09.word F i + Ql09.word (twices 10 F) i).toNat :=
  zipB_succ (by rw [twices_length]; exact hi) hi
theorem blkN_all (key once : List Nat) (c : Nat) {n : Nat} (hn : (firstW key once c).length ≤ n) : blkN (firstW key once c) n = Ql09.block key once c := by
  rw [block_eq]
  exact zipB_all hn
theorem blkN_len (F : List Ql09.W) (i : Nat) : (blkN F i).length ≤ 4 * F.length := zipB_len _ _ _
theorem vW_bytes {s : List Ql09.W} {i : Nat} {x : V} (h : (vW s)[i]? = some x) : i < s.length ∧ x = .int ((Ql09.word s i).toNat : Int) := by
  have hi : i < s.length := by
    have := (List.getElem?_eq_some_iff.mp h).1
    rw [vW_len] at this
    exact this
  exact ⟨hi, Option.some.inj (h.symm.trans (vW_at hi))⟩
theorem small_of {n : Nat} (h : n ≤ 1000000) : n ≤ sizeLine := Nat.le_trans h (by decide)
section
variable {P : Program} {w : World} {K : PySem.W.Frag} {mg : Str → Option Value} {base : Heap}
theorem scBlk : FnScope ["key", "once", "counter", "first", "made", "before", "after"] ["key", "once", "counter"] (defScope sBlk) := ⟨rfl, rfl, rfl, by decide +kernel, rfl, by decide +kernel, by decide +kernel⟩
theorem ok_blk {f : Addr} {fd : FuncData} (F : Fun K "make_block" "make_block" sBlk f fd) (T : Txt K mg) (GW : Ok P w K mg base "words_from" 2 ["row"] (spWds K)) (GM : Ok P w K mg base "mixed_state" 4 ["first"] (spMxd K)) (GB : Ok P w K mg base "bytes_from" 1 ["number", "many"] spByt) :
    FnOk P w K mg base CX0 5 f fd ["key", "once", "counter"] (spBlk K) := by
  refine F.ok scBlk (fun vs H Q E h => ?_) (fun cdv A outer s H vs Q E hr h => ?_)
  · obtain ⟨_, _, _, _, _, rfl, _⟩ := h
    rfl
  · obtain ⟨ka, oa, key, once, c, rfl, hK, hO, ⟨hk32, hkb⟩, hob, ho, hc, kk⟩ := h
    obtain ⟨wt, hwm⟩ := T.wm
    obtain ⟨bt, hwb⟩ := T.wb
    obtain ⟨q, hq, hQ⟩ := T.con
    have hr1 := hr.mono (j := 1) (by decide)
    have hr2 := hr.mono (j := 2) (by decide)
    refine ⟨_, pss_cons (ps_set (i := 3) scBlk.nd rfl (Or.inl rfl) (pe_op op_cat (pe_op op_cat (pe_op op_cat (pe_callTy call_list_of rfl T.lst boot_list (pa_cons (pe_gr rfl hq) pa_nil)) (pe_fn GW hr2 rfl (pa_cons (pv 0) pa_nil))) (pe_lst (pa_cons (pv 2) pa_nil))) (pe_fn GW hr2 rfl (pa_cons (pv 1) pa_nil))))
      (pss_cons (ps_set (i := 4) scBlk.nd rfl (Or.inl rfl) (pe_lst pa_nil))
      (pss_cons (ps_for PassesOwn.never rfl (pi_zip rfl T.zip (pa_cons (pv 3) (pa_cons (pe_fn GM hr rfl (pa_cons (pv 3) pa_nil)) pa_nil))) (pg_tup rfl (pgs_cons (pg_name (i := 5) scBlk.nd rfl (Or.inl rfl)) (pgs_cons (pg_name (i := 6) scBlk.nd rfl (Or.inl rfl)) pgs_nil)))
        (pss_one (ps_expr (pe_bm PySem.F.plainAttrs_list PySem.F.slot_list_extend PySem.F.type_list_extend mt_extend (pv 4) (pa_cons (pe_fn GB hr1 rfl (pa_cons (pe_op op_and (pe_op op_add (pv 5) (pv 6)) (pe_gi rfl hwm)) (pa_cons (pe_gi rfl hwb) pa_nil))) pa_nil)))))
      (pss_one (ps_ret (pv 4))))), ?_⟩
    -- first
    refine ⟨q, _, rfl, .inr (hQ _), fun l0 n0 => ?_⟩
    have s0 := same_new (o := .lst (vN [1634760805, 857760878, 2036477234, 1797285236])) n0
    refine ⟨_, rfl, ka, key, rfl, s0.seq hK, hkb, by omega, by omega, fun H1 l1 n1 h1 s1 => ?_⟩
    have f0 := s1 _ _ (upd_same (H := H) (a := l0))
    have wl : ∀ l, (vN (toN (Ql09.words l))).length = l.length / 4 := fun l => by rw [vN_len, List.length_map, words_length]
    refine ⟨l0, l1, _, _, rfl, rfl, f0, h1, small_of (by rw [wl, hk32]; decide), fun l2 n2 => ?_⟩
    refine ⟨_, rfl, (by show 1 ≤ sizeLine; decide), fun l3 n3 => ?_⟩
    have s2 := (s0.trans s1)
    have s3 := same_add (o := .lst (vN [1634760805, 857760878, 2036477234, 1797285236] ++ vN (toN (Ql09.words key)))) s2 n2
    have s4 := same_add (o := .lst [V.int (c : Int)]) s3 n3
    refine ⟨l2, l3, _, _, rfl, rfl, Eq.trans (upd_ne (ne_of_none upd_same n3)) upd_same, upd_same, small_of (by rw [List.length_append, wl, hk32]; show 4 + 32 / 4 + 1 ≤ 1000000; decide), fun l4 n4 => ?_⟩
    have s5 := same_add (o := .lst ((vN [1634760805, 857760878, 2036477234, 1797285236] ++ vN (toN (Ql09.words key))) ++ [V.int (c : Int)])) s4 n4
    refine ⟨_, rfl, oa, once, rfl, s5.seq hO, hob, by omega, by omega, fun H5 l5 n5 h5 s6 => ?_⟩
    refine ⟨l4, l5, _, _, rfl, rfl, s6 _ _ upd_same, h5, small_of (by rw [List.length_append, List.length_append, wl, wl, hk32, ho]; show 4 + 32 / 4 + 1 + 12 / 4 ≤ 1000000; decide), fun lf nf => ?_⟩
    have s7 := same_add (o := .lst (((vN [1634760805, 857760878, 2036477234, 1797285236] ++ vN (toN (Ql09.words key))) ++ [V.int (c : Int)]) ++ vN (toN (Ql09.words once)))) (s5.trans s6) nf
    have hF16 := firstW_length hk32 ho c
    have hfst := Eq.trans (upd_same (H := H5) (a := lf) (o := .lst (((vN [1634760805, 857760878, 2036477234, 1797285236] ++ vN (toN (Ql09.words key))) ++ [V.int (c : Int)]) ++ vN (toN (Ql09.words once))))) (congrArg (fun q => some (HO.lst q)) (first_eq key once c hc))
    generalize upd H5 lf (.lst (((vN [1634760805, 857760878, 2036477234, 1797285236] ++ vN (toN (Ql09.words key))) ++ [V.int (c : Int)]) ++ vN (toN (Ql09.words once)))) = H6 at s7 hfst ⊢
    -- made = []
    refine ⟨Nat.zero_le _, fun m nm => ?_⟩
    have s8 := same_add (o := .lst []) s7 nm
    have nm0 : H m = none := s7.free nm
    have hfs := Eq.trans (upd_ne (o := .lst []) (ne_of_none hfst nm)) hfst
    refine ⟨_, rfl, _, rfl, lf, _, rfl, SqL.of hfs, hF16, fun H7 lm nlm h7 s9 => ?_⟩
    have hf7 := s9 _ _ hfs
    have hm7 := s9 _ _ (upd_same (H := H6) (a := m) (o := .lst []))
    have nfm : lf ≠ m := ne_of_none hfst nm
    have nlmm : lm ≠ m := fun q => by rw [q, upd_same] at nlm; cases nlm
    refine ⟨lf, lm, _, _, rfl, SqL.of hf7, SqL.of h7, for_by (J := Itz K lf lm) 16 (fun i σ H' => Same H H' ∧ H' lf = some (.lst (vW (firstW key once c))) ∧ H' lm = some (.lst (vW (twices 10 (firstW key once c)))) ∧ H' m = some (.lst (vN (blkN (firstW key once c) i))) ∧ ∃ v5 v6 : Option V, σ = [some (.ref ka), some (.ref oa), some (.int (c : Int)), some (.ref lf), some (.ref m), v5, v6])
      ⟨s8.trans s9, hf7, h7, hm7, none, none, rfl⟩ ?_ ?_⟩
    · rintro i σ H' hi ⟨t1, t2, t3, t4, v5, v6, rfl⟩
      have hiF : i < (firstW key once c).length := by rw [hF16]; exact hi
      have hiT : i < (twices 10 (firstW key once c)).length := by rw [twices_length, hF16]; exact hi
      refine ⟨⟨_, _, _, _, SqL.of t2, SqL.of t3, vW_at hiF, vW_at hiT⟩, fun x H2 y => ?_⟩
      obtain ⟨tp, x, y, rfl, ntp, rfl, hx, hy⟩ := y
      obtain ⟨_, rfl⟩ := vW_bytes (hx _ (SqL.of t2))
      obtain ⟨_, rfl⟩ := vW_bytes (hy _ (SqL.of t3))
      refine ⟨tp, _, rfl, SqT.of upd_same, rfl, _, _, rfl, _, _, rfl, rfl, ?_⟩
      refine ⟨_, rfl, .inl ⟨rfl, _, SqL.of (Eq.trans (upd_ne (ne_of_none t4 ntp)) t4)⟩, _, rfl, _, rfl, _, _, rfl, rfl, _, _, rfl, rfl, (Ql09.word (firstW key once c) i + Ql09.word (twices 10 (firstW key once c)) i).toNat, 4, congrArg (fun z => [V.int z, V.int 4]) (addw_eq _ _), by decide, fun H3 p3 n3 h3 s3 => ?_⟩
      have s3' := (same_new (o := .tup [V.int ((Ql09.word (firstW key once c) i).toNat : Int), V.int ((Ql09.word (twices 10 (firstW key once c)) i).toNat : Int)]) ntp).trans s3
      refine ⟨m, p3, _, _, rfl, rfl, s3' _ _ t4, h3, small_of ?_, ?_⟩
      · rw [vN_len, vN_len, bytesOf_length]
        have := blkN_len (firstW key once c) i
        omega
      · refine ⟨same_upd (t1.trans s3') nm0, Eq.trans (upd_ne nfm) (s3' _ _ t2), Eq.trans (upd_ne nlmm) (s3' _ _ t3), ?_, _, _, rfl⟩
        rw [upd_same, vN_append, blkN_succ _ hiF]
    · rintro σ H' ⟨t1, t2, t3, t4, v5, v6, rfl⟩
      rw [blkN_all key once c (by rw [hF16]; exact Nat.le_refl _)] at t4
      exact ⟨⟨_, _, SqL.of t2, SqL.of t3, .inl (by rw [vW_len, hF16]; exact Nat.le_refl _)⟩, _, rfl, kk H' m nm0 t4 t1⟩
theorem scStr : FnScope ["key", "once", "counter", "data", "made", "start", "current", "part", "ours", "theirs"] ["key", "once", "counter", "data"] (defScope sStr) := ⟨rfl, rfl, rfl, by decide +kernel, rfl, by decide +kernel, by decide +kernel⟩
theorem ok_str {f : Addr} {fd : FuncData} (F : Fun K "make_stream" "make_stream" sStr f fd) (T : Txt K mg) (G : Ok P w K mg base "make_block" 5 ["key", "once", "counter"] (spBlk K)) :
    FnOk P w K mg base CX0 6 f fd ["key", "once", "counter", "data"] (spStr K) := by
  refine F.ok scStr (fun vs H Q E h => ?_) (fun cdv A outer s H vs Q E hr h => ?_)
  · obtain ⟨_, _, _, _, _, _, _, rfl, _⟩ := h
    rfl
  · obtain ⟨ka, oa, da, key, once, data, c, rfl, hK, hO, hD, hk, hob, ho, hc, hdb, hdl, kk⟩ := h
    obtain ⟨wt, hwm⟩ := T.wm
    obtain ⟨bt, hbb⟩ := T.bb
    refine ⟨_, pss_cons (ps_set (i := 4) scStr.nd rfl (Or.inl rfl) (pe_lst pa_nil))
      (pss_cons (ps_for PassesOwn.never rfl (pi_range3 rfl T.rng (pa_cons pe_int (pa_cons (pe_callB call_len_seq rfl T.len PySem.boot_len (pa_cons (pv 3) pa_nil)) (pa_cons (pe_gi rfl hbb) pa_nil)))) (pg_name (i := 5) scStr.nd rfl (Or.inl rfl))
        (pss_cons (ps_set (i := 6) scStr.nd rfl (Or.inl rfl) (pe_op op_and (pe_op op_add (pv 2) (pe_op op_fdiv (pv 5) (pe_gi rfl hbb))) (pe_gi rfl hwm)))
        (pss_cons (ps_set (i := 7) scStr.nd rfl (Or.inl rfl) (pe_slice sl_list (pv 3) (po_some (pv 5)) (po_some (pe_op op_add (pv 5) (pe_gi rfl hbb)))))
        (pss_one (ps_expr (pe_bm PySem.F.plainAttrs_list PySem.F.slot_list_extend PySem.F.type_list_extend mt_extend (pv 4) (pa_cons (pe_lc (own := [("ours", 8), ("theirs", 9)]) (g := gTup K 2 (gCons (gName 8) (gCons (gName 9) gNil))) rfl scStr.nd
          (pi_zip rfl T.zip (pa_cons (pv 7) (pa_cons (pe_fn G hr rfl (pa_cons (pv 0) (pa_cons (pv 1) (pa_cons (pv 6) pa_nil)))) pa_nil)))
          (by show BlkOk ["key", "once", "counter", "data", "made", "start", "current", "part", "ours", "theirs"] (defScope sStr) _ _; exact ⟨rfl, by decide +kernel, by decide +kernel, by decide +kernel, by decide +kernel⟩)
          (fun _ _ _ _ _ => pg_tup rfl (pgs_cons (pg_name (i := 8) scStr.nd rfl (Or.inl rfl)) (pgs_cons (pg_name (i := 9) scStr.nd rfl (Or.inl rfl)) pgs_nil))) (fun _ _ _ _ _ => pts_nil)
          (fun _ _ _ _ _ => pe_op op_xor (pv 8) (pv 9))) pa_nil)))))))
      (pss_one (ps_ret (pv 4)))), ?_⟩
    refine ⟨Nat.zero_le _, fun m nm => ?_⟩
    have s0 := same_new (o := .lst []) nm
    have hr64 : RgC 0 ((vN data).length : Int) 64 ((data.length + 63) / 64) := by
      rw [vN_len]
      exact rg64 (by omega)
    refine ⟨_, rfl, da, _, rfl, .inl (s0.seq hD), 0, _, 64, (data.length + 63) / 64, rfl, hr64, for_by (J := Itc 0 64 ((data.length + 63) / 64)) ((data.length + 63) / 64) (fun i σ H' => Same H H' ∧ H' m = some (.lst (vN (streamN key once c data i))) ∧ ∃ v5 v6 v7 : Option V, σ = [some (.ref ka), some (.ref oa), some (.int (c : Int)), some (.ref da), some (.ref m), v5, v6, v7, none, none])
      ⟨s0, upd_same, none, none, none, rfl⟩ ?_ ?_⟩
    · rintro i σ H1 hi ⟨s1, h1, v5, v6, v7, rfl⟩
      refine ⟨hi, fun x H2 y => ?_⟩
      obtain ⟨rfl, rfl⟩ := y
      refine ⟨_, rfl, _, rfl, _, _, rfl, rfl, ⟨by decide, by decide⟩, _, _, rfl, rfl, _, _, rfl, rfl, ?_⟩
      refine ⟨_, rfl, _, rfl, _, rfl, _, rfl, _, _, rfl, rfl, _, rfl, da, _, rfl, s1.seq hD, fun p hp => ?_⟩
      have s2 := same_add (o := .lst (cutV (vN data) (some (0 + (i : Int) * 64)) (some (0 + (i : Int) * 64 + 64)))) s1 hp
      have hpart : upd H2 p (.lst (cutV (vN data) (some (0 + (i : Int) * 64)) (some (0 + (i : Int) * 64 + 64)))) p = some (.lst (vN ((data.drop (64 * i)).take 64))) := Eq.trans upd_same (congrArg (fun q => some (HO.lst q)) (cut_at data 64 i))
      have hm2 := Eq.trans (upd_ne (o := .lst (cutV (vN data) (some (0 + (i : Int) * 64)) (some (0 + (i : Int) * 64 + 64)))) (ne_of_none h1 hp)) h1
      generalize upd H2 p (.lst (cutV (vN data) (some (0 + (i : Int) * 64)) (some (0 + (i : Int) * 64 + 64)))) = H2g at s2 hpart hm2 ⊢
      refine ⟨_, rfl, .inl ⟨rfl, _, SqL.of hm2⟩, _, rfl, _, rfl, _, rfl, _, rfl, ka, oa, key, once, (c + i) % 2 ^ 32, congrArg (fun z => [V.ref ka, V.ref oa, V.int z]) (cur_eq c i), s2.seq hK, s2.seq hO, hk, hob, ho, Nat.mod_lt _ (by decide), fun H3 pb npb hb3 s3 => ?_⟩
      have hblen := block_length hk.1 ho ((c + i) % 2 ^ 32)
      have hp3 := s3 _ _ hpart
      have hm3 := s3 _ _ hm2
      have hplen : ((data.drop (64 * i)).take 64).length ≤ 64 := by rw [List.length_take]; omega
      have hxl : (Ql09.xor ((data.drop (64 * i)).take 64) (Ql09.block key once ((c + i) % 2 ^ 32))).length = ((data.drop (64 * i)).take 64).length := by rw [xor_length, hblen]; omega
      refine ⟨p, pb, _, _, rfl, SqL.of hp3, SqL.of hb3, fun D nD => lc_by (J := Itz K p pb) (g := gTup K 2 (gCons (gName 8) (gCons (gName 9) gNil))) (tt := tYes) (te := tOp (rI0 fun i j => .int (Builtin.bitXor i j)) (tVar 8) (tVar 9)) (vs := [8, 9]) (Q := fun v H4 => rExtend (V.ref m) [v] H4 fun _ H5 => Same H H5 ∧ H5 m = some (.lst (vN (streamN key once c data (i + 1)))) ∧ ∃ u5 u6 u7 : Option V, ([some (.ref ka), some (.ref oa), some (.int (c : Int)), some (.ref da), some (.ref m), some (.int (0 + (i : Int) * 64)), some (.int (Builtin.bitAnd ((c : Int) + (0 + (i : Int) * 64) / 64) 4294967295)), some (.ref p), none, none] : L2.St) = [some (.ref ka), some (.ref oa), some (.int (c : Int)), some (.ref da), some (.ref m), u5, u6, u7, none, none]) (D := D) (H0 := upd H3 D (.lst [])) ((data.drop (64 * i)).take 64).length (fun j H' => Same H3 H' ∧ H' D = some (.lst (vN ((Ql09.xor ((data.drop (64 * i)).take 64) (Ql09.block key once ((c + i) % 2 ^ 32))).take j)))) ⟨same_new nD, upd_same⟩ ?_ ?_⟩
      · rintro j H4 hj ⟨s4, h4⟩
        have hjb : j < (Ql09.block key once ((c + i) % 2 ^ 32)).length := by omega
        refine ⟨⟨_, _, _, _, SqL.of (s4 _ _ hp3), SqL.of (s4 _ _ hb3), at_vN (List.getElem?_eq_getElem hj), at_vN (List.getElem?_eq_getElem hjb)⟩, fun x H5 y => ?_⟩
        obtain ⟨tp, x, y, rfl, ntp, rfl, hx, hy⟩ := y
        obtain ⟨nx, ex, rfl⟩ := vN_at (hx _ (SqL.of (s4 _ _ hp3)))
        obtain ⟨ny, ey, rfl⟩ := vN_at (hy _ (SqL.of (s4 _ _ hb3)))
        refine ⟨tp, _, rfl, SqT.of upd_same, rfl, _, _, rfl, _, _, rfl, rfl, rfl, ?_⟩
        refine ⟨_, rfl, _, rfl, _, _, rfl, rfl, _, Eq.trans (upd_ne (ne_of_none h4 ntp)) h4, ?_, same_upd (same_add s4 ntp) nD, ?_⟩
        · rw [vN_len, List.length_take, hxl]
          exact Nat.lt_of_le_of_lt (Nat.min_le_right _ _) (Nat.lt_of_le_of_lt hplen (by decide))
        · have e : (Ql09.xor ((data.drop (64 * i)).take 64) (Ql09.block key once ((c + i) % 2 ^ 32)))[j]? = some (nx ^^^ ny) := by
            unfold Ql09.xor
            rw [List.getElem?_map, List.getElem?_zip_eq_some (z := (nx, ny)) |>.mpr ⟨ex, ey⟩]
            rfl
          rw [upd_same]
          dsimp only
          rw [xorn_eq, vN_snoc e]
      · rintro H4 ⟨s4, h4⟩
        rw [List.take_of_length_le (by rw [hxl]; exact Nat.le_refl _)] at h4
        refine ⟨⟨_, _, SqL.of (s4 _ _ hp3), SqL.of (s4 _ _ hb3), .inl (by rw [vN_len]; exact Nat.le_refl _)⟩, ?_⟩
        have hsl : (streamN key once c data i).length ≤ data.length := by
          unfold streamN
          rw [xor_length, List.length_take]
          omega
        refine ⟨m, D, _, _, rfl, rfl, s4 _ _ hm3, h4, small_of (by rw [vN_len, vN_len, hxl]; omega), ?_⟩
        refine ⟨same_upd ((s2.trans s3).trans s4) nm, ?_, _, _, _, rfl⟩
        rw [upd_same, vN_append, streamN_succ hk.1 ho c data (by omega)]
    · rintro σ H1 ⟨s1, h1, v5, v6, v7, rfl⟩
      rw [stream_eq] at h1
      exact ⟨Nat.le_refl _, _, rfl, kk H1 m nm h1 s1⟩
theorem scMrk : FnScope ["key", "row", "factor", "total", "start", "part"] ["key", "row"] (defScope sMrk) := ⟨rfl, rfl, rfl, by decide +kernel, rfl, by decide +kernel, by decide +kernel⟩
theorem ok_mrk {f : Addr} {fd : FuncData} (F : Fun K "make_mark" "make_mark" sMrk f fd) (T : Txt K mg) (GN : Ok P w K mg base "number_from" 1 ["row"] (spNum K)) (GB : Ok P w K mg base "bytes_from" 1 ["number", "many"] spByt) :
    FnOk P w K mg base CX0 2 f fd ["key", "row"] (spMrk K) := by
  refine F.ok scMrk (fun vs H Q E h => ?_) (fun cdv A outer s H vs Q E hr h => ?_)
  · obtain ⟨_, _, _, _, rfl, _⟩ := h
    rfl
  · obtain ⟨ka, ra, key, row, rfl, hK, hR, ⟨hk32, hkb⟩, hrb, hrl, kk⟩ := h
    obtain ⟨mt, hmb⟩ := T.mb
    obtain ⟨ft, hfm⟩ := T.fm
    obtain ⟨pt, hpr⟩ := T.pr
    refine ⟨_, pss_cons (ps_set (i := 2) scMrk.nd rfl (Or.inl rfl) (pe_op op_and (pe_fn GN hr rfl (pa_cons (pe_slice sl_list (pv 0) po_none (po_some (pe_gi rfl hmb))) pa_nil)) (pe_gi rfl hfm)))
      (pss_cons (ps_set (i := 3) scMrk.nd rfl (Or.inl rfl) pe_int)
      (pss_cons (ps_for PassesOwn.never rfl (pi_range3 rfl T.rng (pa_cons pe_int (pa_cons (pe_callB call_len_seq rfl T.len PySem.boot_len (pa_cons (pv 1) pa_nil)) (pa_cons (pe_gi rfl hmb) pa_nil)))) (pg_name (i := 4) scMrk.nd rfl (Or.inl rfl))
        (pss_cons (ps_set (i := 5) scMrk.nd rfl (Or.inl rfl) (pe_op op_cat (pe_slice sl_list (pv 1) (po_some (pv 4)) (po_some (pe_op op_add (pv 4) (pe_gi rfl hmb)))) (pe_lst (pa_cons pe_int pa_nil))))
        (pss_one (ps_set (i := 3) scMrk.nd rfl (Or.inl rfl) (pe_op op_mod (pe_op op_mulB (pe_op op_add (pv 3) (pe_fn GN hr rfl (pa_cons (pv 5) pa_nil))) (pv 2)) (pe_gi rfl hpr))))))
      (pss_one (ps_ret (pe_fn GB hr rfl (pa_cons (pe_op op_add (pv 3) (pe_fn GN hr rfl (pa_cons (pe_slice sl_list (pv 0) (po_some (pe_gi rfl hmb)) po_none) pa_nil))) (pa_cons (pe_gi rfl hmb) pa_nil))))))), ?_⟩
    refine ⟨_, rfl, 16, rfl, ka, _, rfl, hK, fun p0 n0 => ?_⟩
    have s0 := same_new (o := .lst (cutV (vN key) none (some 16))) n0
    refine ⟨p0, key.take 16, rfl, SqL.of (Eq.trans upd_same (congrArg (fun q => some (HO.lst q)) ((cut_to (vN key) 16).trans (vN_take key 16)))), hkb.take _, (by rw [List.length_take]; omega), _, _, rfl, rfl, ?_⟩
    have hr16 : RgC 0 ((vN row).length : Int) 16 ((row.length + 15) / 16) := by
      rw [vN_len]
      exact rg16 hrl
    have hcl := clamp_lt (Ql09.number (key.take 16))
    refine ⟨_, rfl, ra, _, rfl, .inl (s0.seq hR), 0, _, 16, (row.length + 15) / 16, rfl, hr16, for_by (J := Itc 0 16 ((row.length + 15) / 16)) ((row.length + 15) / 16) (fun i σ H' => Same H H' ∧ ∃ v4 v5 : Option V, σ = [some (.ref ka), some (.ref ra), some (.int ((Ql09.clamp (Ql09.number (key.take 16)) : Nat) : Int)), some (.int ((markN (Ql09.clamp (Ql09.number (key.take 16))) row i : Nat) : Int)), v4, v5])
      ⟨s0, none, none, by rw [← clamp_eq]; rfl⟩ ?_ ?_⟩
    · generalize hrr : Ql09.clamp (Ql09.number (key.take 16)) = r at hcl ⊢
      rintro i σ H1 hi ⟨s1, v4, v5, rfl⟩
      refine ⟨hi, fun x H2 y => ?_⟩
      obtain ⟨rfl, rfl⟩ := y
      refine ⟨_, rfl, _, rfl, _, rfl, _, rfl, _, _, rfl, rfl, _, rfl, ra, _, rfl, s1.seq hR, fun p1 n1 => ?_⟩
      have hp1 : upd H2 p1 (.lst (cutV (vN row) (some (0 + (i : Int) * 16)) (some (0 + (i : Int) * 16 + 16)))) p1 = some (.lst (vN ((row.drop (16 * i)).take 16))) := Eq.trans upd_same (congrArg (fun q => some (HO.lst q)) (cut_at row 16 i))
      have s2 := same_add (o := .lst (cutV (vN row) (some (0 + (i : Int) * 16)) (some (0 + (i : Int) * 16 + 16)))) s1 n1
      generalize upd H2 p1 (.lst (cutV (vN row) (some (0 + (i : Int) * 16)) (some (0 + (i : Int) * 16 + 16)))) = H2g at hp1 s2 ⊢
      refine ⟨by decide, fun p2 n2 => ?_⟩
      have hpl : ((row.drop (16 * i)).take 16).length ≤ 16 := by rw [List.length_take]; omega
      refine ⟨p1, p2, _, _, rfl, rfl, Eq.trans (upd_ne (ne_of_none hp1 n2)) hp1, upd_same, small_of (by rw [vN_len]; exact Nat.le_trans (Nat.add_le_add_right hpl 1) (by decide)), fun p3 n3 => ?_⟩
      have s3 := same_add (o := .lst (vN ((row.drop (16 * i)).take 16) ++ [V.int 1])) (same_add (o := .lst [V.int 1]) s2 n2) n3
      have hbp : Bys ((row.drop (16 * i)).take 16 ++ [1]) := ((hrb.drop _).take _).append (Bys.one (by decide))
      have hlp : ((row.drop (16 * i)).take 16 ++ [1]).length ≤ 17 := by rw [List.length_append]; exact Nat.add_le_add_right hpl 1
      have hmk := markN_lt r row (Nat.le_of_lt hi)
      have hnm := number_le hbp hlp
      refine ⟨_, rfl, _, rfl, p3, (row.drop (16 * i)).take 16 ++ [1], rfl, SqL.of (Eq.trans upd_same (congrArg (fun q => some (HO.lst q)) (vN_append _ [1]))), hbp, hlp, _, _, rfl, rfl, _, rfl, _, _, rfl, rfl, ⟨?_, ?_⟩, _, _, rfl, rfl, (by show (0 : Int) < 1361129467683753853853498429727072845819; decide), s3, some (V.int (0 + (i : Int) * 16)), some (V.ref p3), ?_⟩
      · rw [← Int.natCast_add, Int.natAbs_natCast]
        have h1 : Ql09.P ≤ 2 ^ 199 := by decide +kernel
        have h2 : 256 ^ 17 ≤ 2 ^ 199 := by decide +kernel
        have h3 : (2 : Nat) ^ 200 = 2 ^ 199 + 2 ^ 199 := by decide +kernel
        rw [h3]
        exact Nat.add_lt_add (Nat.lt_of_lt_of_le hmk h1) (Nat.lt_of_lt_of_le hnm h2)
      · rw [Int.natAbs_natCast]
        exact Nat.lt_of_lt_of_le hcl (by decide +kernel)
      · rw [← mark_step r row hi]
        rfl
    · rintro σ H1 ⟨s1, v4, v5, rfl⟩
      refine ⟨Nat.le_refl _, ?_⟩
      refine ⟨_, rfl, _, rfl, 16, rfl, ka, _, rfl, s1.seq hK, fun p1 n1 => ?_⟩
      have s2 := same_add (o := .lst (cutV (vN key) (some 16) none)) s1 n1
      refine ⟨p1, key.drop 16, rfl, SqL.of (Eq.trans upd_same (congrArg (fun q => some (HO.lst q)) ((cut_from (vN key) 16).trans (vN_drop key 16)))), hkb.drop _, (by rw [List.length_drop]; omega), _, _, rfl, rfl, ?_⟩
      refine ⟨markN (Ql09.clamp (Ql09.number (key.take 16))) row ((row.length + 15) / 16) + Ql09.number (key.drop 16), 16, congrArg (fun z => [V.int z, V.int 16]) (Int.natCast_add _ _).symm, by decide, fun H3 p3 n3 h3 s3 => ?_⟩
      rw [← mark_eq] at h3
      exact kk H3 p3 (s2.free n3) h3 (s2.trans s3)
end
end Sr

end
section
set_option Elab.async false
set_option linter.all false
set_option maxRecDepth 100000
set_option maxHeartbeats 2000000
namespace Sr
open PySem PySem.Spec PyProof.Rows L2
/-! ### a method that is called -/
structure Mth (P : Program) (w : World) (K : PySem.W.Frag) (mg : Str → Option Value) (base : Heap) (C : Addr) (m : Str) (k : Nat) (ps : List Str) (sp : Sp) : Prop where
  ex : ∃ (f : Addr) (fd : FuncData), Meth K C m f ∧ Binds K fd ps [] ∧ FnOk P w K mg base CX0 k f fd ps sp
section
variable {X : Cx}
theorem pe_mth0 {o : Expr} {ta : TE} {C : Addr} {m : Str} {k : Nat} {ps : List Str} {sp : Sp} {apos pos : Pos} {pl : Sem Bool} (he : PE X o ta) (c : Cls X.K C) (G : Mth X.prog X.w X.K X.mg X.base C m k ps sp) (hr : Room k X.A)
    (ht : eval (.Call (.Attribute o m apos) [] [] pos) X.env = (do
      let ov ← eval o X.env
      standAt apos.atName
      let (f, first) ← holding [ov] (getMethod ov m pl)
      callWith pos f first (backTo pos (starEach [] X.env)) (backToKw pos (keywordEach [] X.env))) := by rfl) :
    PE X (.Call (.Attribute o m apos) [] [] pos) (tMeth C m sp [] E0 ta tNil) := by
  obtain ⟨f, fd, hm, hb, F⟩ := G.ex
  exact pe_meth0 he c hm F hr hb .nil pass0 ht
theorem pe_mth {o e : Expr} {es : List Expr} {ta : TE} {t : TA} {C : Addr} {m : Str} {k : Nat} {ps : List Str} {sp : Sp} {apos pos : Pos} {pl : Sem Bool} (he : PE X o ta) (c : Cls X.K C) (G : Mth X.prog X.w X.K X.mg X.base C m k ps sp) (hr : Room k X.A) (ha : PA X (e :: es) t)
    (hst : starEach (e :: es) X.env = (false, eval e X.env) :: starEach es X.env := by rfl) (hpl : (backTo pos (starEach es X.env)).any (·.1) = false := by rfl)
    (ht : eval (.Call (.Attribute o m apos) (e :: es) [] pos) X.env = (do
      let ov ← eval o X.env
      standAt apos.atName
      let (f, first) ← holding [ov] (getMethod ov m pl)
      callWith pos f first (backTo pos (starEach (e :: es) X.env)) (backToKw pos (keywordEach [] X.env))) := by rfl) :
    PE X (.Call (.Attribute o m apos) (e :: es) [] pos) (tMeth C m sp [] E0 ta t) := by
  obtain ⟨f, fd, hm, hb, F⟩ := G.ex
  exact pe_meth he c hm F hr hb .nil pass0 ha hst hpl ht
end
/-! ### objects -/
theorem But.seq {K : PySem.W.Frag} {H H' : Hp} {a r C dx : Addr} {xs : List V} {fs : List (Str × V)} (b : But r H H') (hr : H r = some (.ins C dx fs)) (h : SqL K H a xs) : SqL K H' a xs := by
  rcases h with (h | ⟨o, h⟩) | h
  · exact .inl (.inl (b _ _ h (ne_of h hr (by intro z; cases z))))
  · exact .inl (.inr ⟨o, b _ _ h (ne_of h hr (by intro z; cases z))⟩)
  · exact .inr h
theorem putF_again (f : Str) (v u : V) : ∀ fs : List (Str × V), putF f v (putF f u fs) = putF f v fs
  | [] => by
    show (if f = f then [(f, v)] else _) = [(f, v)]
    rw [if_pos rfl]
  | (g, x) :: r => by
    by_cases h : g = f
    · have e : ∀ z y, putF f y ((g, z) :: r) = (g, y) :: r := fun z y => by
        show (if g = f then _ else _) = _
        rw [if_pos h]
      rw [e x u, e x v, e u v]
    · have e : ∀ y s, putF f y ((g, x) :: s) = (g, x) :: putF f y s := fun y s => by
        show (if g = f then _ else _) = _
        rw [if_neg h]
      rw [e u, e v, e v, putF_again f v u r]
/-! ### the reader -/
def rfs (a : Addr) (p : Nat) : List (Str × V) := putF "place" (.int (p : Int)) (putF "calls" (.ref a) [])
theorem rfs_calls (a : Addr) (p : Nat) : (rfs a p).lookup ("calls" : Str) = some (.ref a) := by
  unfold rfs
  rw [lookup_putF, if_neg (by decide +kernel), lookup_putF, if_pos rfl]
theorem rfs_place (a : Addr) (p : Nat) : (rfs a p).lookup ("place" : Str) = some (.int (p : Int)) := by
  unfold rfs
  rw [lookup_putF, if_pos rfl]
theorem rfs_no (a : Addr) (p : Nat) {m : Str} (h1 : ¬ m = "place") (h2 : ¬ m = "calls") : (rfs a p).lookup m = none := by
  unfold rfs
  rw [lookup_putF, if_neg h1, lookup_putF, if_neg h2]
  rfl
theorem rfs_len (a : Addr) (p : Nat) : (rfs a p).length < 1000 := by
  unfold rfs
  show (if ("calls" : Str) = "place" then _ else _ : List (Str × V)).length < 1000
  rw [if_neg (by decide +kernel)]
  show 2 < 1000
  decide
theorem rfs_put (a : Addr) (p q : Nat) {y : Int} (h : y = (q : Int)) : putF "place" (.int y) (rfs a p) = rfs a q := by
  unfold rfs
  rw [putF_again, h]
/-- the reader at r reads the list at a, from place p on -/
def RdAt (C : Addr) (H : Hp) (r a : Addr) (p : Nat) : Prop := ∃ dx, H r = some (.ins C dx (rfs a p))
structure TxtR (K : PySem.W.Frag) (C : Addr) : Prop where
  cl : Cls K C
  nC : NoAttr K C "calls"
  nP : NoAttr K C "place"
def spRI (C : Addr) : Sp := fun vs H Q _ => ∃ (r a dx : Addr), vs = [.ref r, .ref a] ∧ H r = some (.ins C dx []) ∧ ∀ H' : Hp, RdAt C H' r a 0 → But r H H' → Q .non H'
def spRE (K : PySem.W.Frag) (C : Addr) : Sp := fun vs H Q _ => ∃ (r a : Addr) (p : Nat) (ns : List Int), vs = [.ref r] ∧ RdAt C H r a p ∧ SqL K H a (ns.map V.int) ∧ Q (.bl (decide (ns.length ≤ p))) H
def spRN (K : PySem.W.Frag) (C : Addr) : Sp := fun vs H Q _ => ∃ (r a : Addr) (p : Nat) (ns : List Int) (x : Int), vs = [.ref r] ∧ RdAt C H r a p ∧ SqL K H a (ns.map V.int) ∧ ns[p]? = some x ∧ ∀ H' : Hp, RdAt C H' r a (p + 1) → But r H H' → Q (.int x) H'
def spRR (K : PySem.W.Frag) (C : Addr) : Sp := fun vs H Q _ => ∃ (r a : Addr) (p q : Nat) (ns l : List Int), vs = [.ref r] ∧ RdAt C H r a p ∧ SqL K H a (ns.map V.int) ∧ RowAt ns p l q ∧
  ∀ (H' : Hp) (b : Addr), H b = none → H' b = some (.lst (l.map V.int)) → RdAt C H' r a q → But r H H' → Q (.ref b) H'
abbrev sRI : Stmt := inClass cRdr 0
abbrev sRE : Stmt := inClass cRdr 1
abbrev sRN : Stmt := inClass cRdr 2
abbrev sRR : Stmt := inClass cRdr 3
section
variable {P : Program} {w : World} {K : PySem.W.Frag} {mg : Str → Option Value} {base : Heap}
theorem scRI : FnScope ["self", "calls"] ["self", "calls"] (defScope sRI) := ⟨rfl, rfl, rfl, by decide +kernel, rfl, by decide +kernel, by decide +kernel⟩
theorem ok_ri {f C : Addr} {fd : FuncData} (F : Fun K "__init__" "Reader.__init__" sRI f fd) (T : TxtR K C) : FnOk P w K mg base CX0 1 f fd ["self", "calls"] (spRI C) := by
  refine F.ok scRI (fun vs H Q E h => ?_) (fun cdv A outer s H vs Q E hr h => ?_)
  · obtain ⟨_, _, _, rfl, _⟩ := h
    rfl
  · obtain ⟨r, a, dx, rfl, hp, k⟩ := h
    refine ⟨_, pss_cons (ps_fld (pv 0) (pv 1) rfl) (pss_one (ps_fld (pv 0) pe_int rfl)), ?_⟩
    refine ⟨_, rfl, _, rfl, r, C, dx, [], rfl, hp, T.cl, T.nC, (by show 0 < 1000; decide), ?_⟩
    refine ⟨_, rfl, r, C, dx, _, rfl, upd_same, T.cl, T.nP, (by show 1 < 1000; decide), ?_⟩
    exact k _ ⟨dx, upd_same⟩ ((But.upd r H _).trans (But.upd r _ _))
theorem scRE : FnScope ["self"] ["self"] (defScope sRE) := ⟨rfl, rfl, rfl, by decide +kernel, rfl, by decide +kernel, by decide +kernel⟩
theorem ok_re {f C : Addr} {fd : FuncData} (F : Fun K "at_end" "Reader.at_end" sRE f fd) (TT : Txt K mg) (T : TxtR K C) : FnOk P w K mg base CX0 1 f fd ["self"] (spRE K C) := by
  refine F.ok scRE (fun vs H Q E h => ?_) (fun cdv A outer s H vs Q E hr h => ?_)
  · obtain ⟨_, _, _, _, rfl, _⟩ := h
    rfl
  · obtain ⟨r, a, p, ns, rfl, ⟨dx, hp⟩, hS, k⟩ := h
    refine ⟨_, pss_one (ps_ret (pe_cmpR op_ge (pe_fld (pv 0) rfl) (pe_callB call_len_seq rfl TT.len PySem.boot_len (pa_cons (pe_fld (pv 0) rfl) pa_nil)) (nomark _))), ?_⟩
    refine ⟨_, rfl, r, C, dx, _, _, rfl, hp, T.cl, T.nP, rfs_place a p, _, rfl, r, C, dx, _, _, rfl, hp, T.cl, T.nC, rfs_calls a p, a, _, rfl, .inl hS, _, _, rfl, rfl, ?_⟩
    have e : decide ((((ns.map V.int).length : Nat) : Int) ≤ (p : Int)) = decide (ns.length ≤ p) := decide_eq_decide.mpr (by rw [List.length_map]; omega)
    show Q (V.bl (decide ((((ns.map V.int).length : Nat) : Int) ≤ (p : Int)))) H
    rw [e]
    exact k
theorem scRN : FnScope ["self", "number"] ["self"] (defScope sRN) := ⟨rfl, rfl, rfl, by decide +kernel, rfl, by decide +kernel, by decide +kernel⟩
theorem ok_rn {f C : Addr} {fd : FuncData} (F : Fun K "read_number" "Reader.read_number" sRN f fd) (T : TxtR K C) : FnOk P w K mg base CX0 1 f fd ["self"] (spRN K C) := by
  refine F.ok scRN (fun vs H Q E h => ?_) (fun cdv A outer s H vs Q E hr h => ?_)
  · obtain ⟨_, _, _, _, _, rfl, _⟩ := h
    rfl
  · obtain ⟨r, a, p, ns, x, rfl, ⟨dx, hp⟩, hS, hx, k⟩ := h
    refine ⟨_, pss_cons (ps_set (i := 1) scRN.nd rfl (Or.inl rfl) (pe_ix ix_list (pe_fld (pv 0) rfl) (pe_fld (pv 0) rfl) (fun _ _ => rfl))) (pss_cons (ps_fld (pv 0) (pe_op op_add (pe_fld (pv 0) rfl) pe_int) rfl) (pss_one (ps_ret (pv 1)))), ?_⟩
    refine ⟨_, rfl, r, C, dx, _, _, rfl, hp, T.cl, T.nC, rfs_calls a p, _, rfl, r, C, dx, _, _, rfl, hp, T.cl, T.nP, rfs_place a p, a, _, _, V.int x, rfl, rfl, hS, atI_nat (by rw [List.getElem?_map, hx]; rfl), ?_⟩
    refine ⟨_, rfl, r, C, dx, _, _, rfl, hp, T.cl, T.nP, rfs_place a p, _, _, rfl, rfl, _, rfl, r, C, dx, _, rfl, hp, T.cl, T.nP, rfs_len a p, _, rfl, ?_⟩
    exact k _ ⟨dx, Eq.trans upd_same (congrArg (fun q => some (HO.ins C dx q)) (rfs_put a p (p + 1) rfl))⟩ (But.upd r H _)
theorem scRR : FnScope ["self", "many", "start"] ["self"] (defScope sRR) := ⟨rfl, rfl, rfl, by decide +kernel, rfl, by decide +kernel, by decide +kernel⟩
theorem ok_rr {f C : Addr} {fd : FuncData} (F : Fun K "read_row" "Reader.read_row" sRR f fd) (T : TxtR K C) (G : Mth P w K mg base C "read_number" 1 ["self"] (spRN K C)) : FnOk P w K mg base CX0 2 f fd ["self"] (spRR K C) := by
  refine F.ok scRR (fun vs H Q E h => ?_) (fun cdv A outer s H vs Q E hr h => ?_)
  · obtain ⟨_, _, _, _, _, _, rfl, _⟩ := h
    rfl
  · obtain ⟨r, a, p, q, ns, l, rfl, ⟨dx, hp⟩, hS, hR, k⟩ := h
    refine ⟨_, pss_cons (ps_set (i := 1) scRR.nd rfl (Or.inl rfl) (pe_mth0 (pv 0) T.cl G hr)) (pss_cons (ps_set (i := 2) scRR.nd rfl (Or.inl rfl) (pe_fld (pv 0) rfl)) (pss_cons (ps_fld (pv 0) (pe_op op_add (pv 2) (pv 1)) rfl)
      (pss_one (ps_ret (pe_slice sl_list (pe_fld (pv 0) rfl) (po_some (pv 2)) (po_some (pe_fld (pv 0) rfl))))))), ?_⟩
    refine ⟨_, rfl, r, dx, _, rfl, hp, rfs_no a p (by decide +kernel) (by decide +kernel), r, a, p, ns, _, rfl, ⟨dx, hp⟩, hS, hR.len, fun H1 h1 b1 => ?_⟩
    obtain ⟨d1, h1⟩ := h1
    refine ⟨_, rfl, r, C, d1, _, _, rfl, h1, T.cl, T.nP, rfs_place a (p + 1), ?_⟩
    refine ⟨_, rfl, _, rfl, _, _, rfl, rfl, _, rfl, r, C, d1, _, rfl, h1, T.cl, T.nP, rfs_len a (p + 1), ?_⟩
    have eq : ((p + 1 : Nat) : Int) + (l.length : Int) = (q : Int) := by
      have := hR.nxt
      omega
    have h2 : upd H1 r (.ins C d1 (putF "place" (.int (((p + 1 : Nat) : Int) + (l.length : Int))) (rfs a (p + 1)))) r = some (.ins C d1 (rfs a q)) := Eq.trans upd_same (congrArg (fun z => some (HO.ins C d1 z)) (rfs_put a (p + 1) q eq))
    have b2 := b1.trans (But.upd r H1 (.ins C d1 (putF "place" (.int (((p + 1 : Nat) : Int) + (l.length : Int))) (rfs a (p + 1)))))
    refine ⟨_, rfl, r, C, d1, _, _, rfl, h2, T.cl, T.nC, rfs_calls a q, _, rfl, _, rfl, _, rfl, r, C, d1, _, _, rfl, h2, T.cl, T.nP, rfs_place a q, _, rfl, a, _, rfl, b2.seq hp hS, fun b hb => ?_⟩
    have hbr : r ≠ b := ne_of_none h2 hb
    have ec : cutV (ns.map V.int) (some ((p + 1 : Nat) : Int)) (some (q : Int)) = l.map V.int := by
      rw [hR.nxt, cut_nat, ← List.map_drop, ← List.map_take, hR.cut]
    refine k _ b ?_ (Eq.trans upd_same (congrArg (fun z => some (HO.lst z)) ec)) ⟨d1, Eq.trans (upd_ne hbr) h2⟩ ?_
    · cases e : H b with
      | none => rfl
      | some o =>
        rw [b2 b o e (fun z => hbr z.symm)] at hb
        cases hb
    · exact b2.trans (same_but (same_new hb))
end
end Sr

end
section
set_option Elab.async false
set_option linter.all false
set_option maxRecDepth 100000
set_option maxHeartbeats 2000000
/-! The machine: what a call promises, and the calls one behind another. -/
namespace Sr
open PySem PySem.Spec PyProof.Rows L2
theorem seq_free {K : PySem.W.Frag} {H : Hp} {a : Addr} {xs : List V} (h : SqL K H a xs) (n : H a = none) (H' : Hp) : SqL K H' a xs := by
  rcases h with (h | ⟨o, h⟩) | h
  · rw [n] at h; cases h
  · rw [n] at h; cases h
  · exact .inr h
theorem seq_upd {K : PySem.W.Frag} {H : Hp} {a m : Addr} {xs : List V} {u : HO} (h : SqL K H a xs) (n : a ≠ m ∨ ∀ H', SqL K H' a xs) : SqL K (upd H m u) a xs := by
  rcases n with n | n
  · rcases h with (h | ⟨o, h⟩) | h
    · exact .inl (.inl (by rw [upd_ne n]; exact h))
    · exact .inl (.inr ⟨o, by rw [upd_ne n]; exact h⟩)
    · exact .inr h
  · exact n _
/-! ### the sealer -/
def sfs (k : Addr) : List (Str × V) := putF "key" (.ref k) []
theorem sfs_key (k : Addr) : (sfs k).lookup ("key" : Str) = some (.ref k) := by
  unfold sfs
  rw [lookup_putF, if_pos rfl]
theorem sfs_no (k : Addr) {m : Str} (h : ¬ m = "key") : (sfs k).lookup m = none := by
  unfold sfs
  rw [lookup_putF, if_neg h]
  rfl
theorem sfs_put (k k' : Addr) : putF "key" (.ref k') (sfs k) = sfs k' := by
  unfold sfs
  rw [putF_again]
def SlAt (C : Addr) (H : Hp) (z k : Addr) : Prop := ∃ dx, H z = some (.ins C dx (sfs k))
structure TxtS (K : PySem.W.Frag) (C : Addr) : Prop where
  cl : Cls K C
  nK : NoAttr K C "key"
/-- the machine at place p, under a key -/
structure Mach (K : PySem.W.Frag) (CR CS : Addr) (H : Hp) (r z a ka : Addr) (ns : List Int) (p : Nat) (key : List Nat) : Prop where
  rd : RdAt CR H r a p
  sl : SlAt CS H z ka
  ky : H ka = some (.lst (vN key))
  cs : SqL K H a (ns.map V.int)
  rz : r ≠ z
/-- all but two is as it was -/
def But2 (r z : Addr) (H H' : Hp) : Prop := ∀ b o, H b = some o → b ≠ r → b ≠ z → H' b = some o
abbrev vI (l : List Int) : List V := l.map V.int
open Ql09Neutral (step asked1 begins) in
def spCall (K : PySem.W.Frag) (CR CS : Addr) : Sp := fun vs H Q _ => ∃ (r z a ka : Addr) (ns : List Int) (p q : Nat) (key : List Nat) (c : List (List Int)), vs = [.ref z, .ref r] ∧ Mach K CR CS H r z a ka ns p key ∧ CallAt ns p c q ∧ asked1 c = true ∧ (KeyOk key ∨ begins c = true) ∧ ns.length ≤ 30000 ∧
  ∀ (H' : Hp) (b kb : Addr), H b = none → (kb = ka ∨ H kb = none) → H' b = some (.lst (vI (step key c).2)) → Mach K CR CS H' r z a kb ns q (step key c).1 → But2 r z H H' → Q (.ref b) H'
def spSI (C : Addr) : Sp := fun vs H Q _ => ∃ (z dx : Addr), vs = [.ref z] ∧ H z = some (.ins C dx []) ∧ ∀ (H' : Hp) (ka : Addr), SlAt C H' z ka → H' ka = some (.lst []) → But z H H' → Q .non H'
def spAns (K : PySem.W.Frag) : Sp := fun vs H Q _ => ∃ (a : Addr) (ns : List Int), vs = [.ref a] ∧ SqL K H a (vI ns) ∧ ns.length ≤ 30000 ∧ PyQl09.answers_asked ns = true ∧ ∀ (H' : Hp) (p : Addr), H' p = some (.lst (vI (PyQl09.answers ns))) → Q (.ref p) H'
/-! ### the calls -/
theorem CallAt.adv {ns : List Int} {p q : Nat} {c : List (List Int)} (h : CallAt ns p c q) : p < q := by
  cases h with
  | key h r => have := r.nxt; omega
  | block h h1 r => have := r.nxt; omega
  | stream h h1 h2 r r' => have := r.nxt; have := r'.nxt; omega
  | mark h h1 r r' => have := r.nxt; have := r'.nxt; omega
  | sealUp h h1 h2 r r' r'' => have := r.nxt; have := r'.nxt; have := r''.nxt; omega
  | open_ h h1 h2 r r' r'' => have := r.nxt; have := r'.nxt; have := r''.nxt; omega
  | drops h h1 r r' => have := r.nxt; have := r'.nxt; omega
open Ql09Neutral (step asked1 begins nats) in
theorem step_keyok {ns : List Int} {p q : Nat} {c : List (List Int)} {key : List Nat} (h : CallAt ns p c q) (ha : asked1 c = true) (hk : KeyOk key ∨ begins c = true) : KeyOk (step key c).1 := by
  cases h with
  | key h r =>
    obtain ⟨h1, h2⟩ := asked_key ha
    rw [step_key]
    exact ⟨by rw [nats_len]; exact h2, h1.bys⟩
  | block h h1 r =>
    rw [step_block]
    exact hk.resolve_right (by simp [begins])
  | stream h h1 h2 r r' =>
    obtain ⟨_, hn, _⟩ := asked_stream ha
    rw [step_stream _ hn.1]
    exact hk.resolve_right (by simp [begins])
  | mark h h1 r r' =>
    obtain ⟨hn, _⟩ := asked_mark ha
    rw [step_mark _ hn.1]
    exact hk.resolve_right (by simp [begins])
  | sealUp h h1 h2 r r' r'' =>
    obtain ⟨hs, hn, _⟩ := asked_seal ha
    rw [step_seal _ hs.1 hn.1]
    exact hk.resolve_right (by simp [begins])
  | open_ h h1 h2 r r' r'' =>
    obtain ⟨hs, hn, _⟩ := asked_open ha
    rw [step_open _ hs.1 hn.1]
    exact hk.resolve_right (by simp [begins])
  | drops h h1 r r' =>
    obtain ⟨hn, _⟩ := asked_drops ha
    rw [step_drops _ hn.1]
    exact hk.resolve_right (by simp [begins])
/-- what is still due, from place p on -/
structure Due (ns : List Int) (p : Nat) (key : List Nat) (out : List Int) : Prop where
  ex : ∃ cs : List (List (List Int)), Left ns p cs ∧ (∀ c ∈ cs, Ql09Neutral.asked1 c = true) ∧ (KeyOk key ∨ ∀ c r, cs = c :: r → Ql09Neutral.begins c = true) ∧ out.length + 30101 * cs.length ≤ 12040400 ∧
    PyQl09.answers ns = out ++ PyFlat.told (PyFlat.played Ql09Neutral.step key cs)
theorem Due.start {ns : List Int} (h : PyQl09.answers_asked ns = true) : Due ns 0 [] [] := by
  unfold PyQl09.answers_asked at h
  cases e : PyQl09.calls ns with
  | none => rw [e] at h; cases h
  | some cs =>
    rw [e] at h
    simp only [Bool.and_eq_true] at h
    obtain ⟨_, h⟩ := h
    unfold Ql09Neutral.asked at h
    simp only [Bool.and_eq_true] at h
    obtain ⟨h1, h2, h3, _⟩ := h
    have h3 := of_decide_eq_true h3
    refine ⟨cs, ⟨ns.length, by rw [List.drop_zero, ← calls_eq]; exact e⟩, List.all_eq_true.mp h1, .inr fun c r q => ?_, by simp only [List.length_nil]; omega, ?_⟩
    · rw [q] at h2
      exact h2
    · unfold PyQl09.answers
      rw [e]
      rfl
theorem Due.done {ns : List Int} {p : Nat} {key : List Nat} {out : List Int} (h : Due ns p key out) (hp : ns.length ≤ p) : PyQl09.answers ns = out := by
  obtain ⟨cs, h1, _, _, _, h5⟩ := h.ex
  have e := h1.nil hp
  subst e
  rw [h5]
  show out ++ [] = out
  rw [List.append_nil]
theorem Due.next {ns : List Int} {p : Nat} {key : List Nat} {out : List Int} (h : Due ns p key out) (hp : p < ns.length) (hl : ns.length ≤ 30000) : ∃ c q, CallAt ns p c q ∧ Ql09Neutral.asked1 c = true ∧ (KeyOk key ∨ Ql09Neutral.begins c = true) ∧
    out.length + 30101 ≤ 12040400 ∧ (Ql09Neutral.step key c).2.length ≤ 30100 ∧ Due ns q (Ql09Neutral.step key c).1 (out ++ (((Ql09Neutral.step key c).2.length : Int) :: (Ql09Neutral.step key c).2)) := by
  obtain ⟨cs, h1, h2, h3, h4, h5⟩ := h.ex
  obtain ⟨c, r, q, e, hc, hr⟩ := h1.cons hp
  subst e
  have ha := h2 c (List.mem_cons_self ..)
  have hk : KeyOk key ∨ Ql09Neutral.begins c = true := h3.imp id fun z => z c r rfl
  have hs := step_short hc ha hk hl
  rw [List.length_cons] at h4
  refine ⟨c, q, hc, ha, hk, by omega, hs, r, hr, fun x hx => h2 x (List.mem_cons_of_mem _ hx), .inl (step_keyok hc ha hk), ?_, ?_⟩
  · rw [List.length_append, List.length_cons]
    omega
  · rw [h5]
    show out ++ PyFlat.told ((Ql09Neutral.step key c).2 :: PyFlat.played Ql09Neutral.step (Ql09Neutral.step key c).1 r) = _
    unfold PyFlat.told
    rw [List.flatMap_cons, List.append_assoc]
section
variable {P : Program} {w : World} {K : PySem.W.Frag} {mg : Str → Option Value} {base : Heap}
theorem scAns : FnScope ["calls", "reader", "sealer", "answered", "answer"] ["calls"] (defScope sAns) := ⟨rfl, rfl, rfl, by decide +kernel, rfl, by decide +kernel, by decide +kernel⟩
theorem ok_ans {f CR CS fR fS : Addr} {fd fdR fdS : FuncData} (F : Fun K "answers" "answers" sAns f fd) (T : Txt K mg) (TR : TxtR K CR) (TS : TxtS K CS) (hR : mg "Reader" = some (.ref CR)) (hS : mg "Sealer" = some (.ref CS)) (MR : Mk K CR fR) (MS : Mk K CS fS)
    (bR : Binds K fdR ["self", "calls"] []) (bS : Binds K fdS ["self"] []) (GR : FnOk P w K mg base CX0 1 fR fdR ["self", "calls"] (spRI CR)) (GS : FnOk P w K mg base CX0 1 fS fdS ["self"] (spSI CS))
    (GE : Mth P w K mg base CR "at_end" 1 ["self"] (spRE K CR)) (GC : Mth P w K mg base CS "answer_call" 8 ["self", "reader"] (spCall K CR CS)) : FnOk P w K mg base CX0 9 f fd ["calls"] (spAns K) := by
  refine F.ok scAns (fun vs H Q E h => ?_) (fun cdv A outer s H vs Q E hr h => ?_)
  · obtain ⟨_, _, rfl, _⟩ := h
    rfl
  · obtain ⟨a, ns, rfl, hA, hl, hask, kk⟩ := h
    have hr1 := hr.mono (j := 1) (by decide)
    have hr2 := hr.mono (j := 2) (by decide)
    refine ⟨_, pss_cons (ps_set (i := 1) scAns.nd rfl (Or.inl rfl) (pe_make MR GR hr2 rfl hR bR .nil pass0 (pa_cons (pv 0) pa_nil)))
      (pss_cons (ps_set (i := 2) scAns.nd rfl (Or.inl rfl) (pe_make0 MS GS hr2 rfl hS bS .nil pass0))
      (pss_cons (ps_set (i := 3) scAns.nd rfl (Or.inl rfl) (pe_lst pa_nil))
      (pss_cons (ps_while PassesOwn.never (pt_not (pt_val (pe_mth0 (pv 1) TR.cl GE hr1)))
        (pss_cons (ps_set (i := 4) scAns.nd rfl (Or.inl rfl) (pe_mth (pv 2) TS.cl GC hr (pa_cons (pv 1) pa_nil)))
        (pss_cons (ps_expr (pe_bm PySem.F.plainAttrs_list PySem.F.slot_list_append PySem.F.type_list_append mt_append (pv 3) (pa_cons (pe_callB call_len_seq rfl T.len PySem.boot_len (pa_cons (pv 4) pa_nil)) pa_nil)))
        (pss_one (ps_expr (pe_bm PySem.F.plainAttrs_list PySem.F.slot_list_extend PySem.F.type_list_extend mt_extend (pv 3) (pa_cons (pv 4) pa_nil)))))))
      (pss_one (ps_ret (pv 3)))))), ?_⟩
    refine ⟨_, rfl, fun r dr nr ndr nrd => ?_⟩
    refine ⟨r, a, dr, rfl, upd_same, fun H1 hr1' b1 => ⟨rfl, ?_⟩⟩
    have s1 : Same H H1 := fun b o e => b1 b o (by rw [upd_ne (ne_of_none e nr), upd_ne (ne_of_none e ndr)]; exact e) (ne_of_none e nr)
    intro z dz nz ndz nzd
    refine ⟨z, dz, rfl, upd_same, fun H2 ka hz hka b2 => ⟨rfl, ?_⟩⟩
    have s2 : Same H1 H2 := fun b o e => b2 b o (by rw [upd_ne (ne_of_none e nz), upd_ne (ne_of_none e ndz)]; exact e) (ne_of_none e nz)
    obtain ⟨d1, h1⟩ := hr1'
    have h2 := s2 _ _ h1
    have rz : r ≠ z := ne_of_none h1 nz
    refine ⟨Nat.zero_le _, fun m nm => ?_⟩
    have s3 := same_new (o := .lst []) nm
    have M0 : Mach K CR CS (upd H2 m (.lst [])) r z a ka ns 0 [] := by
      obtain ⟨dz', hz'⟩ := hz
      exact ⟨⟨d1, s3 _ _ h2⟩, ⟨dz', s3 _ _ hz'⟩, s3 _ _ hka, ((s1.trans s2).trans s3).seq hA, rz⟩
    have nmr : m ≠ r := fun e => by rw [e, h2] at nm; cases nm
    have nmz : m ≠ z := fun e => by
      obtain ⟨dz', hz'⟩ := hz
      rw [e, hz'] at nm
      cases nm
    have hAm : a ≠ m ∨ ∀ H', SqL K H' a (vI ns) := by
      by_cases e : a = m
      · refine .inr (seq_free hA ?_)
        rw [e]
        exact (s1.trans s2).free nm
      · exact .inl e
    have nkm : ka ≠ m := ne_of_none hka nm
    refine ⟨fun μ σ H' => ∃ (p : Nat) (key : List Nat) (out : List Int) (v : Option V) (kz : Addr), μ = ns.length - p ∧ σ = [some (.ref a), some (.ref r), some (.ref z), some (.ref m), v] ∧ Mach K CR CS H' r z a kz ns p key ∧ kz ≠ m ∧ H' m = some (.lst (vI out)) ∧ Due ns p key out,
      ⟨_, 0, [], [], none, ka, rfl, rfl, M0, nkm, upd_same, Due.start hask⟩, ?_⟩
    rintro μ σ H3 ⟨p, key, out, v, kz, rfl, rfl, M, hkm, hm, hD⟩
    obtain ⟨dr3, hr3⟩ := M.rd
    refine ⟨_, rfl, r, dr3, _, rfl, hr3, rfs_no a p (by decide +kernel) (by decide +kernel), r, a, p, ns, rfl, ⟨dr3, hr3⟩, M.cs, _, rfl, ?_⟩
    by_cases hp : ns.length ≤ p
    · rw [decide_eq_true hp]
      have e := hD.done hp
      refine ⟨_, rfl, ?_⟩
      rw [← e] at hm
      exact kk H3 m hm
    · rw [decide_eq_false hp]
      obtain ⟨c, q, hc, ha, hk, hol, hsl, hD'⟩ := hD.next (by omega) hl
      obtain ⟨dz3, hz3⟩ := M.sl
      refine ⟨fun σ' H' => ∃ μ', μ' < ns.length - p ∧ ∃ (p : Nat) (key : List Nat) (out : List Int) (v : Option V) (kz : Addr), μ' = ns.length - p ∧ σ' = [some (.ref a), some (.ref r), some (.ref z), some (.ref m), v] ∧ Mach K CR CS H' r z a kz ns p key ∧ kz ≠ m ∧ H' m = some (.lst (vI out)) ∧ Due ns p key out, fun σ' H' z => z, ?_⟩
      refine ⟨_, rfl, z, dz3, _, rfl, hz3, sfs_no kz (by decide +kernel), _, rfl, r, z, a, kz, ns, p, q, key, c, rfl, M, hc, ha, hk, hl, fun H4 b kb nb hkb hb M4 b4 => ?_⟩
      have hm4 := b4 _ _ hm nmr nmz
      have nmb : m ≠ b := ne_of_none hm nb
      have nkb : kb ≠ m := by
        rcases hkb with e | e
        · rw [e]; exact hkm
        · exact fun q => ne_of_none hm e q.symm
      refine ⟨_, rfl, .inl ⟨rfl, _, SqL.of hm4⟩, _, rfl, b, _, rfl, .inl (SqL.of hb), m, _, _, rfl, rfl, hm4, ?_, ?_⟩
      · rw [List.length_map]
        exact Nat.lt_of_le_of_lt (by omega : out.length ≤ 12040400) (by decide)
      have hm5 : upd H4 m (.lst (vI out ++ [V.int (((vI (Ql09Neutral.step key c).2).length : Nat) : Int)])) m = some (.lst (vI out ++ [V.int (((vI (Ql09Neutral.step key c).2).length : Nat) : Int)])) := upd_same
      have hb5 := Eq.trans (upd_ne (o := .lst (vI out ++ [V.int (((vI (Ql09Neutral.step key c).2).length : Nat) : Int)])) (fun e => nmb e.symm)) hb
      refine ⟨_, rfl, .inl ⟨rfl, _, SqL.of hm5⟩, _, rfl, m, b, _, _, rfl, rfl, hm5, hb5, ?_, ?_⟩
      · rw [List.length_append, List.length_map, List.length_map]
        have e1 : out.length + [V.int (((vI (Ql09Neutral.step key c).2).length : Nat) : Int)].length + (Ql09Neutral.step key c).2.length ≤ 12040400 := by
          show out.length + 1 + _ ≤ _
          omega
        exact Nat.le_trans e1 (by decide)
      have hq := hc.adv
      obtain ⟨dr4, hr4⟩ := M4.rd
      obtain ⟨dz4, hz4⟩ := M4.sl
      have up : ∀ {b : Addr} {o : HO} {X Y : List V}, b ≠ m → H4 b = some o → upd (upd H4 m (.lst X)) m (.lst Y) b = some o := fun n h => by rw [upd_ne n, upd_ne n]; exact h
      refine ⟨ns.length - q, by omega, q, _, _, some (.ref b), kb, rfl, rfl, ⟨⟨dr4, up (fun e => nmr e.symm) hr4⟩, ⟨dz4, up (fun e => nmz e.symm) hz4⟩, up nkb M4.ky, seq_upd (seq_upd M4.cs hAm) hAm, rz⟩, nkb, ?_, hD'⟩
      rw [upd_same]
      simp [vI, List.map_append]
end
end Sr

end
section
set_option Elab.async false
set_option linter.all false
set_option maxRecDepth 100000
set_option maxHeartbeats 2000000
/-! Stage 2's defs: drops, filling up, the mark of what is sealed. -/
namespace Sr
open PySem PySem.Spec PyProof.Rows L2
structure TxtD (mg : Str → Option Value) : Prop where
  enu : mg "enumerate" = none
  ob : ∃ t, mg "ONCE_BYTES" = some (.int 12 t)
  kb : ∃ t, mg "KEY_BYTES" = some (.int 32 t)
  lb : ∃ t, mg "LENGTH_BYTES" = some (.int 8 t)
  mc : ∃ t, mg "MARK_COUNTER" = some (.int 0 t)
def spDrp (K : PySem.W.Frag) : Sp := fun vs H Q _ => ∃ (ka oa ca : Addr) (key once cs : List Nat), vs = [.ref ka, .ref oa, .ref ca] ∧ SqL K H ka (vN key) ∧ SqL K H oa (vN once) ∧ SqL K H ca (vN cs) ∧ KeyOk key ∧ Bys once ∧ once.length = 12 * cs.length ∧ (∀ x ∈ cs, x < 2 ^ 32) ∧ cs.length ≤ 16 ∧ New H Q (dropsB key cs.length once cs)
def spFil : Sp := fun vs H Q _ => ∃ (ra : Addr) (row : List Nat), vs = [.ref ra] ∧ H ra = some (.lst (vN row)) ∧ row.length ≤ 70000 ∧ ∀ (H' : Hp) (p : Addr), H' p = some (.lst (vN (Ql09.padded row))) → Same H H' → Q (.ref p) H'
def spSmk (K : PySem.W.Frag) : Sp := fun vs H Q _ => ∃ (ka oa sa da : Addr) (key once seen b : List Nat), vs = [.ref ka, .ref oa, .ref sa, .ref da] ∧ SqL K H ka (vN key) ∧ SqL K H oa (vN once) ∧ H sa = some (.lst (vN seen)) ∧ H da = some (.lst (vN b)) ∧ KeyOk key ∧ Bys once ∧ once.length = 12 ∧ Bys seen ∧ Bys b ∧ seen.length ≤ 40000 ∧ b.length ≤ 40000 ∧ New H Q (Ql09.tag key once seen b)
/-! ### numbers -/
def dropsN (key : List Nat) (once cs : List Nat) (i : Nat) : List Nat := (((Ql09.blocks 12 cs.length once).zip cs).take i).flatMap fun x => Ql09.block key x.1 x.2
theorem dropsN_succ (key once cs : List Nat) {i c : Nat} (h : cs[i]? = some c) : dropsN key once cs (i + 1) = dropsN key once cs i ++ Ql09.block key ((once.drop (12 * i)).take 12) c := by
  have hi : i < cs.length := (List.getElem?_eq_some_iff.mp h).1
  have e : ((Ql09.blocks 12 cs.length once).zip cs)[i]? = some ((once.drop (12 * i)).take 12, c) := List.getElem?_zip_eq_some.mpr ⟨blocks_at 12 _ _ _ hi, h⟩
  unfold dropsN
  rw [flatMap_snoc _ e]
theorem dropsN_all (key once cs : List Nat) : dropsN key once cs cs.length = dropsB key cs.length once cs := by
  unfold dropsN dropsB
  rw [List.take_of_length_le (by rw [List.length_zip]; exact Nat.min_le_right _ _)]
theorem cut_pl (l : List Nat) (c i : Nat) : cutV (vN l) (some ((i : Int) * (c : Int))) (some ((i : Int) * (c : Int) + (c : Int))) = vN ((l.drop (c * i)).take c) := by
  have h := cut_at l c i
  rw [Int.zero_add] at h
  exact h
theorem pad_no {row : List Nat} (h : row.length % 16 = 0) : Ql09.padded row = row := by
  unfold Ql09.padded
  rw [h]
  exact List.append_nil _
theorem pad_yes {row : List Nat} (h : row.length % 16 ≠ 0) : Ql09.padded row = row ++ List.replicate (16 - row.length % 16) 0 := by
  unfold Ql09.padded
  have e : (16 - row.length % 16) % 16 = 16 - row.length % 16 := Nat.mod_eq_of_lt (by omega)
  rw [e]
theorem pad_len (row : List Nat) : (Ql09.padded row).length ≤ row.length + 16 := by
  unfold Ql09.padded
  rw [List.length_append, List.length_replicate]
  omega
theorem pad_bys {row : List Nat} (h : Bys row) : Bys (Ql09.padded row) := by
  unfold Ql09.padded
  refine h.append fun b hb => ?_
  rw [List.eq_of_mem_replicate hb]
  decide
theorem zeros_eq (k : Nat) : (List.replicate k [V.int 0]).flatten = vN (List.replicate k 0) := by
  induction k with
  | zero => rfl
  | succ k ih => rw [List.replicate_succ, List.flatten_cons, ih, List.replicate_succ]; rfl
theorem goT {b : Bool} {A B : Prop} (e : b = true) (h : A) : if b = true then A else B := by
  rw [if_pos e]
  exact h
theorem goF {b : Bool} {A B : Prop} (e : b = false) (h : B) : if b = true then A else B := by
  rw [if_neg (by rw [e]; exact Bool.false_ne_true)]
  exact h
section
variable {P : Program} {w : World} {K : PySem.W.Frag} {mg : Str → Option Value} {base : Heap}
theorem scDrp : FnScope ["key", "once", "counters", "made", "place", "counter", "start"] ["key", "once", "counters"] (defScope sDrp) := ⟨rfl, rfl, rfl, by decide +kernel, rfl, by decide +kernel, by decide +kernel⟩
theorem ok_drp {f : Addr} {fd : FuncData} (F : Fun K "make_drops" "make_drops" sDrp f fd) (T : Txt K mg) (D : TxtD mg) (G : Ok P w K mg base "make_block" 5 ["key", "once", "counter"] (spBlk K)) :
    FnOk P w K mg base CX0 6 f fd ["key", "once", "counters"] (spDrp K) := by
  refine F.ok scDrp (fun vs H Q E h => ?_) (fun cdv A outer s H vs Q E hr h => ?_)
  · obtain ⟨_, _, _, _, _, _, rfl, _⟩ := h
    rfl
  · obtain ⟨ka, oa, ca, key, once, cs, rfl, hK, hO, hC, hk, hob, ho, hcs, hcl, kk⟩ := h
    obtain ⟨ot, hob12⟩ := D.ob
    refine ⟨_, pss_cons (ps_set (i := 3) scDrp.nd rfl (Or.inl rfl) (pe_lst pa_nil))
      (pss_cons (ps_for PassesOwn.never rfl (pi_enum rfl D.enu (pa_cons (pv 2) pa_nil)) (pg_tup rfl (pgs_cons (pg_name (i := 4) scDrp.nd rfl (Or.inl rfl)) (pgs_cons (pg_name (i := 5) scDrp.nd rfl (Or.inl rfl)) pgs_nil)))
        (pss_cons (ps_set (i := 6) scDrp.nd rfl (Or.inl rfl) (pe_op op_mul (pv 4) (pe_gi rfl hob12)))
        (pss_one (ps_expr (pe_bm PySem.F.plainAttrs_list PySem.F.slot_list_extend PySem.F.type_list_extend mt_extend (pv 3) (pa_cons (pe_fn G hr rfl (pa_cons (pv 0) (pa_cons (pe_slice sl_list (pv 1) (po_some (pv 6)) (po_some (pe_op op_add (pv 6) (pe_gi rfl hob12)))) (pa_cons (pv 5) pa_nil)))) pa_nil))))))
      (pss_one (ps_ret (pv 3)))), ?_⟩
    refine ⟨Nat.zero_le _, fun m nm => ?_⟩
    have s0 := same_new (o := .lst []) nm
    refine ⟨_, rfl, ca, _, rfl, s0.seq hC, for_by (J := Ite K ca) cs.length (fun i σ H' => Same H H' ∧ H' m = some (.lst (vN (dropsN key once cs i))) ∧ ∃ v4 v5 v6 : Option V, σ = [some (.ref ka), some (.ref oa), some (.ref ca), some (.ref m), v4, v5, v6])
      ⟨s0, upd_same, none, none, none, rfl⟩ ?_ ?_⟩
    · rintro i σ H1 hi ⟨s1, h1, v4, v5, v6, rfl⟩
      have hci := List.getElem?_eq_getElem hi
      refine ⟨⟨_, _, s1.seq hC, at_vN hci⟩, fun x H2 y => ?_⟩
      obtain ⟨tp, x, rfl, ntp, rfl, hx⟩ := y
      obtain ⟨c, ec, rfl⟩ := vN_at (hx _ (s1.seq hC))
      have hc32 : c < 2 ^ 32 := hcs c (List.mem_of_getElem? ec)
      have s2 := same_new (o := .tup [V.int (i : Int), V.int (c : Int)]) ntp
      refine ⟨tp, _, rfl, SqT.of upd_same, rfl, _, _, rfl, _, _, rfl, rfl, _, rfl, _, _, rfl, rfl, .inr ⟨by decide, by decide⟩, ?_⟩
      refine ⟨_, rfl, .inl ⟨rfl, _, SqL.of (s2 _ _ h1)⟩, _, rfl, _, rfl, _, rfl, _, rfl, _, rfl, _, _, rfl, rfl, _, rfl, oa, _, rfl, (s1.trans s2).seq hO, fun p np => ?_⟩
      have s3 := same_add (o := .lst (cutV (vN once) (some ((i : Int) * 12)) (some ((i : Int) * 12 + 12)))) s2 np
      have hpart : upd (upd H1 tp (.tup [V.int (i : Int), V.int (c : Int)])) p (.lst (cutV (vN once) (some ((i : Int) * 12)) (some ((i : Int) * 12 + 12)))) p = some (.lst (vN ((once.drop (12 * i)).take 12))) := Eq.trans upd_same (congrArg (fun q => some (HO.lst q)) (cut_pl once 12 i))
      have hpl : ((once.drop (12 * i)).take 12).length = 12 := by rw [List.length_take, List.length_drop]; omega
      refine ⟨_, rfl, ka, p, key, (once.drop (12 * i)).take 12, c, rfl, (s1.trans s3).seq hK, SqL.of hpart, hk, (hob.drop _).take _, hpl, hc32, fun H3 pb npb hb3 s4 => ?_⟩
      have s5 := s3.trans s4
      have hdl : (dropsN key once cs i).length ≤ 64 * cs.length := by
        unfold dropsN
        rw [flatMap_length _ 64 _ fun x hx => ?_]
        · rw [List.length_take, List.length_zip]
          exact Nat.mul_le_mul_left _ (Nat.le_trans (Nat.min_le_right _ _) (Nat.min_le_right _ _))
        · obtain ⟨j, hj⟩ := List.mem_iff_getElem?.mp (List.mem_of_mem_take hx)
          obtain ⟨h1, h2⟩ := List.getElem?_zip_eq_some.mp hj
          have hjc : j < cs.length := (List.getElem?_eq_some_iff.mp h2).1
          rw [blocks_at 12 _ _ _ hjc] at h1
          rw [← Option.some.inj h1]
          exact block_length hk.1 (by rw [List.length_take, List.length_drop]; omega) _
      refine ⟨m, pb, _, _, rfl, rfl, s5 _ _ h1, hb3, small_of (by rw [vN_len, vN_len, block_length hk.1 hpl]; omega), ?_⟩
      refine ⟨same_upd (s1.trans s5) nm, ?_, _, _, _, rfl⟩
      rw [upd_same, vN_append, dropsN_succ key once cs ec]
    · rintro σ H1 ⟨s1, h1, v4, v5, v6, rfl⟩
      rw [dropsN_all] at h1
      exact ⟨⟨_, s1.seq hC, by rw [vN_len]; exact Nat.le_refl _⟩, _, rfl, kk H1 m nm h1 s1⟩
theorem scFil : FnScope ["row", "beyond"] ["row"] (defScope sFil) := ⟨rfl, rfl, rfl, by decide +kernel, rfl, by decide +kernel, by decide +kernel⟩
theorem ok_fil {f : Addr} {fd : FuncData} (F : Fun K "fill_up" "fill_up" sFil f fd) (T : Txt K mg) : FnOk P w K mg base CX0 1 f fd ["row"] spFil := by
  refine F.ok scFil (fun vs H Q E h => ?_) (fun cdv A outer s H vs Q E hr h => ?_)
  · obtain ⟨_, _, rfl, _⟩ := h
    rfl
  · obtain ⟨ra, row, rfl, hR, hl, kk⟩ := h
    obtain ⟨mt, hmb⟩ := T.mb
    refine ⟨_, pss_cons (ps_set (i := 1) scFil.nd rfl (Or.inl rfl) (pe_op op_mod (pe_callB call_len_seq rfl T.len PySem.boot_len (pa_cons (pv 0) pa_nil)) (pe_gi rfl hmb)))
      (pss_cons (ps_if (pt_cmpR op_eq (pv 1) pe_int (nomark _)) (pss_one (ps_ret (pv 0))) pss_nil)
      (pss_one (ps_ret (pe_op op_cat (pv 0) (pe_op op_rep (pe_lst (pa_cons pe_int pa_nil)) (pe_op op_sub (pe_gi rfl hmb) (pv 1))))))), ?_⟩
    have em : (((vN row).length : Nat) : Int) % 16 = ((row.length % 16 : Nat) : Int) := by rw [vN_len]; omega
    refine ⟨_, rfl, ra, _, rfl, .inl (SqL.of hR), _, _, rfl, rfl, (by show (0 : Int) < 16; decide), _, rfl, rfl, _, rfl, ?_⟩
    by_cases h0 : row.length % 16 = 0
    · have e0 : V.int ((((vN row).length : Nat) : Int) % 16) = V.int 0 := by rw [em, h0]; rfl
      refine goT (decide_eq_true e0) ⟨_, rfl, kk H ra ?_ (same_refl H)⟩
      rw [pad_no h0]
      exact hR
    · have ne : ¬ V.int ((((vN row).length : Nat) : Int) % 16) = V.int 0 := by
        rw [em]
        intro q
        injection q with q3
        exact h0 (by omega)
      refine goF (decide_eq_false ne) ?_
      refine ⟨_, rfl, (by show 1 ≤ sizeLine; decide), fun p1 n1 => ?_⟩
      have e2 : ((16 : Int) - (((vN row).length : Nat) : Int) % 16).toNat = 16 - row.length % 16 := by rw [em]; omega
      refine ⟨_, rfl, _, _, rfl, rfl, p1, _, _, rfl, rfl, upd_same, (by rw [em]; omega), (by rw [em]; omega), ?_, fun p2 n2 => ?_⟩
      · rw [e2]
        exact small_of (by show 1 * _ ≤ _; omega)
      have s1 := same_new (o := .lst [V.int 0]) n1
      have s2 := same_add (o := .lst (List.replicate ((16 : Int) - (((vN row).length : Nat) : Int) % 16).toNat [V.int 0]).flatten) s1 n2
      refine ⟨ra, p2, _, _, rfl, rfl, s2 _ _ hR, upd_same, ?_, fun p3 n3 => ?_⟩
      · rw [e2, zeros_eq, vN_len, vN_len, List.length_replicate]
        exact small_of (by omega)
      · refine kk _ p3 ?_ (same_add s2 n3)
        rw [upd_same, e2, zeros_eq, vN_append, pad_yes h0]
theorem scSmk : FnScope ["key", "once", "seen", "sealed", "mark_key", "lengths"] ["key", "once", "seen", "sealed"] (defScope sSmk) := ⟨rfl, rfl, rfl, by decide +kernel, rfl, by decide +kernel, by decide +kernel⟩
theorem ok_smk {f : Addr} {fd : FuncData} (F : Fun K "make_seal_mark" "make_seal_mark" sSmk f fd) (T : Txt K mg) (D : TxtD mg) (G : Ok P w K mg base "make_block" 5 ["key", "once", "counter"] (spBlk K)) (GB : Ok P w K mg base "bytes_from" 1 ["number", "many"] spByt)
    (GM : Ok P w K mg base "make_mark" 2 ["key", "row"] (spMrk K)) (GF : Ok P w K mg base "fill_up" 1 ["row"] spFil) : FnOk P w K mg base CX0 6 f fd ["key", "once", "seen", "sealed"] (spSmk K) := by
  refine F.ok scSmk (fun vs H Q E h => ?_) (fun cdv A outer s H vs Q E hr h => ?_)
  · obtain ⟨_, _, _, _, _, _, _, _, rfl, _⟩ := h
    rfl
  · obtain ⟨ka, oa, sa, da, key, once, seen, b, rfl, hK, hO, hS, hB, hk, hob, ho, hsb, hbb, hsl, hbl, kk⟩ := h
    obtain ⟨kt, hkb⟩ := D.kb
    obtain ⟨lt, hlb⟩ := D.lb
    obtain ⟨ct, hmc⟩ := D.mc
    have hr1 := hr.mono (j := 1) (by decide)
    have hr2 := hr.mono (j := 2) (by decide)
    refine ⟨_, pss_cons (ps_set (i := 4) scSmk.nd rfl (Or.inl rfl) (pe_slice sl_list (pe_fn G hr rfl (pa_cons (pv 0) (pa_cons (pv 1) (pa_cons (pe_gi rfl hmc) pa_nil)))) po_none (po_some (pe_gi rfl hkb))))
      (pss_cons (ps_set (i := 5) scSmk.nd rfl (Or.inl rfl) (pe_op op_cat (pe_fn GB hr1 rfl (pa_cons (pe_callB call_len_seq rfl T.len PySem.boot_len (pa_cons (pv 2) pa_nil)) (pa_cons (pe_gi rfl hlb) pa_nil))) (pe_fn GB hr1 rfl (pa_cons (pe_callB call_len_seq rfl T.len PySem.boot_len (pa_cons (pv 3) pa_nil)) (pa_cons (pe_gi rfl hlb) pa_nil)))))
      (pss_one (ps_ret (pe_fn GM hr2 rfl (pa_cons (pv 4) (pa_cons (pe_op op_cat (pe_op op_cat (pe_fn GF hr1 rfl (pa_cons (pv 2) pa_nil)) (pe_fn GF hr1 rfl (pa_cons (pv 3) pa_nil))) (pv 5)) pa_nil)))))), ?_⟩
    refine ⟨_, rfl, _, rfl, ka, oa, key, once, 0, rfl, hK, hO, hk, hob, ho, by decide, fun H1 p1 n1 h1 s1 => ?_⟩
    refine ⟨32, rfl, p1, _, rfl, SqL.of h1, fun p2 n2 => ?_⟩
    have s2 := same_add (o := .lst (cutV (vN (Ql09.block key once 0)) none (some 32))) s1 n2
    have h2 : upd H1 p2 (.lst (cutV (vN (Ql09.block key once 0)) none (some 32))) p2 = some (.lst (vN ((Ql09.block key once 0).take 32))) := Eq.trans upd_same (congrArg (fun q => some (HO.lst q)) ((cut_to (vN (Ql09.block key once 0)) 32).trans (vN_take _ 32)))
    generalize upd H1 p2 (.lst (cutV (vN (Ql09.block key once 0)) none (some 32))) = H2 at s2 h2 ⊢
    refine ⟨_, rfl, sa, _, rfl, .inl (SqL.of (s2 _ _ hS)), seen.length, 8, (by rw [vN_len]; rfl), by decide, fun H3 p3 n3 h3 s3 => ?_⟩
    refine ⟨_, rfl, da, _, rfl, .inl (SqL.of ((s2.trans s3) _ _ hB)), b.length, 8, (by rw [vN_len]; rfl), by decide, fun H4 p4 n4 h4 s4 => ?_⟩
    refine ⟨p3, p4, _, _, rfl, rfl, s4 _ _ h3, h4, small_of (by rw [vN_len, vN_len, bytesOf_length, bytesOf_length]; decide), fun p5 n5 => ?_⟩
    have h5 : upd H4 p5 (.lst (vN (Ql09.bytesOf 8 seen.length) ++ vN (Ql09.bytesOf 8 b.length))) p5 = some (.lst (vN (Ql09.bytesOf 8 seen.length ++ Ql09.bytesOf 8 b.length))) := Eq.trans upd_same (congrArg (fun q => some (HO.lst q)) (vN_append _ _))
    have s45 := same_new (o := .lst (vN (Ql09.bytesOf 8 seen.length) ++ vN (Ql09.bytesOf 8 b.length))) n5
    generalize upd H4 p5 (.lst (vN (Ql09.bytesOf 8 seen.length) ++ vN (Ql09.bytesOf 8 b.length))) = H5 at s45 h5 ⊢
    have t5 := s3.trans (s4.trans s45)
    have s5 := s2.trans t5
    refine ⟨_, rfl, _, rfl, sa, seen, rfl, s5 _ _ hS, by omega, fun H6 p6 h6 s6 => ?_⟩
    refine ⟨_, rfl, da, b, rfl, (s5.trans s6) _ _ hB, by omega, fun H7 p7 h7 s7 => ?_⟩
    have l1 := pad_len seen
    have l2 := pad_len b
    refine ⟨p6, p7, _, _, rfl, rfl, s7 _ _ h6, h7, small_of (by rw [vN_len, vN_len]; omega), fun p8 n8 => ?_⟩
    have s8 := same_new (o := .lst (vN (Ql09.padded seen) ++ vN (Ql09.padded b))) n8
    have h58 := s8 _ _ ((s6.trans s7) _ _ h5)
    refine ⟨_, rfl, p8, p5, _, _, rfl, rfl, upd_same, h58, small_of (by rw [List.length_append, vN_len, vN_len, vN_len, List.length_append, bytesOf_length, bytesOf_length]; omega), fun p9 n9 => ?_⟩
    have e9 : (vN (Ql09.padded seen) ++ vN (Ql09.padded b)) ++ vN (Ql09.bytesOf 8 seen.length ++ Ql09.bytesOf 8 b.length) = vN (Ql09.padded seen ++ (Ql09.padded b ++ (Ql09.bytesOf 8 seen.length ++ Ql09.bytesOf 8 b.length))) := by
      rw [vN_append, vN_append, List.append_assoc]
    have s9 := same_add (o := .lst ((vN (Ql09.padded seen) ++ vN (Ql09.padded b)) ++ vN (Ql09.bytesOf 8 seen.length ++ Ql09.bytesOf 8 b.length))) ((t5.trans (s6.trans s7)).trans s8) n9
    refine ⟨p2, p9, (Ql09.block key once 0).take 32, _, rfl, SqL.of (s9 _ _ h2), SqL.of (Eq.trans upd_same (congrArg (fun q => some (HO.lst q)) e9)), ⟨by rw [List.length_take, block_length hk.1 ho]; rfl, (block_bys _ _ _).take _⟩, (pad_bys hsb).append ((pad_bys hbb).append ((bytesOf_bys _ _).append (bytesOf_bys _ _))), ?_, fun H10 p10 n10 h10 s10 => ?_⟩
    · rw [List.length_append, List.length_append, List.length_append, bytesOf_length, bytesOf_length]
      omega
    · exact kk H10 p10 ((s2.trans s9).free n10) h10 ((s2.trans s9).trans s10)
end
end Sr

end
section
set_option Elab.async false
set_option linter.all false
set_option maxRecDepth 100000
set_option maxHeartbeats 2000000
/-! The parcel: what seal and open are handed. -/
namespace Sr
open PySem PySem.Spec PyProof.Rows L2
def pfs (s n : Int) (o e d : Addr) : List (Str × V) := putF "data" (.ref d) (putF "seen" (.ref e) (putF "once" (.ref o) (putF "n" (.int n) (putF "s" (.int s) []))))
theorem pfs_data (s n : Int) (o e d : Addr) : (pfs s n o e d).lookup ("data" : Str) = some (.ref d) := by
  unfold pfs
  rw [lookup_putF, if_pos rfl]
theorem pfs_seen (s n : Int) (o e d : Addr) : (pfs s n o e d).lookup ("seen" : Str) = some (.ref e) := by
  unfold pfs
  rw [lookup_putF, if_neg (by decide +kernel), lookup_putF, if_pos rfl]
theorem pfs_once (s n : Int) (o e d : Addr) : (pfs s n o e d).lookup ("once" : Str) = some (.ref o) := by
  unfold pfs
  rw [lookup_putF, if_neg (by decide +kernel), lookup_putF, if_neg (by decide +kernel), lookup_putF, if_pos rfl]
theorem pfs_n (s n : Int) (o e d : Addr) : (pfs s n o e d).lookup ("n" : Str) = some (.int n) := by
  unfold pfs
  rw [lookup_putF, if_neg (by decide +kernel), lookup_putF, if_neg (by decide +kernel), lookup_putF, if_neg (by decide +kernel), lookup_putF, if_pos rfl]
theorem pfs_s (s n : Int) (o e d : Addr) : (pfs s n o e d).lookup ("s" : Str) = some (.int s) := by
  unfold pfs
  rw [lookup_putF, if_neg (by decide +kernel), lookup_putF, if_neg (by decide +kernel), lookup_putF, if_neg (by decide +kernel), lookup_putF, if_neg (by decide +kernel), lookup_putF, if_pos rfl]
theorem pfs_no (s n : Int) (o e d : Addr) {m : Str} (h1 : ¬ m = "data") (h2 : ¬ m = "seen") (h3 : ¬ m = "once") (h4 : ¬ m = "n") (h5 : ¬ m = "s") : (pfs s n o e d).lookup m = none := by
  unfold pfs
  rw [lookup_putF, if_neg h1, lookup_putF, if_neg h2, lookup_putF, if_neg h3, lookup_putF, if_neg h4, lookup_putF, if_neg h5]
  rfl
theorem putF_len (f : Str) (v : V) : ∀ fs : List (Str × V), (putF f v fs).length ≤ fs.length + 1
  | [] => Nat.le_refl _
  | (g, x) :: r => by
    by_cases h : g = f
    · have e : putF f v ((g, x) :: r) = (g, v) :: r := by
        show (if g = f then _ else _) = _
        rw [if_pos h]
      rw [e, List.length_cons, List.length_cons]
      omega
    · have e : putF f v ((g, x) :: r) = (g, x) :: putF f v r := by
        show (if g = f then _ else _) = _
        rw [if_neg h]
      have := putF_len f v r
      rw [e, List.length_cons, List.length_cons]
      omega
/-- the parcel at x -/
def PcAt (C : Addr) (H : Hp) (x : Addr) (s n : Int) (o e d : Addr) : Prop := ∃ dx, H x = some (.ins C dx (pfs s n o e d))
structure TxtP (K : PySem.W.Frag) (C : Addr) : Prop where
  cl : Cls K C
  n1 : NoAttr K C "s"
  n2 : NoAttr K C "n"
  n3 : NoAttr K C "once"
  n4 : NoAttr K C "seen"
  n5 : NoAttr K C "data"
theorem But2.trans {r z : Addr} {H H1 H2 : Hp} (a : But2 r z H H1) (b : But2 r z H1 H2) : But2 r z H H2 := fun c o h n m => b c o (a c o h n m) n m
theorem But2.l {r z : Addr} {H H' : Hp} (a : But r H H') : But2 r z H H' := fun c o h n _ => a c o h n
theorem But2.r {r z : Addr} {H H' : Hp} (a : But z H H') : But2 r z H H' := fun c o h _ n => a c o h n
theorem But2.same {r z : Addr} {H H' : Hp} (a : Same H H') : But2 r z H H' := fun c o h _ _ => a c o h
/-- what is free behind was free before, but for two that are there -/
theorem But2.free {r z b : Addr} {H H' : Hp} (a : But2 r z H H') (h : H' b = none) (hr : H' r ≠ none) (hz : H' z ≠ none) : H b = none := by
  cases e : H b with
  | none => rfl
  | some o =>
    rw [a b o e (fun q => hr (q ▸ h)) (fun q => hz (q ▸ h))] at h
    cases h
def spPI (K : PySem.W.Frag) (CR CP : Addr) : Sp := fun vs H Q _ => ∃ (x r a dx : Addr) (ns : List Int) (p q1 q2 q3 : Nat) (s n : Int) (lo ls ld : List Int), vs = [.ref x, .ref r] ∧ H x = some (.ins CP dx []) ∧ RdAt CR H r a p ∧ SqL K H a (vI ns) ∧ ns[p]? = some s ∧ ns[p + 1]? = some n ∧ RowAt ns (p + 2) lo q1 ∧ RowAt ns q1 ls q2 ∧ RowAt ns q2 ld q3 ∧
  ∀ (H' : Hp) (o e d : Addr), H' o = some (.lst (vI lo)) → H' e = some (.lst (vI ls)) → H' d = some (.lst (vI ld)) → PcAt CP H' x s n o e d → RdAt CR H' r a q3 → But2 r x H H' → Q .non H'
def spPL (C : Addr) : Sp := fun vs H Q _ => ∃ (x : Addr) (s n : Int) (o e d : Addr), vs = [.ref x] ∧ PcAt C H x s n o e d ∧ Q (.bl (decide (65536 < s ∨ 65536 < n))) H
abbrev sPI : Stmt := inClass cPar 0
abbrev sPL : Stmt := inClass cPar 1
section
variable {P : Program} {w : World} {K : PySem.W.Frag} {mg : Str → Option Value} {base : Heap}
theorem seq_but {H H' : Hp} {a x C dx : Addr} {xs : List V} {fs : List (Str × V)} (h : SqL K H a xs) (hx : H x = some (.ins C dx fs)) (b : But x H H') : SqL K H' a xs := b.seq hx h
theorem scPI : FnScope ["self", "reader"] ["self", "reader"] (defScope sPI) := ⟨rfl, rfl, rfl, by decide +kernel, rfl, by decide +kernel, by decide +kernel⟩
theorem ok_pi {f CR CP : Addr} {fd : FuncData} (F : Fun K "__init__" "Parcel.__init__" sPI f fd) (TR : TxtR K CR) (TP : TxtP K CP) (GN : Mth P w K mg base CR "read_number" 1 ["self"] (spRN K CR)) (GR : Mth P w K mg base CR "read_row" 2 ["self"] (spRR K CR)) : FnOk P w K mg base CX0 3 f fd ["self", "reader"] (spPI K CR CP) := by
  refine F.ok scPI (fun vs H Q E h => ?_) (fun cdv A outer s H vs Q E hr h => ?_)
  · obtain ⟨_, _, _, _, _, _, _, _, _, _, _, _, _, _, rfl, _⟩ := h
    rfl
  · obtain ⟨x, r, a, dx, ns, p, q1, q2, q3, s', n, lo, ls, ld, rfl, hx, ⟨dr, hR⟩, hA, e1, e2, r1, r2, r3, kk⟩ := h
    have hr1 := hr.mono (j := 1) (by decide)
    refine ⟨_, pss_cons (ps_fld (pv 0) (pe_mth0 (pv 1) TR.cl GN hr1) rfl) (pss_cons (ps_fld (pv 0) (pe_mth0 (pv 1) TR.cl GN hr1) rfl)
      (pss_cons (ps_fld (pv 0) (pe_mth0 (pv 1) TR.cl GR hr) rfl) (pss_cons (ps_fld (pv 0) (pe_mth0 (pv 1) TR.cl GR hr) rfl) (pss_one (ps_fld (pv 0) (pe_mth0 (pv 1) TR.cl GR hr) rfl))))), ?_⟩
    have rx : r ≠ x := ne_of hR hx fun q => by
      injection q with _ _ q
      have h2 := rfs_place a p
      rw [q] at h2
      cases h2
    have xr : x ≠ r := fun e => rx e.symm
    -- s
    refine ⟨_, rfl, r, dr, _, rfl, hR, rfs_no a p (by decide +kernel) (by decide +kernel), r, a, p, ns, s', rfl, ⟨dr, hR⟩, hA, e1, fun H1 ⟨d1, R1⟩ b1 => ?_⟩
    have x1 := b1 _ _ hx xr
    have A1 := b1.seq hR hA
    refine ⟨_, rfl, x, CP, dx, [], rfl, x1, TP.cl, TP.n1, (by show 0 < 1000; decide), ?_⟩
    have R2 := Eq.trans (upd_ne (o := .ins CP dx (putF "s" (.int s') [])) rx) R1
    have A2 := (But.upd x H1 (.ins CP dx (putF "s" (.int s') []))).seq x1 A1
    have c2 : But2 r x H (upd H1 x (.ins CP dx (putF "s" (.int s') []))) := (But2.l b1).trans (But2.r (But.upd x H1 _))
    have x2 : upd H1 x (.ins CP dx (putF "s" (.int s') [])) x = _ := upd_same
    generalize upd H1 x (.ins CP dx (putF "s" (.int s') [])) = H2 at R2 A2 c2 x2 ⊢
    -- n
    refine ⟨_, rfl, r, d1, _, rfl, R2, rfs_no a _ (by decide +kernel) (by decide +kernel), r, a, p + 1, ns, n, rfl, ⟨d1, R2⟩, A2, e2, fun H3 ⟨d3, R3⟩ b3 => ?_⟩
    have x3 := b3 _ _ x2 xr
    have A3 := b3.seq R2 A2
    refine ⟨_, rfl, x, CP, dx, _, rfl, x3, TP.cl, TP.n2, (by show 1 < 1000; decide), ?_⟩
    have R4 := Eq.trans (upd_ne (o := .ins CP dx (putF "n" (.int n) (putF "s" (.int s') []))) rx) R3
    have A4 := (But.upd x H3 (.ins CP dx (putF "n" (.int n) (putF "s" (.int s') [])))).seq x3 A3
    have c4 : But2 r x H (upd H3 x (.ins CP dx (putF "n" (.int n) (putF "s" (.int s') [])))) := (c2.trans (But2.l b3)).trans (But2.r (But.upd x H3 _))
    have x4 : upd H3 x (.ins CP dx (putF "n" (.int n) (putF "s" (.int s') []))) x = _ := upd_same
    generalize upd H3 x (.ins CP dx (putF "n" (.int n) (putF "s" (.int s') []))) = H4 at R4 A4 c4 x4 ⊢
    -- once
    refine ⟨_, rfl, r, d3, _, rfl, R4, rfs_no a _ (by decide +kernel) (by decide +kernel), r, a, p + 2, q1, ns, lo, rfl, ⟨d3, R4⟩, A4, r1, fun H5 o no ho ⟨d5, R5⟩ b5 => ?_⟩
    have x5 := b5 _ _ x4 xr
    have A5 := b5.seq R4 A4
    have ox : o ≠ x := ne_of ho x5 (by intro z; cases z)
    have l4 := putF_len "n" (.int n) (putF "s" (.int s') [])
    have l4' := putF_len "s" (.int s') []
    refine ⟨_, rfl, x, CP, dx, _, rfl, x5, TP.cl, TP.n3, (by simp only [List.length_nil] at l4'; omega), ?_⟩
    have R6 := Eq.trans (upd_ne (o := .ins CP dx (putF "once" (.ref o) (putF "n" (.int n) (putF "s" (.int s') [])))) rx) R5
    have A6 := (But.upd x H5 (.ins CP dx (putF "once" (.ref o) (putF "n" (.int n) (putF "s" (.int s') []))))).seq x5 A5
    have o6 := Eq.trans (upd_ne (o := .ins CP dx (putF "once" (.ref o) (putF "n" (.int n) (putF "s" (.int s') [])))) ox) ho
    have c6 : But2 r x H (upd H5 x (.ins CP dx (putF "once" (.ref o) (putF "n" (.int n) (putF "s" (.int s') []))))) := (c4.trans (But2.l b5)).trans (But2.r (But.upd x H5 _))
    have x6 : upd H5 x (.ins CP dx (putF "once" (.ref o) (putF "n" (.int n) (putF "s" (.int s') [])))) x = _ := upd_same
    generalize upd H5 x (.ins CP dx (putF "once" (.ref o) (putF "n" (.int n) (putF "s" (.int s') [])))) = H6 at R6 A6 o6 c6 x6 ⊢
    -- seen
    refine ⟨_, rfl, r, d5, _, rfl, R6, rfs_no a _ (by decide +kernel) (by decide +kernel), r, a, q1, q2, ns, ls, rfl, ⟨d5, R6⟩, A6, r2, fun H7 e ne he ⟨d7, R7⟩ b7 => ?_⟩
    have x7 := b7 _ _ x6 xr
    have A7 := b7.seq R6 A6
    have or : o ≠ r := ne_of o6 R6 (by intro z; cases z)
    have o7 := b7 _ _ o6 or
    have ex : e ≠ x := ne_of he x7 (by intro z; cases z)
    have l6 := putF_len "once" (.ref o) (putF "n" (.int n) (putF "s" (.int s') []))
    refine ⟨_, rfl, x, CP, dx, _, rfl, x7, TP.cl, TP.n4, (by simp only [List.length_nil] at l4'; omega), ?_⟩
    have R8 := Eq.trans (upd_ne (o := .ins CP dx (putF "seen" (.ref e) (putF "once" (.ref o) (putF "n" (.int n) (putF "s" (.int s') []))))) rx) R7
    have A8 := (But.upd x H7 (.ins CP dx (putF "seen" (.ref e) (putF "once" (.ref o) (putF "n" (.int n) (putF "s" (.int s') [])))))).seq x7 A7
    have o8 := Eq.trans (upd_ne (o := .ins CP dx (putF "seen" (.ref e) (putF "once" (.ref o) (putF "n" (.int n) (putF "s" (.int s') []))))) ox) o7
    have e8 := Eq.trans (upd_ne (o := .ins CP dx (putF "seen" (.ref e) (putF "once" (.ref o) (putF "n" (.int n) (putF "s" (.int s') []))))) ex) he
    have c8 : But2 r x H (upd H7 x (.ins CP dx (putF "seen" (.ref e) (putF "once" (.ref o) (putF "n" (.int n) (putF "s" (.int s') [])))))) := (c6.trans (But2.l b7)).trans (But2.r (But.upd x H7 _))
    have x8 : upd H7 x (.ins CP dx (putF "seen" (.ref e) (putF "once" (.ref o) (putF "n" (.int n) (putF "s" (.int s') []))))) x = _ := upd_same
    generalize upd H7 x (.ins CP dx (putF "seen" (.ref e) (putF "once" (.ref o) (putF "n" (.int n) (putF "s" (.int s') []))))) = H8 at R8 A8 o8 e8 c8 x8 ⊢
    -- data
    refine ⟨_, rfl, r, d7, _, rfl, R8, rfs_no a _ (by decide +kernel) (by decide +kernel), r, a, q2, q3, ns, ld, rfl, ⟨d7, R8⟩, A8, r3, fun H9 d nd hd ⟨d9, R9⟩ b9 => ?_⟩
    have x9 := b9 _ _ x8 xr
    have er : e ≠ r := ne_of e8 R8 (by intro z; cases z)
    have o9 := b9 _ _ o8 or
    have e9 := b9 _ _ e8 er
    have dx' : d ≠ x := ne_of hd x9 (by intro z; cases z)
    have l8 := putF_len "seen" (.ref e) (putF "once" (.ref o) (putF "n" (.int n) (putF "s" (.int s') [])))
    refine ⟨_, rfl, x, CP, dx, _, rfl, x9, TP.cl, TP.n5, (by simp only [List.length_nil] at l4'; omega), ?_⟩
    exact kk _ o e d (Eq.trans (upd_ne ox) o9) (Eq.trans (upd_ne ex) e9) (Eq.trans (upd_ne dx') hd) ⟨dx, upd_same⟩ ⟨d9, Eq.trans (upd_ne rx) R9⟩ ((c8.trans (But2.l b9)).trans (But2.r (But.upd x H9 _)))
theorem scPL : FnScope ["self"] ["self"] (defScope sPL) := ⟨rfl, rfl, rfl, by decide +kernel, rfl, by decide +kernel, by decide +kernel⟩
theorem ok_pl {f C : Addr} {fd : FuncData} (F : Fun K "is_too_long" "Parcel.is_too_long" sPL f fd) (TT : Txt K mg) (T : TxtP K C) : FnOk P w K mg base CX0 1 f fd ["self"] (spPL C) := by
  refine F.ok scPL (fun vs H Q E h => ?_) (fun cdv A outer s H vs Q E hr h => ?_)
  · obtain ⟨_, _, _, _, _, _, rfl, _⟩ := h
    rfl
  · obtain ⟨x, s', n, o, e, d, rfl, ⟨dx, hx⟩, k⟩ := h
    obtain ⟨mt, hmo⟩ := TT.mo
    refine ⟨_, pss_one (ps_ret (pe_or (pe_cmpR op_gt (pe_fld (pv 0) rfl) (pe_gi rfl hmo) (nomark _)) (pe_one (pe_cmpR op_gt (pe_fld (pv 0) rfl) (pe_gi rfl hmo) (nomark _))))), ?_⟩
    refine ⟨_, rfl, x, C, dx, _, _, rfl, hx, T.cl, T.n1, pfs_s s' n o e d, _, _, rfl, rfl, _, rfl, ?_⟩
    by_cases h : (65536 : Int) < s'
    · rw [if_pos (decide_eq_true h)]
      rw [decide_eq_true (Or.inl h)] at k
      exact k
    · rw [if_neg (by rw [decide_eq_false h]; exact Bool.false_ne_true)]
      refine ⟨_, rfl, x, C, dx, _, _, rfl, hx, T.cl, T.n2, pfs_n s' n o e d, _, _, rfl, rfl, ?_⟩
      have e1 : decide ((65536 : Int) < n) = decide (65536 < s' ∨ 65536 < n) := decide_eq_decide.mpr ⟨Or.inr, fun z => z.resolve_left h⟩
      show Q (V.bl (decide ((65536 : Int) < n))) H
      rw [e1]
      exact k
end
end Sr

end
section
set_option Elab.async false
set_option linter.all false
set_option maxRecDepth 100000
set_option maxHeartbeats 2000000
/-! The sealer: its methods, one for each call. -/
namespace Sr
open PySem PySem.Spec PyProof.Rows L2
open Ql09Neutral (step asked1 begins nats «ints»)
structure TxtC (mg : Str → Option Value) : Prop where
  ms : ∃ t, mg "MESSAGE_COUNTER" = some (.int 1 t)
  md : ∃ t, mg "MOST_DROPS" = some (.int 16 t)
  k0 : ∃ t, mg "CALL_KEY" = some (.int 0 t)
  k1 : ∃ t, mg "CALL_BLOCK" = some (.int 1 t)
  k2 : ∃ t, mg "CALL_STREAM" = some (.int 2 t)
  k3 : ∃ t, mg "CALL_MARK" = some (.int 3 t)
  k4 : ∃ t, mg "CALL_SEAL" = some (.int 4 t)
  k5 : ∃ t, mg "CALL_OPEN" = some (.int 5 t)
  k6 : ∃ t, mg "CALL_DROPS" = some (.int 6 t)
abbrev sSI : Stmt := inClass cSlr 0
abbrev sTK : Stmt := inClass cSlr 1
abbrev sAB : Stmt := inClass cSlr 2
abbrev sAS : Stmt := inClass cSlr 3
abbrev sAM : Stmt := inClass cSlr 4
abbrev sAE : Stmt := inClass cSlr 5
abbrev sAO : Stmt := inClass cSlr 6
abbrev sAD : Stmt := inClass cSlr 7
abbrev sAC : Stmt := inClass cSlr 8
def spDo (K : PySem.W.Frag) (CR CS : Addr) (t : Int) : Sp := fun vs H Q _ => ∃ (r z a ka : Addr) (ns : List Int) (p q : Nat) (key : List Nat) (c : List (List Int)), vs = [.ref z, .ref r] ∧ Mach K CR CS H r z a ka ns (p + 1) key ∧ ns[p]? = some t ∧ CallAt ns p c q ∧ asked1 c = true ∧ (KeyOk key ∨ begins c = true) ∧ ns.length ≤ 30000 ∧
  ∀ (H' : Hp) (b kb : Addr), H b = none → (kb = ka ∨ H kb = none) → H' b = some (.lst (vI (step key c).2)) → Mach K CR CS H' r z a kb ns q (step key c).1 → But2 r z H H' → Q (.ref b) H'
/-! ### which call it is -/
theorem no_some {ns : List Int} {p : Nat} {x y : Int} {A : Prop} (h : ns[p]? = some x) (h' : ns[p]? = some y) (n : ¬ x = y) : A := absurd (Option.some.inj (h.symm.trans h')) n
section
variable {ns : List Int} {p q : Nat} {c : List (List Int)}
theorem inv0 (h : CallAt ns p c q) (e : ns[p]? = some 0) : ∃ k, c = [[0], k] ∧ RowAt ns (p + 1) k q := by
  cases h with
  | key h r => exact ⟨_, rfl, r⟩
  | block h => exact no_some h e (by decide)
  | stream h => exact no_some h e (by decide)
  | mark h => exact no_some h e (by decide)
  | sealUp h => exact no_some h e (by decide)
  | open_ h => exact no_some h e (by decide)
  | drops h => exact no_some h e (by decide)
theorem inv1 (h : CallAt ns p c q) (e : ns[p]? = some 1) : ∃ x o, c = [[1, x], o] ∧ ns[p + 1]? = some x ∧ RowAt ns (p + 2) o q := by
  cases h with
  | key h => exact no_some h e (by decide)
  | block h h1 r => exact ⟨_, _, rfl, h1, r⟩
  | stream h => exact no_some h e (by decide)
  | mark h => exact no_some h e (by decide)
  | sealUp h => exact no_some h e (by decide)
  | open_ h => exact no_some h e (by decide)
  | drops h => exact no_some h e (by decide)
theorem inv2 (h : CallAt ns p c q) (e : ns[p]? = some 2) : ∃ x y o b q1, c = [[2, x, y], o, b] ∧ ns[p + 1]? = some x ∧ ns[p + 2]? = some y ∧ RowAt ns (p + 3) o q1 ∧ RowAt ns q1 b q := by
  cases h with
  | key h => exact no_some h e (by decide)
  | block h => exact no_some h e (by decide)
  | stream h h1 h2 r r' => exact ⟨_, _, _, _, _, rfl, h1, h2, r, r'⟩
  | mark h => exact no_some h e (by decide)
  | sealUp h => exact no_some h e (by decide)
  | open_ h => exact no_some h e (by decide)
  | drops h => exact no_some h e (by decide)
theorem inv3 (h : CallAt ns p c q) (e : ns[p]? = some 3) : ∃ x k b q1, c = [[3, x], k, b] ∧ ns[p + 1]? = some x ∧ RowAt ns (p + 2) k q1 ∧ RowAt ns q1 b q := by
  cases h with
  | key h => exact no_some h e (by decide)
  | block h => exact no_some h e (by decide)
  | stream h => exact no_some h e (by decide)
  | mark h h1 r r' => exact ⟨_, _, _, _, rfl, h1, r, r'⟩
  | sealUp h => exact no_some h e (by decide)
  | open_ h => exact no_some h e (by decide)
  | drops h => exact no_some h e (by decide)
theorem inv4 (h : CallAt ns p c q) (e : ns[p]? = some 4) : ∃ x y o s b q1 q2, c = [[4, x, y], o, s, b] ∧ ns[p + 1]? = some x ∧ ns[p + 2]? = some y ∧ RowAt ns (p + 3) o q1 ∧ RowAt ns q1 s q2 ∧ RowAt ns q2 b q := by
  cases h with
  | key h => exact no_some h e (by decide)
  | block h => exact no_some h e (by decide)
  | stream h => exact no_some h e (by decide)
  | mark h => exact no_some h e (by decide)
  | sealUp h h1 h2 r r' r'' => exact ⟨_, _, _, _, _, _, _, rfl, h1, h2, r, r', r''⟩
  | open_ h => exact no_some h e (by decide)
  | drops h => exact no_some h e (by decide)
theorem inv5 (h : CallAt ns p c q) (e : ns[p]? = some 5) : ∃ x y o s b q1 q2, c = [[5, x, y], o, s, b] ∧ ns[p + 1]? = some x ∧ ns[p + 2]? = some y ∧ RowAt ns (p + 3) o q1 ∧ RowAt ns q1 s q2 ∧ RowAt ns q2 b q := by
  cases h with
  | key h => exact no_some h e (by decide)
  | block h => exact no_some h e (by decide)
  | stream h => exact no_some h e (by decide)
  | mark h => exact no_some h e (by decide)
  | sealUp h => exact no_some h e (by decide)
  | open_ h h1 h2 r r' r'' => exact ⟨_, _, _, _, _, _, _, rfl, h1, h2, r, r', r''⟩
  | drops h => exact no_some h e (by decide)
theorem inv6 (h : CallAt ns p c q) (e : ns[p]? = some 6) : ∃ x o k q1, c = [[6, x], o, k] ∧ ns[p + 1]? = some x ∧ RowAt ns (p + 2) o q1 ∧ RowAt ns q1 k q := by
  cases h with
  | key h => exact no_some h e (by decide)
  | block h => exact no_some h e (by decide)
  | stream h => exact no_some h e (by decide)
  | mark h => exact no_some h e (by decide)
  | sealUp h => exact no_some h e (by decide)
  | open_ h => exact no_some h e (by decide)
  | drops h h1 r r' => exact ⟨_, _, _, _, rfl, h1, r, r'⟩
end
/-! ### lists of «ints» -/
theorem vI_ints (l : List Nat) : vI («ints» l) = vN l := by
  unfold «ints»
  rw [vI, List.map_map]
  rfl
theorem vI_nats : ∀ {l : List Int}, (∀ x ∈ l, 0 ≤ x) → vI l = vN (nats l)
  | [], _ => rfl
  | x :: l, h => by
    have e : ((x.toNat : Nat) : Int) = x := Int.toNat_of_nonneg (h x (List.mem_cons_self ..))
    show V.int x :: vI l = V.int ((x.toNat : Nat) : Int) :: vN (nats l)
    rw [e, vI_nats fun y hy => h y (List.mem_cons_of_mem _ hy)]
theorem ByI.vI {l : List Int} (h : ByI l) : vI l = vN (nats l) := vI_nats fun x hx => (h x hx).1
theorem ByI.lst {H : Hp} {x : Addr} {l : List Int} (h : ByI l) (e : H x = some (.lst (Sr.vI l))) : H x = some (.lst (vN (nats l))) := e.trans (congrArg (fun q => some (HO.lst q)) h.vI)
theorem RowAt.few {ns : List Int} {p q : Nat} {r : List Int} (h : RowAt ns p r q) (hl : ns.length ≤ 30000) : (nats r).length ≤ 30000 := by
  rw [nats_len]
  exact Nat.le_trans h.short hl
theorem toN32 {x : Int} (h : 0 ≤ x ∧ x < 2 ^ 32) : x.toNat < 2 ^ 32 := by
  have e : (2 : Int) ^ 32 = 4294967296 := by decide
  have e2 : (2 : Nat) ^ 32 = 4294967296 := by decide
  rw [e] at h
  rw [e2]
  omega
theorem eqv_ints (l m : List Int) : PyData.eqv (.list (l.map PyData.int)) (.list (m.map PyData.int)) = decide (l = m) := by
  rw [PyData.eqv]
  exact PySem.W.ked_eqvAll l m
theorem dp_ints {K : PySem.W.Frag} {H : Hp} : ∀ l : List Int, DpAll K H (vI l) (l.map PyData.int)
  | [] => .nil
  | x :: l => .cons (.int x) (dp_ints l)
theorem nats_ints : ∀ l : List Nat, nats («ints» l) = l
  | [] => rfl
  | x :: l => by
    show ((x : Int).toNat) :: nats («ints» l) = x :: l
    rw [nats_ints l]
    rfl
theorem ints_inj {l m : List Nat} (h : «ints» l = «ints» m) : l = m := by
  rw [← nats_ints l, h, nats_ints]
theorem vI_cons (x : Int) (l : List Nat) : [V.int x] ++ vN l = vI (x :: «ints» l) := by
  rw [← vI_ints]
  rfl
theorem ans_at {H : Hp} {b : Addr} (x : Int) (l : List Nat) : upd H b (.lst ([V.int x] ++ vN l)) b = some (.lst (vI (x :: «ints» l))) := Eq.trans upd_same (congrArg (fun q => some (HO.lst q)) (vI_cons x l))
/-! ### on the way through a call -/
theorem But.lst {r x C dx : Addr} {H H' : Hp} {fs : List (Str × V)} {l : List V} (b : But r H H') (hr : H r = some (.ins C dx fs)) (h : H x = some (.lst l)) : H' x = some (.lst l) := b _ _ h (ne_of h hr (by intro z; cases z))
structure At (K : PySem.W.Frag) (CR CS : Addr) (H : Hp) (r z a ka : Addr) (ns : List Int) (key : List Nat) (p : Nat) (H' : Hp) : Prop where
  m : Mach K CR CS H' r z a ka ns p key
  b : But r H H'
section
variable {K : PySem.W.Frag} {CR CS r z a ka : Addr} {ns : List Int} {key : List Nat} {p q : Nat} {H H1 H2 : Hp}
theorem At.start (M : Mach K CR CS H r z a ka ns p key) : At K CR CS H r z a ka ns key p H := ⟨M, But.refl r H⟩
theorem At.read (A : At K CR CS H r z a ka ns key p H1) (R : RdAt CR H2 r a q) (b : But r H1 H2) : At K CR CS H r z a ka ns key q H2 := by
  obtain ⟨dr, hr⟩ := A.m.rd
  obtain ⟨dz, hz⟩ := A.m.sl
  exact ⟨⟨R, ⟨dz, b _ _ hz (fun e => A.m.rz e.symm)⟩, b.lst hr A.m.ky, b.seq hr A.m.cs, A.m.rz⟩, A.b.trans b⟩
theorem At.same (A : At K CR CS H r z a ka ns key p H1) (s : Same H1 H2) : At K CR CS H r z a ka ns key p H2 := by
  obtain ⟨dr, hr⟩ := A.m.rd
  exact A.read ⟨dr, s _ _ hr⟩ (same_but s)
theorem At.free {x : Addr} (A : At K CR CS H r z a ka ns key p H1) (h : H1 x = none) : H x = none := by
  obtain ⟨dr, hr⟩ := A.m.rd
  cases e : H x with
  | none => rfl
  | some o =>
    rw [A.b x o e (fun q => by rw [q, hr] at h; cases h)] at h
    cases h
theorem At.b2 (A : At K CR CS H r z a ka ns key p H1) : But2 r z H H1 := But2.l A.b
end
section
variable {P : Program} {w : World} {K : PySem.W.Frag} {mg : Str → Option Value} {base : Heap}
theorem scSI : FnScope ["self"] ["self"] (defScope sSI) := ⟨rfl, rfl, rfl, by decide +kernel, rfl, by decide +kernel, by decide +kernel⟩
theorem ok_si {f C : Addr} {fd : FuncData} (F : Fun K "__init__" "Sealer.__init__" sSI f fd) (T : TxtS K C) : FnOk P w K mg base CX0 1 f fd ["self"] (spSI C) := by
  refine F.ok scSI (fun vs H Q E h => ?_) (fun cdv A outer s H vs Q E hr h => ?_)
  · obtain ⟨_, _, rfl, _⟩ := h
    rfl
  · obtain ⟨z, dx, rfl, hz, k⟩ := h
    refine ⟨_, pss_one (ps_fld (pv 0) (pe_lst pa_nil) rfl), ?_⟩
    refine ⟨Nat.zero_le _, fun l nl => ?_⟩
    have s1 := same_new (o := .lst []) nl
    refine ⟨_, rfl, z, C, dx, [], rfl, s1 _ _ hz, T.cl, T.nK, (by show 0 < 1000; decide), ?_⟩
    exact k _ l ⟨dx, upd_same⟩ (Eq.trans (upd_ne (fun e => ne_of_none hz nl e.symm)) upd_same) ((same_but s1).trans (But.upd z _ _))
theorem scTK : FnScope ["self", "reader"] ["self", "reader"] (defScope sTK) := ⟨rfl, rfl, rfl, by decide +kernel, rfl, by decide +kernel, by decide +kernel⟩
theorem ok_tk {f CR CS : Addr} {fd : FuncData} (F : Fun K "take_key" "Sealer.take_key" sTK f fd) (TR : TxtR K CR) (TS : TxtS K CS) (GR : Mth P w K mg base CR "read_row" 2 ["self"] (spRR K CR)) : FnOk P w K mg base CX0 3 f fd ["self", "reader"] (spDo K CR CS 0) := by
  refine F.ok scTK (fun vs H Q E h => ?_) (fun cdv A outer s H vs Q E hr h => ?_)
  · obtain ⟨_, _, _, _, _, _, _, _, _, rfl, _⟩ := h
    rfl
  · obtain ⟨r, z, a, ka, ns, p, q, key, c, rfl, M, e0, hc, ha, hk, hl, kk⟩ := h
    obtain ⟨k, rfl, r1⟩ := inv0 hc e0
    obtain ⟨hkb, hk32⟩ := asked_key ha
    rw [step_key] at kk
    dsimp only at kk
    refine ⟨_, pss_cons (ps_fld (pv 0) (pe_mth0 (pv 1) TR.cl GR hr) rfl) (pss_one (ps_ret (pe_lst (pa_cons pe_int pa_nil)))), ?_⟩
    obtain ⟨dr, hR⟩ := M.rd
    refine ⟨_, rfl, r, dr, _, rfl, hR, rfs_no a _ (by decide +kernel) (by decide +kernel), r, a, p + 1, q, ns, k, rfl, ⟨dr, hR⟩, M.cs, r1, fun H1 kb nk hkb1 R1 b1 => ?_⟩
    have A1 := (At.start M).read R1 b1
    obtain ⟨dz, hz⟩ := A1.m.sl
    obtain ⟨d1, hR1⟩ := R1
    refine ⟨_, rfl, z, CS, dz, _, rfl, hz, TS.cl, TS.nK, (by show 1 < 1000; decide), ?_⟩
    have b2 := But.upd z H1 (.ins CS dz (putF "key" (.ref kb) (sfs ka)))
    have z2 : upd H1 z (.ins CS dz (putF "key" (.ref kb) (sfs ka))) z = some (.ins CS dz (sfs kb)) := Eq.trans upd_same (congrArg (fun q => some (HO.ins CS dz q)) (sfs_put ka kb))
    have R2 := Eq.trans (upd_ne (o := .ins CS dz (putF "key" (.ref kb) (sfs ka))) M.rz) hR1
    have k2 := b2.lst hz hkb1
    have c2 := b2.seq hz A1.m.cs
    generalize upd H1 z (.ins CS dz (putF "key" (.ref kb) (sfs ka))) = H2 at b2 z2 R2 k2 c2 ⊢
    refine ⟨(by show 1 ≤ sizeLine; decide), fun l nl => ?_⟩
    have s3 := same_new (o := .lst [V.int 0]) nl
    have c3 : But2 r z H H2 := (But2.l b1).trans (But2.r b2)
    refine kk _ l kb (c3.free nl (by rw [R2]; simp) (by rw [z2]; simp)) (.inr nk) upd_same ⟨⟨d1, s3 _ _ R2⟩, ⟨dz, s3 _ _ z2⟩, ?_, s3.seq c2, M.rz⟩ (c3.trans (But2.same s3))
    exact hkb.lst (s3 _ _ k2)
theorem scAB : FnScope ["self", "reader", "counter", "once"] ["self", "reader"] (defScope sAB) := ⟨rfl, rfl, rfl, by decide +kernel, rfl, by decide +kernel, by decide +kernel⟩
theorem ok_ab {f CR CS : Addr} {fd : FuncData} (F : Fun K "answer_block" "Sealer.answer_block" sAB f fd) (TR : TxtR K CR) (TS : TxtS K CS) (GN : Mth P w K mg base CR "read_number" 1 ["self"] (spRN K CR)) (GR : Mth P w K mg base CR "read_row" 2 ["self"] (spRR K CR))
    (GB : Ok P w K mg base "make_block" 5 ["key", "once", "counter"] (spBlk K)) : FnOk P w K mg base CX0 6 f fd ["self", "reader"] (spDo K CR CS 1) := by
  refine F.ok scAB (fun vs H Q E h => ?_) (fun cdv A outer s H vs Q E hr h => ?_)
  · obtain ⟨_, _, _, _, _, _, _, _, _, rfl, _⟩ := h
    rfl
  · obtain ⟨r, z, a, ka, ns, p, q, key, c, rfl, M, e0, hc, ha, hk, hl, kk⟩ := h
    obtain ⟨x, o, rfl, e1, r1⟩ := inv1 hc e0
    obtain ⟨hx, hob, ho⟩ := asked_block ha
    have hk := hk.resolve_right (by simp [begins])
    rw [step_block] at kk
    dsimp only at kk
    have hr1 := hr.mono (j := 1) (by decide)
    have hr2 := hr.mono (j := 2) (by decide)
    refine ⟨_, pss_cons (ps_set (i := 2) scAB.nd rfl (Or.inl rfl) (pe_mth0 (pv 1) TR.cl GN hr1)) (pss_cons (ps_set (i := 3) scAB.nd rfl (Or.inl rfl) (pe_mth0 (pv 1) TR.cl GR hr2))
      (pss_one (ps_ret (pe_op op_cat (pe_lst (pa_cons pe_int pa_nil)) (pe_fn GB hr rfl (pa_cons (pe_fld (pv 0) rfl) (pa_cons (pv 3) (pa_cons (pv 2) pa_nil)))))))), ?_⟩
    obtain ⟨dr, hR⟩ := M.rd
    refine ⟨_, rfl, r, dr, _, rfl, hR, rfs_no a _ (by decide +kernel) (by decide +kernel), r, a, p + 1, ns, x, rfl, ⟨dr, hR⟩, M.cs, e1, fun H1 R1 b1 => ?_⟩
    have A1 := (At.start M).read R1 b1
    obtain ⟨d1, hR1⟩ := R1
    refine ⟨_, rfl, r, d1, _, rfl, hR1, rfs_no a _ (by decide +kernel) (by decide +kernel), r, a, p + 2, q, ns, o, rfl, ⟨d1, hR1⟩, A1.m.cs, r1, fun H2 oa no hoa R2 b2 => ?_⟩
    have A2 := A1.read R2 b2
    refine ⟨(by show 1 ≤ sizeLine; decide), fun l nl => ?_⟩
    have s3 := same_new (o := .lst [V.int 0]) nl
    have A3 := A2.same s3
    have l3 : upd H2 l (.lst [V.int 0]) l = _ := upd_same
    have o3 := s3 _ _ hoa
    generalize upd H2 l (.lst [V.int 0]) = H3 at s3 A3 l3 o3 ⊢
    obtain ⟨dz, hz⟩ := A3.m.sl
    have o3 := hob.lst o3
    refine ⟨_, rfl, z, CS, dz, _, _, rfl, hz, TS.cl, TS.nK, sfs_key ka, _, rfl, _, rfl, ka, oa, key, nats o, x.toNat, ?_, SqL.of A3.m.ky, SqL.of o3, hk, hob.bys, (by rw [nats_len]; exact ho), toN32 hx, fun H4 b nb hb s4 => ?_⟩
    · rw [Int.toNat_of_nonneg hx.1]
      rfl
    have A4 := A3.same s4
    refine ⟨l, b, _, _, rfl, rfl, s4 _ _ l3, hb, small_of (by rw [vN_len, block_length hk.1 (by rw [nats_len]; exact ho)]; show 1 + 64 ≤ _; decide), fun b' nb' => ?_⟩
    have A5 := A4.same (same_new (o := .lst ([V.int 0] ++ vN (Ql09.block key (nats o) x.toNat))) nb')
    refine kk _ b' ka (A4.free nb') (.inl rfl) (ans_at 0 _) A5.m A5.b2
theorem scAS : FnScope ["self", "reader", "counter", "n", "once", "data"] ["self", "reader"] (defScope sAS) := ⟨rfl, rfl, rfl, by decide +kernel, rfl, by decide +kernel, by decide +kernel⟩
theorem ok_as {f CR CS : Addr} {fd : FuncData} (F : Fun K "answer_stream" "Sealer.answer_stream" sAS f fd) (T : Txt K mg) (TR : TxtR K CR) (TS : TxtS K CS) (GN : Mth P w K mg base CR "read_number" 1 ["self"] (spRN K CR)) (GR : Mth P w K mg base CR "read_row" 2 ["self"] (spRR K CR))
    (GS : Ok P w K mg base "make_stream" 6 ["key", "once", "counter", "data"] (spStr K)) : FnOk P w K mg base CX0 7 f fd ["self", "reader"] (spDo K CR CS 2) := by
  refine F.ok scAS (fun vs H Q E h => ?_) (fun cdv A outer s H vs Q E hr h => ?_)
  · obtain ⟨_, _, _, _, _, _, _, _, _, rfl, _⟩ := h
    rfl
  · obtain ⟨r, z, a, ka, ns, p, q, key, c, rfl, M, e0, hc, ha, hk, hl, kk⟩ := h
    obtain ⟨x, n, o, b, q1, rfl, e1, e2, r1, r2⟩ := inv2 hc e0
    obtain ⟨hx, hn, ⟨hob, ho⟩, hbb, hb⟩ := asked_stream ha
    have hk := hk.resolve_right (by simp [begins])
    rw [step_stream key hn.1] at kk
    dsimp only at kk
    obtain ⟨rt, hrf⟩ := T.rf
    obtain ⟨mt, hmo⟩ := T.mo
    have hr1 := hr.mono (j := 1) (by decide)
    have hr2 := hr.mono (j := 2) (by decide)
    refine ⟨_, pss_cons (ps_set (i := 2) scAS.nd rfl (Or.inl rfl) (pe_mth0 (pv 1) TR.cl GN hr1)) (pss_cons (ps_set (i := 3) scAS.nd rfl (Or.inl rfl) (pe_mth0 (pv 1) TR.cl GN hr1))
      (pss_cons (ps_set (i := 4) scAS.nd rfl (Or.inl rfl) (pe_mth0 (pv 1) TR.cl GR hr2)) (pss_cons (ps_set (i := 5) scAS.nd rfl (Or.inl rfl) (pe_mth0 (pv 1) TR.cl GR hr2))
      (pss_cons (ps_if (pt_cmpR op_gt (pv 3) (pe_gi rfl hmo) (nomark _)) (pss_one (ps_ret (pe_lst (pa_cons (pe_gi rfl hrf) pa_nil)))) pss_nil)
      (pss_one (ps_ret (pe_op op_cat (pe_lst (pa_cons pe_int pa_nil)) (pe_fn GS hr rfl (pa_cons (pe_fld (pv 0) rfl) (pa_cons (pv 4) (pa_cons (pv 2) (pa_cons (pv 5) pa_nil)))))))))))), ?_⟩
    obtain ⟨dr, hR⟩ := M.rd
    refine ⟨_, rfl, r, dr, _, rfl, hR, rfs_no a _ (by decide +kernel) (by decide +kernel), r, a, p + 1, ns, x, rfl, ⟨dr, hR⟩, M.cs, e1, fun H1 R1 b1 => ?_⟩
    have A1 := (At.start M).read R1 b1
    obtain ⟨d1, hR1⟩ := R1
    refine ⟨_, rfl, r, d1, _, rfl, hR1, rfs_no a _ (by decide +kernel) (by decide +kernel), r, a, p + 2, ns, n, rfl, ⟨d1, hR1⟩, A1.m.cs, e2, fun H2 R2 b2 => ?_⟩
    have A2 := A1.read R2 b2
    obtain ⟨d2, hR2⟩ := R2
    refine ⟨_, rfl, r, d2, _, rfl, hR2, rfs_no a _ (by decide +kernel) (by decide +kernel), r, a, p + 3, q1, ns, o, rfl, ⟨d2, hR2⟩, A2.m.cs, r1, fun H3 oa no hoa R3 b3 => ?_⟩
    have A3 := A2.read R3 b3
    obtain ⟨d3, hR3⟩ := R3
    refine ⟨_, rfl, r, d3, _, rfl, hR3, rfs_no a _ (by decide +kernel) (by decide +kernel), r, a, q1, q, ns, b, rfl, ⟨d3, hR3⟩, A3.m.cs, r2, fun H4 da nd hda R4 b4 => ?_⟩
    have A4 := A3.read R4 b4
    have hoa := b4.lst hR3 hoa
    refine ⟨_, rfl, _, _, rfl, rfl, _, rfl, ?_⟩
    by_cases h : (65536 : Int) < n
    · rw [if_pos h] at kk
      refine goT (decide_eq_true h) ⟨(by show 1 ≤ sizeLine; decide), fun l nl => ?_⟩
      have A5 := A4.same (same_new (o := .lst [V.int (-2)]) nl)
      exact kk _ l ka (A4.free nl) (.inl rfl) upd_same A5.m A5.b2
    · refine goF (decide_eq_false h) ?_
      rw [if_neg h] at kk
      refine ⟨(by show 1 ≤ sizeLine; decide), fun l nl => ?_⟩
      have s5 := same_new (o := .lst [V.int 0]) nl
      have A5 := A4.same s5
      have l5 : upd H4 l (.lst [V.int 0]) l = _ := upd_same
      have o5 := s5 _ _ hoa
      have d5 := s5 _ _ hda
      generalize upd H4 l (.lst [V.int 0]) = H5 at s5 A5 l5 o5 d5 ⊢
      obtain ⟨dz, hz⟩ := A5.m.sl
      have o5 := hob.lst o5
      have d5 := hbb.lst d5
      have hbl := r2.few hl
      refine ⟨_, rfl, z, CS, dz, _, _, rfl, hz, TS.cl, TS.nK, sfs_key ka, _, rfl, _, rfl, _, rfl, ka, oa, da, key, nats o, nats b, x.toNat, ?_, SqL.of A5.m.ky, SqL.of o5, SqL.of d5, hk, hob.bys, (by rw [nats_len]; exact ho), toN32 hx, hbb.bys, by omega, fun H6 t nt ht s6 => ?_⟩
      · rw [Int.toNat_of_nonneg hx.1]
        rfl
      have A6 := A5.same s6
      refine ⟨l, t, _, _, rfl, rfl, s6 _ _ l5, ht, small_of (by rw [vN_len, stream_length hk.1 (by rw [nats_len]; exact ho)]; show 1 + _ ≤ _; omega), fun b' nb' => ?_⟩
      have A7 := A6.same (same_new (o := .lst ([V.int 0] ++ vN (Ql09.stream key (nats o) x.toNat (nats b)))) nb')
      refine kk _ b' ka (A6.free nb') (.inl rfl) (ans_at 0 _) A7.m A7.b2
theorem scAM : FnScope ["self", "reader", "n", "key", "row"] ["self", "reader"] (defScope sAM) := ⟨rfl, rfl, rfl, by decide +kernel, rfl, by decide +kernel, by decide +kernel⟩
theorem ok_am {f CR CS : Addr} {fd : FuncData} (F : Fun K "answer_mark" "Sealer.answer_mark" sAM f fd) (T : Txt K mg) (TR : TxtR K CR) (GN : Mth P w K mg base CR "read_number" 1 ["self"] (spRN K CR)) (GR : Mth P w K mg base CR "read_row" 2 ["self"] (spRR K CR))
    (GM : Ok P w K mg base "make_mark" 2 ["key", "row"] (spMrk K)) : FnOk P w K mg base CX0 3 f fd ["self", "reader"] (spDo K CR CS 3) := by
  refine F.ok scAM (fun vs H Q E h => ?_) (fun cdv A outer s H vs Q E hr h => ?_)
  · obtain ⟨_, _, _, _, _, _, _, _, _, rfl, _⟩ := h
    rfl
  · obtain ⟨r, z, a, ka, ns, p, q, key, c, rfl, M, e0, hc, ha, hk, hl, kk⟩ := h
    obtain ⟨n, k, b, q1, rfl, e1, r1, r2⟩ := inv3 hc e0
    obtain ⟨hn, ⟨hkb, hk32⟩, hbb, hb⟩ := asked_mark ha
    rw [step_mark key hn.1] at kk
    dsimp only at kk
    obtain ⟨rt, hrf⟩ := T.rf
    obtain ⟨mt, hmo⟩ := T.mo
    have hr1 := hr.mono (j := 1) (by decide)
    refine ⟨_, pss_cons (ps_set (i := 2) scAM.nd rfl (Or.inl rfl) (pe_mth0 (pv 1) TR.cl GN hr1))
      (pss_cons (ps_set (i := 3) scAM.nd rfl (Or.inl rfl) (pe_mth0 (pv 1) TR.cl GR hr)) (pss_cons (ps_set (i := 4) scAM.nd rfl (Or.inl rfl) (pe_mth0 (pv 1) TR.cl GR hr))
      (pss_cons (ps_if (pt_cmpR op_gt (pv 2) (pe_gi rfl hmo) (nomark _)) (pss_one (ps_ret (pe_lst (pa_cons (pe_gi rfl hrf) pa_nil)))) pss_nil)
      (pss_one (ps_ret (pe_op op_cat (pe_lst (pa_cons pe_int pa_nil)) (pe_fn GM hr rfl (pa_cons (pv 3) (pa_cons (pv 4) pa_nil))))))))), ?_⟩
    obtain ⟨dr, hR⟩ := M.rd
    refine ⟨_, rfl, r, dr, _, rfl, hR, rfs_no a _ (by decide +kernel) (by decide +kernel), r, a, p + 1, ns, n, rfl, ⟨dr, hR⟩, M.cs, e1, fun H2 R2 b2 => ?_⟩
    have A2 := (At.start M).read R2 b2
    obtain ⟨d2, hR2⟩ := R2
    refine ⟨_, rfl, r, d2, _, rfl, hR2, rfs_no a _ (by decide +kernel) (by decide +kernel), r, a, p + 2, q1, ns, k, rfl, ⟨d2, hR2⟩, A2.m.cs, r1, fun H3 oa no hoa R3 b3 => ?_⟩
    have A3 := A2.read R3 b3
    obtain ⟨d3, hR3⟩ := R3
    refine ⟨_, rfl, r, d3, _, rfl, hR3, rfs_no a _ (by decide +kernel) (by decide +kernel), r, a, q1, q, ns, b, rfl, ⟨d3, hR3⟩, A3.m.cs, r2, fun H4 da nd hda R4 b4 => ?_⟩
    have A4 := A3.read R4 b4
    have hoa := b4.lst hR3 hoa
    refine ⟨_, rfl, _, _, rfl, rfl, _, rfl, ?_⟩
    by_cases h : (65536 : Int) < n
    · rw [if_pos h] at kk
      refine goT (decide_eq_true h) ⟨(by show 1 ≤ sizeLine; decide), fun l nl => ?_⟩
      have A5 := A4.same (same_new (o := .lst [V.int (-2)]) nl)
      exact kk _ l ka (A4.free nl) (.inl rfl) upd_same A5.m A5.b2
    · refine goF (decide_eq_false h) ?_
      rw [if_neg h] at kk
      refine ⟨(by show 1 ≤ sizeLine; decide), fun l nl => ?_⟩
      have s5 := same_new (o := .lst [V.int 0]) nl
      have A5 := A4.same s5
      have l5 : upd H4 l (.lst [V.int 0]) l = _ := upd_same
      have o5 := s5 _ _ hoa
      have d5 := s5 _ _ hda
      generalize upd H4 l (.lst [V.int 0]) = H5 at s5 A5 l5 o5 d5 ⊢
      have o5 := hkb.lst o5
      have d5 := hbb.lst d5
      have hbl := r2.few hl
      refine ⟨_, rfl, _, rfl, oa, da, nats k, nats b, rfl, SqL.of o5, SqL.of d5, ⟨by rw [nats_len]; exact hk32, hkb.bys⟩, hbb.bys, by omega, fun H6 t nt ht s6 => ?_⟩
      have A6 := A5.same s6
      refine ⟨l, t, _, _, rfl, rfl, s6 _ _ l5, ht, small_of (by rw [vN_len, mark_length]; show 1 + _ ≤ _; omega), fun b' nb' => ?_⟩
      have A7 := A6.same (same_new (o := .lst ([V.int 0] ++ vN (Ql09.mark (nats k) (nats b)))) nb')
      refine kk _ b' ka (A6.free nb') (.inl rfl) (ans_at 0 _) A7.m A7.b2
theorem scAD : FnScope ["self", "reader", "n", "once", "counters"] ["self", "reader"] (defScope sAD) := ⟨rfl, rfl, rfl, by decide +kernel, rfl, by decide +kernel, by decide +kernel⟩
theorem ok_ad {f CR CS : Addr} {fd : FuncData} (F : Fun K "answer_drops" "Sealer.answer_drops" sAD f fd) (T : Txt K mg) (TC : TxtC mg) (TR : TxtR K CR) (TS : TxtS K CS) (GN : Mth P w K mg base CR "read_number" 1 ["self"] (spRN K CR)) (GR : Mth P w K mg base CR "read_row" 2 ["self"] (spRR K CR))
    (GD : Ok P w K mg base "make_drops" 6 ["key", "once", "counters"] (spDrp K)) : FnOk P w K mg base CX0 7 f fd ["self", "reader"] (spDo K CR CS 6) := by
  refine F.ok scAD (fun vs H Q E h => ?_) (fun cdv A outer s H vs Q E hr h => ?_)
  · obtain ⟨_, _, _, _, _, _, _, _, _, rfl, _⟩ := h
    rfl
  · obtain ⟨r, z, a, ka, ns, p, q, key, c, rfl, M, e0, hc, ha, hk, hl, kk⟩ := h
    obtain ⟨n, o, k, q1, rfl, e1, r1, r2⟩ := inv6 hc e0
    obtain ⟨hn, ⟨hob, ho⟩, hkb, hkl⟩ := asked_drops ha
    have hk := hk.resolve_right (by simp [begins])
    rw [step_drops key hn.1] at kk
    dsimp only at kk
    obtain ⟨rt, hrf⟩ := T.rf
    obtain ⟨mt, hmd⟩ := TC.md
    have hr1 := hr.mono (j := 1) (by decide)
    have hr2 := hr.mono (j := 2) (by decide)
    refine ⟨_, pss_cons (ps_set (i := 2) scAD.nd rfl (Or.inl rfl) (pe_mth0 (pv 1) TR.cl GN hr1))
      (pss_cons (ps_set (i := 3) scAD.nd rfl (Or.inl rfl) (pe_mth0 (pv 1) TR.cl GR hr2)) (pss_cons (ps_set (i := 4) scAD.nd rfl (Or.inl rfl) (pe_mth0 (pv 1) TR.cl GR hr2))
      (pss_cons (ps_if (PW.pt (pw_or (pt_cmpR op_lt (pv 2) pe_int (nomark _)) (pw_or1 (pt_cmpR op_gt (pv 2) (pe_gi rfl hmd) (nomark _))))) (pss_one (ps_ret (pe_lst (pa_cons (pe_gi rfl hrf) pa_nil)))) pss_nil)
      (pss_one (ps_ret (pe_op op_cat (pe_lst (pa_cons pe_int pa_nil)) (pe_fn GD hr rfl (pa_cons (pe_fld (pv 0) rfl) (pa_cons (pv 3) (pa_cons (pv 4) pa_nil)))))))))), ?_⟩
    obtain ⟨dr, hR⟩ := M.rd
    refine ⟨_, rfl, r, dr, _, rfl, hR, rfs_no a _ (by decide +kernel) (by decide +kernel), r, a, p + 1, ns, n, rfl, ⟨dr, hR⟩, M.cs, e1, fun H2 R2 b2 => ?_⟩
    have A2 := (At.start M).read R2 b2
    obtain ⟨d2, hR2⟩ := R2
    refine ⟨_, rfl, r, d2, _, rfl, hR2, rfs_no a _ (by decide +kernel) (by decide +kernel), r, a, p + 2, q1, ns, o, rfl, ⟨d2, hR2⟩, A2.m.cs, r1, fun H3 oa no hoa R3 b3 => ?_⟩
    have A3 := A2.read R3 b3
    obtain ⟨d3, hR3⟩ := R3
    refine ⟨_, rfl, r, d3, _, rfl, hR3, rfs_no a _ (by decide +kernel) (by decide +kernel), r, a, q1, q, ns, k, rfl, ⟨d3, hR3⟩, A3.m.cs, r2, fun H4 da nd hda R4 b4 => ?_⟩
    have A4 := A3.read R4 b4
    have hoa := b4.lst hR3 hoa
    refine ⟨_, rfl, _, _, rfl, rfl, _, rfl, ?_⟩
    by_cases h1 : n < 1
    · rw [if_neg (by omega)] at kk
      refine goT (decide_eq_true h1) (goT rfl ⟨(by show 1 ≤ sizeLine; decide), fun l nl => ?_⟩)
      have A5 := A4.same (same_new (o := .lst [V.int (-2)]) nl)
      exact kk _ l ka (A4.free nl) (.inl rfl) upd_same A5.m A5.b2
    refine goF (decide_eq_false h1) ⟨_, rfl, _, _, rfl, rfl, _, rfl, ?_⟩
    by_cases h : (16 : Int) < n
    · rw [if_neg (by omega)] at kk
      refine goT (decide_eq_true h) ⟨(by show 1 ≤ sizeLine; decide), fun l nl => ?_⟩
      have A5 := A4.same (same_new (o := .lst [V.int (-2)]) nl)
      exact kk _ l ka (A4.free nl) (.inl rfl) upd_same A5.m A5.b2
    · refine goF (decide_eq_false h) ?_
      have h16 : 1 ≤ n ∧ n ≤ 16 := by omega
      rw [if_pos h16] at kk ho hkl
      refine ⟨(by show 1 ≤ sizeLine; decide), fun l nl => ?_⟩
      have s5 := same_new (o := .lst [V.int 0]) nl
      have A5 := A4.same s5
      have l5 : upd H4 l (.lst [V.int 0]) l = _ := upd_same
      have o5 := s5 _ _ hoa
      have d5 := s5 _ _ hda
      generalize upd H4 l (.lst [V.int 0]) = H5 at s5 A5 l5 o5 d5 ⊢
      have o5 := hob.lst o5
      have d5 := d5.trans (congrArg (fun q => some (HO.lst q)) (vI_nats fun x hx => (hkb x hx).1))
      obtain ⟨dz, hz⟩ := A5.m.sl
      have enl : n.toNat = (nats k).length := by rw [nats_len]; omega
      rw [enl] at kk
      have hol : (nats o).length = 12 * (nats k).length := by rw [nats_len, nats_len]; omega
      refine ⟨_, rfl, z, CS, dz, _, _, rfl, hz, TS.cl, TS.nK, sfs_key ka, _, rfl, _, rfl, ka, oa, da, key, nats o, nats k, rfl, SqL.of A5.m.ky, SqL.of o5, SqL.of d5, hk, hob.bys, hol, ?_, by omega, fun H6 t nt ht s6 => ?_⟩
      · intro x hx
        obtain ⟨y, hy, rfl⟩ := List.mem_map.mp hx
        exact toN32 (hkb y hy)
      have A6 := A5.same s6
      have hdl : (dropsB key (nats k).length (nats o) (nats k)).length ≤ 64 * 16 := by
        unfold dropsB
        rw [flatMap_length _ 64 _ fun x hx => ?_]
        · rw [List.length_zip]
          refine Nat.mul_le_mul_left _ (Nat.le_trans (Nat.min_le_right _ _) (by omega))
        · obtain ⟨j, hj⟩ := List.mem_iff_getElem?.mp hx
          obtain ⟨h1, h2⟩ := List.getElem?_zip_eq_some.mp hj
          have hjc : j < (nats k).length := (List.getElem?_eq_some_iff.mp h2).1
          rw [blocks_at 12 _ _ _ hjc] at h1
          rw [← Option.some.inj h1]
          exact block_length hk.1 (by rw [List.length_take, List.length_drop]; omega) _
      refine ⟨l, t, _, _, rfl, rfl, s6 _ _ l5, ht, small_of (by rw [vN_len]; show 1 + _ ≤ _; omega), fun b' nb' => ?_⟩
      have A7 := A6.same (same_new (o := .lst ([V.int 0] ++ vN (dropsB key (nats k).length (nats o) (nats k)))) nb')
      refine kk _ b' ka (A6.free nb') (.inl rfl) (ans_at 0 _) A7.m A7.b2
end
end Sr

end
section
set_option Elab.async false
set_option linter.all false
set_option maxRecDepth 100000
set_option maxHeartbeats 2000000
/-! Seal, open, and which call it is. -/
namespace Sr
open PySem PySem.Spec PyProof.Rows L2
open Ql09Neutral (step asked1 begins nats)
theorem open_yes {key once seen c : List Nat} {n : Nat} (hn : c.length = n + 16) (h : Ql09.tag key once seen (c.take n) = c.drop n) : Ql09.open_ key once seen c = some (Ql09.stream key once 1 (c.take n)) := by
  have e : c.length - 16 = n := by omega
  unfold Ql09.open_
  rw [e]
  exact if_pos h
theorem open_no {key once seen c : List Nat} {n : Nat} (hn : c.length = n + 16) (h : ¬ Ql09.tag key once seen (c.take n) = c.drop n) : Ql09.open_ key once seen c = none := by
  have e : c.length - 16 = n := by omega
  unfold Ql09.open_
  rw [e]
  exact if_neg h
theorem Dp.nats {K : PySem.W.Frag} {H : Hp} {a : Addr} {l : List Nat} (h : H a = some (.lst (vN l))) : Dp K H (.ref a) (.list ((Ql09Neutral.«ints» l).map PyData.int)) := by
  rw [← vI_ints] at h
  exact .lst (SqL.of h) (dp_ints _)
section
variable {P : Program} {w : World} {K : PySem.W.Frag} {mg : Str → Option Value} {base : Heap}
theorem scAE : FnScope ["self", "reader", "parcel", "sealed"] ["self", "reader"] (defScope sAE) := ⟨rfl, rfl, rfl, by decide +kernel, rfl, by decide +kernel, by decide +kernel⟩
theorem ok_ae {f fP CR CS CP : Addr} {fd fdP : FuncData} (F : Fun K "answer_seal" "Sealer.answer_seal" sAE f fd) (T : Txt K mg) (TC : TxtC mg) (TR : TxtR K CR) (TS : TxtS K CS) (TP : TxtP K CP) (hP : mg "Parcel" = some (.ref CP)) (MP : Mk K CP fP) (bP : Binds K fdP ["self", "reader"] [])
    (GP : FnOk P w K mg base CX0 3 fP fdP ["self", "reader"] (spPI K CR CP)) (GL : Mth P w K mg base CP "is_too_long" 1 ["self"] (spPL CP))
    (GS : Ok P w K mg base "make_stream" 6 ["key", "once", "counter", "data"] (spStr K)) (GT : Ok P w K mg base "make_seal_mark" 6 ["key", "once", "seen", "sealed"] (spSmk K)) : FnOk P w K mg base CX0 7 f fd ["self", "reader"] (spDo K CR CS 4) := by
  refine F.ok scAE (fun vs H Q E h => ?_) (fun cdv A outer s H vs Q E hr h => ?_)
  · obtain ⟨_, _, _, _, _, _, _, _, _, rfl, _⟩ := h
    rfl
  · obtain ⟨r, z, a, ka, ns, p, q, key, c, rfl, M, e0, hc, ha, hk, hl, kk⟩ := h
    obtain ⟨sN, n, lo, ls, ld, q1, q2, rfl, e1, e2, r1, r2, r3⟩ := inv4 hc e0
    obtain ⟨hs, hn, ⟨hob, ho⟩, ⟨hsb, hsl⟩, hbb, hb⟩ := asked_seal ha
    have hk := hk.resolve_right (by simp [begins])
    rw [step_seal key hs.1 hn.1] at kk
    dsimp only at kk
    obtain ⟨rt, hrf⟩ := T.rf
    obtain ⟨mt, hms⟩ := TC.ms
    have hr1 := hr.mono (j := 1) (by decide)
    have hr4 := hr.mono (j := 4) (by decide)
    refine ⟨_, pss_cons (ps_set (i := 2) scAE.nd rfl (Or.inl rfl) (pe_make MP GP hr4 rfl hP bP .nil pass0 (pa_cons (pv 1) pa_nil)))
      (pss_cons (ps_if (pt_val (pe_mth0 (pv 2) TP.cl GL hr1)) (pss_one (ps_ret (pe_lst (pa_cons (pe_gi rfl hrf) pa_nil)))) pss_nil)
      (pss_cons (ps_set (i := 3) scAE.nd rfl (Or.inl rfl) (pe_fn GS hr rfl (pa_cons (pe_fld (pv 0) rfl) (pa_cons (pe_fld (pv 2) rfl) (pa_cons (pe_gi rfl hms) (pa_cons (pe_fld (pv 2) rfl) pa_nil))))))
      (pss_one (ps_ret (pe_op op_cat (pe_op op_cat (pe_lst (pa_cons pe_int pa_nil)) (pv 3)) (pe_fn GT hr rfl (pa_cons (pe_fld (pv 0) rfl) (pa_cons (pe_fld (pv 2) rfl) (pa_cons (pe_fld (pv 2) rfl) (pa_cons (pv 3) pa_nil)))))))))), ?_⟩
    obtain ⟨dr, hR⟩ := M.rd
    refine ⟨_, rfl, fun x dx nx ndx ndxx => ?_⟩
    have s0 : Same H (upd (upd H dx (.own x)) x (.ins CP dx [])) := fun b o e => by rw [upd_ne (ne_of_none e nx), upd_ne (ne_of_none e ndx)]; exact e
    refine ⟨x, r, a, dx, ns, p + 1, q1, q2, q, sN, n, lo, ls, ld, rfl, upd_same, ⟨dr, s0 _ _ hR⟩, s0.seq M.cs, e1, e2, r1, r2, r3, fun H1 oa sa da hoa hsa hda hpc R1 b1 => ⟨rfl, ?_⟩⟩
    have A1 := (At.start M).read R1 fun c o h n => b1 c o (s0 c o h) n (ne_of_none h nx)
    obtain ⟨dp, hp⟩ := hpc
    refine ⟨_, rfl, x, dp, _, rfl, hp, pfs_no _ _ _ _ _ (by decide +kernel) (by decide +kernel) (by decide +kernel) (by decide +kernel) (by decide +kernel), x, sN, n, oa, sa, da, rfl, ⟨dp, hp⟩, _, rfl, ?_⟩
    by_cases h : 65536 < sN ∨ 65536 < n
    · rw [if_pos h] at kk
      refine goT (decide_eq_true h) ⟨(by show 1 ≤ sizeLine; decide), fun l nl => ?_⟩
      have A5 := A1.same (same_new (o := .lst [V.int (-2)]) nl)
      exact kk _ l ka (A1.free nl) (.inl rfl) upd_same A5.m A5.b2
    · rw [if_neg h] at kk
      refine goF (decide_eq_false h) ?_
      obtain ⟨dz, hz⟩ := A1.m.sl
      have hbl := r3.few hl
      have hsl' := r2.few hl
      have hol : (nats lo).length = 12 := by rw [nats_len]; exact ho
      refine ⟨_, rfl, z, CS, dz, _, _, rfl, hz, TS.cl, TS.nK, sfs_key ka, _, rfl, x, CP, dp, _, _, rfl, hp, TP.cl, TP.n3, pfs_once _ _ _ _ _, _, rfl, x, CP, dp, _, _, rfl, hp, TP.cl, TP.n5, pfs_data _ _ _ _ _, ka, oa, da, key, nats lo, nats ld, 1, rfl, SqL.of A1.m.ky, SqL.of (hob.lst hoa), SqL.of (hbb.lst hda), hk, hob.bys, hol, by decide, hbb.bys, by omega, fun H2 t nt ht s2 => ?_⟩
      have A2 := A1.same s2
      have hsl2 := stream_length hk.1 hol 1 (nats ld)
      refine ⟨(by show 1 ≤ sizeLine; decide), fun l nl => ?_⟩
      have s3 := same_new (o := .lst [V.int 0]) nl
      refine ⟨_, rfl, l, t, _, _, rfl, rfl, upd_same, s3 _ _ ht, small_of (by rw [vN_len, hsl2]; show 1 + _ ≤ _; omega), fun l4 nl4 => ?_⟩
      have s4 := same_add (o := .lst ([V.int 0] ++ vN (Ql09.stream key (nats lo) 1 (nats ld)))) s3 nl4
      have h4 : upd (upd H2 l (.lst [V.int 0])) l4 (.lst ([V.int 0] ++ vN (Ql09.stream key (nats lo) 1 (nats ld)))) l4 = _ := upd_same
      generalize upd (upd H2 l (.lst [V.int 0])) l4 (.lst ([V.int 0] ++ vN (Ql09.stream key (nats lo) 1 (nats ld)))) = H4 at s4 h4 ⊢
      have A4 := A2.same s4
      obtain ⟨dz4, hz4⟩ := A4.m.sl
      have s14 := s2.trans s4
      have hp4 := s14 _ _ hp
      refine ⟨_, rfl, z, CS, dz4, _, _, rfl, hz4, TS.cl, TS.nK, sfs_key ka, _, rfl, x, CP, dp, _, _, rfl, hp4, TP.cl, TP.n3, pfs_once _ _ _ _ _, _, rfl, x, CP, dp, _, _, rfl, hp4, TP.cl, TP.n4, pfs_seen _ _ _ _ _, _, rfl, ka, oa, sa, t, key, nats lo, nats ls, _, rfl, SqL.of A4.m.ky, SqL.of (s14 _ _ (hob.lst hoa)), s14 _ _ (hsb.lst hsa), s4 _ _ ht, hk, hob.bys, hol, hsb.bys, stream_bys hbb.bys 1, by omega, by omega, fun H5 m nm hm s5 => ?_⟩
      have A5 := A4.same s5
      refine ⟨l4, m, _, _, rfl, rfl, s5 _ _ h4, hm, small_of (by rw [List.length_append, vN_len, vN_len, hsl2, tag_len]; show 1 + _ + 16 ≤ _; omega), fun b' nb' => ?_⟩
      have A6 := A5.same (same_new (o := .lst (([V.int 0] ++ vN (Ql09.stream key (nats lo) 1 (nats ld))) ++ vN (Ql09.tag key (nats lo) (nats ls) (Ql09.stream key (nats lo) 1 (nats ld))))) nb')
      refine kk _ b' ka (A5.free nb') (.inl rfl) (Eq.trans upd_same (congrArg (fun q => some (HO.lst q)) ?_)) A6.m A6.b2
      rw [List.append_assoc, vN_append, vI_cons]
      rfl
theorem scAO : FnScope ["self", "reader", "parcel", "sealed", "mark"] ["self", "reader"] (defScope sAO) := ⟨rfl, rfl, rfl, by decide +kernel, rfl, by decide +kernel, by decide +kernel⟩
theorem ok_ao {f fP CR CS CP : Addr} {fd fdP : FuncData} (F : Fun K "answer_open" "Sealer.answer_open" sAO f fd) (T : Txt K mg) (TC : TxtC mg) (TR : TxtR K CR) (TS : TxtS K CS) (TP : TxtP K CP) (hP : mg "Parcel" = some (.ref CP)) (MP : Mk K CP fP) (bP : Binds K fdP ["self", "reader"] [])
    (GP : FnOk P w K mg base CX0 3 fP fdP ["self", "reader"] (spPI K CR CP)) (GL : Mth P w K mg base CP "is_too_long" 1 ["self"] (spPL CP))
    (GS : Ok P w K mg base "make_stream" 6 ["key", "once", "counter", "data"] (spStr K)) (GT : Ok P w K mg base "make_seal_mark" 6 ["key", "once", "seen", "sealed"] (spSmk K)) : FnOk P w K mg base CX0 7 f fd ["self", "reader"] (spDo K CR CS 5) := by
  refine F.ok scAO (fun vs H Q E h => ?_) (fun cdv A outer s H vs Q E hr h => ?_)
  · obtain ⟨_, _, _, _, _, _, _, _, _, rfl, _⟩ := h
    rfl
  · obtain ⟨r, z, a, ka, ns, p, q, key, c, rfl, M, e0, hc, ha, hk, hl, kk⟩ := h
    obtain ⟨sN, n, lo, ls, ld, q1, q2, rfl, e1, e2, r1, r2, r3⟩ := inv5 hc e0
    obtain ⟨hs, hn, ⟨hob, ho⟩, ⟨hsb, hsl⟩, hbb, hb⟩ := asked_open ha
    have hk := hk.resolve_right (by simp [begins])
    rw [step_open key hs.1 hn.1] at kk
    dsimp only at kk
    obtain ⟨rt, hrf⟩ := T.rf
    obtain ⟨mt, hms⟩ := TC.ms
    have hr1 := hr.mono (j := 1) (by decide)
    have hr4 := hr.mono (j := 4) (by decide)
    refine ⟨_, pss_cons (ps_set (i := 2) scAO.nd rfl (Or.inl rfl) (pe_make MP GP hr4 rfl hP bP .nil pass0 (pa_cons (pv 1) pa_nil)))
      (pss_cons (ps_if (pt_val (pe_mth0 (pv 2) TP.cl GL hr1)) (pss_one (ps_ret (pe_lst (pa_cons (pe_gi rfl hrf) pa_nil)))) pss_nil)
      (pss_cons (ps_set (i := 3) scAO.nd rfl (Or.inl rfl) (pe_slice sl_list (pe_fld (pv 2) rfl) po_none (po_some (pe_fld (pv 2) rfl))))
      (pss_cons (ps_set (i := 4) scAO.nd rfl (Or.inl rfl) (pe_slice sl_list (pe_fld (pv 2) rfl) (po_some (pe_fld (pv 2) rfl)) po_none))
      (pss_cons (ps_if (pt_cmpR (op_neD hr.units) (pv 4) (pe_fn GT hr rfl (pa_cons (pe_fld (pv 0) rfl) (pa_cons (pe_fld (pv 2) rfl) (pa_cons (pe_fld (pv 2) rfl) (pa_cons (pv 3) pa_nil))))) (nomark _)) (pss_one (ps_ret (pe_lst (pa_cons pe_int pa_nil)))) pss_nil)
      (pss_one (ps_ret (pe_op op_cat (pe_lst (pa_cons pe_int pa_nil)) (pe_fn GS hr rfl (pa_cons (pe_fld (pv 0) rfl) (pa_cons (pe_fld (pv 2) rfl) (pa_cons (pe_gi rfl hms) (pa_cons (pv 3) pa_nil)))))))))))), ?_⟩
    obtain ⟨dr, hR⟩ := M.rd
    refine ⟨_, rfl, fun x dx nx ndx ndxx => ?_⟩
    have s0 : Same H (upd (upd H dx (.own x)) x (.ins CP dx [])) := fun b o e => by rw [upd_ne (ne_of_none e nx), upd_ne (ne_of_none e ndx)]; exact e
    refine ⟨x, r, a, dx, ns, p + 1, q1, q2, q, sN, n, lo, ls, ld, rfl, upd_same, ⟨dr, s0 _ _ hR⟩, s0.seq M.cs, e1, e2, r1, r2, r3, fun H1 oa sa da hoa hsa hda hpc R1 b1 => ⟨rfl, ?_⟩⟩
    have A1 := (At.start M).read R1 fun c o h n => b1 c o (s0 c o h) n (ne_of_none h nx)
    obtain ⟨dp, hp⟩ := hpc
    refine ⟨_, rfl, x, dp, _, rfl, hp, pfs_no _ _ _ _ _ (by decide +kernel) (by decide +kernel) (by decide +kernel) (by decide +kernel) (by decide +kernel), x, sN, n, oa, sa, da, rfl, ⟨dp, hp⟩, _, rfl, ?_⟩
    by_cases h : 65536 < sN ∨ 65536 < n
    · rw [if_pos h] at kk
      refine goT (decide_eq_true h) ⟨(by show 1 ≤ sizeLine; decide), fun l nl => ?_⟩
      have A5 := A1.same (same_new (o := .lst [V.int (-2)]) nl)
      exact kk _ l ka (A1.free nl) (.inl rfl) upd_same A5.m A5.b2
    · rw [if_neg h] at kk
      refine goF (decide_eq_false h) ?_
      rw [if_pos (by omega)] at hb
      have hbl := r3.few hl
      have hsl' := r2.few hl
      have hol : (nats lo).length = 12 := by rw [nats_len]; exact ho
      have hd1 := hbb.lst hda
      have hn16 : (nats ld).length = n.toNat + 16 := by rw [nats_len]; omega
      have en : ((n.toNat : Nat) : Int) = n := Int.toNat_of_nonneg hn.1
      refine ⟨_, rfl, x, CP, dp, _, _, rfl, hp, TP.cl, TP.n5, pfs_data _ _ _ _ _, _, rfl, x, CP, dp, _, _, rfl, hp, TP.cl, TP.n2, pfs_n _ _ _ _ _, n, rfl, da, _, rfl, SqL.of hd1, fun t nt => ?_⟩
      have s2 := same_new (o := .lst (cutV (vN (nats ld)) none (some n))) nt
      have h2 : upd H1 t (.lst (cutV (vN (nats ld)) none (some n))) t = some (.lst (vN ((nats ld).take n.toNat))) := Eq.trans upd_same (congrArg (fun q => some (HO.lst q)) (by rw [← vN_take, ← cut_to, en]))
      generalize upd H1 t (.lst (cutV (vN (nats ld)) none (some n))) = H2 at s2 h2 ⊢
      have hp2 := s2 _ _ hp
      refine ⟨_, rfl, x, CP, dp, _, _, rfl, hp2, TP.cl, TP.n5, pfs_data _ _ _ _ _, _, rfl, x, CP, dp, _, _, rfl, hp2, TP.cl, TP.n2, pfs_n _ _ _ _ _, n, rfl, da, _, rfl, SqL.of (s2 _ _ hd1), fun m nm => ?_⟩
      have s3 := same_add (o := .lst (cutV (vN (nats ld)) (some n) none)) s2 nm
      have s23 := same_new (o := .lst (cutV (vN (nats ld)) (some n) none)) nm
      have h3 : upd H2 m (.lst (cutV (vN (nats ld)) (some n) none)) m = some (.lst (vN ((nats ld).drop n.toNat))) := Eq.trans upd_same (congrArg (fun q => some (HO.lst q)) (by rw [← vN_drop, ← cut_from, en]))
      have t3 := s23 _ _ h2
      generalize upd H2 m (.lst (cutV (vN (nats ld)) (some n) none)) = H3 at s3 s23 h3 t3 ⊢
      have A3 := A1.same s3
      have hp3 := s3 _ _ hp
      obtain ⟨dz, hz⟩ := A3.m.sl
      have htl : ((nats ld).take n.toNat).length = n.toNat := by rw [List.length_take]; omega
      refine ⟨_, rfl, _, rfl, z, CS, dz, _, _, rfl, hz, TS.cl, TS.nK, sfs_key ka, _, rfl, x, CP, dp, _, _, rfl, hp3, TP.cl, TP.n3, pfs_once _ _ _ _ _, _, rfl, x, CP, dp, _, _, rfl, hp3, TP.cl, TP.n4, pfs_seen _ _ _ _ _, _, rfl, ka, oa, sa, t, key, nats lo, nats ls, _, rfl, SqL.of A3.m.ky, SqL.of (s3 _ _ (hob.lst hoa)), s3 _ _ (hsb.lst hsa), t3, hk, hob.bys, hol, hsb.bys, hbb.bys.take _, by omega, by omega, fun H4 g ng hg s4 => ?_⟩
      have A4 := A3.same s4
      refine ⟨_, _, Dp.nats (s4 _ _ h3), Dp.nats hg, PySem.W.ke_shaped_ints _, PySem.W.ke_shaped_ints _, _, rfl, ?_⟩
      by_cases ht : Ql09.tag key (nats lo) (nats ls) ((nats ld).take n.toNat) = (nats ld).drop n.toNat
      · rw [open_yes hn16 ht] at kk
        have eb : (!PyData.eqv (.list ((Ql09Neutral.«ints» ((nats ld).drop n.toNat)).map PyData.int)) (.list ((Ql09Neutral.«ints» (Ql09.tag key (nats lo) (nats ls) ((nats ld).take n.toNat))).map PyData.int))) = false := by
          rw [eqv_ints, ht, decide_eq_true rfl]
          rfl
        refine goF eb ?_
        refine ⟨(by show 1 ≤ sizeLine; decide), fun l nl => ?_⟩
        have s5 := same_new (o := .lst [V.int 1]) nl
        have A5 := A4.same s5
        have l5 : upd H4 l (.lst [V.int 1]) l = _ := upd_same
        have s35 := s4.trans s5
        generalize upd H4 l (.lst [V.int 1]) = H5 at s5 s35 A5 l5 ⊢
        have s15 := s3.trans s35
        have hp5 := s15 _ _ hp
        obtain ⟨dz5, hz5⟩ := A5.m.sl
        refine ⟨_, rfl, z, CS, dz5, _, _, rfl, hz5, TS.cl, TS.nK, sfs_key ka, _, rfl, x, CP, dp, _, _, rfl, hp5, TP.cl, TP.n3, pfs_once _ _ _ _ _, _, rfl, ka, oa, t, key, nats lo, _, 1, rfl, SqL.of A5.m.ky, SqL.of (s15 _ _ (hob.lst hoa)), SqL.of (s35 _ _ t3), hk, hob.bys, hol, by decide, hbb.bys.take _, by omega, fun H6 u nu hu s6 => ?_⟩
        have A6 := A5.same s6
        have hsl2 := stream_length hk.1 hol 1 ((nats ld).take n.toNat)
        refine ⟨l, u, _, _, rfl, rfl, s6 _ _ l5, hu, small_of (by rw [vN_len, hsl2]; show 1 + _ ≤ _; omega), fun b' nb' => ?_⟩
        have A7 := A6.same (same_new (o := .lst ([V.int 1] ++ vN (Ql09.stream key (nats lo) 1 ((nats ld).take n.toNat)))) nb')
        exact kk _ b' ka (A6.free nb') (.inl rfl) (ans_at 1 _) A7.m A7.b2
      · rw [open_no hn16 ht] at kk
        have eb : (!PyData.eqv (.list ((Ql09Neutral.«ints» ((nats ld).drop n.toNat)).map PyData.int)) (.list ((Ql09Neutral.«ints» (Ql09.tag key (nats lo) (nats ls) ((nats ld).take n.toNat))).map PyData.int))) = true := by
          rw [eqv_ints, decide_eq_false fun q => ht (ints_inj q).symm]
          rfl
        refine goT eb ?_
        refine ⟨(by show 1 ≤ sizeLine; decide), fun l nl => ?_⟩
        have A5 := A4.same (same_new (o := .lst [V.int 0]) nl)
        exact kk _ l ka (A4.free nl) (.inl rfl) upd_same A5.m A5.b2
theorem scAC : FnScope ["self", "reader", "call"] ["self", "reader"] (defScope sAC) := ⟨rfl, rfl, rfl, by decide +kernel, rfl, by decide +kernel, by decide +kernel⟩
theorem CallAt.kind {ns : List Int} {p q : Nat} {c : List (List Int)} (h : CallAt ns p c q) : ns[p]? = some 0 ∨ ns[p]? = some 1 ∨ ns[p]? = some 2 ∨ ns[p]? = some 3 ∨ ns[p]? = some 4 ∨ ns[p]? = some 5 ∨ ns[p]? = some 6 := by
  cases h with
  | key h => exact .inl h
  | block h => exact .inr (.inl h)
  | stream h => exact .inr (.inr (.inl h))
  | mark h => exact .inr (.inr (.inr (.inl h)))
  | sealUp h => exact .inr (.inr (.inr (.inr (.inl h))))
  | open_ h => exact .inr (.inr (.inr (.inr (.inr (.inl h)))))
  | drops h => exact .inr (.inr (.inr (.inr (.inr (.inr h)))))
theorem dn {x y : Int} (h : ¬ x = y) : decide (V.int x = V.int y) = false := decide_eq_false fun e => h (by injection e)
theorem dy (x : Int) : decide (V.int x = V.int x) = true := decide_eq_true rfl
theorem ok_ac {f CR CS : Addr} {fd : FuncData} (F : Fun K "answer_call" "Sealer.answer_call" sAC f fd) (TC : TxtC mg) (TR : TxtR K CR) (TS : TxtS K CS) (GN : Mth P w K mg base CR "read_number" 1 ["self"] (spRN K CR))
    (G0 : Mth P w K mg base CS "take_key" 3 ["self", "reader"] (spDo K CR CS 0)) (G1 : Mth P w K mg base CS "answer_block" 6 ["self", "reader"] (spDo K CR CS 1)) (G2 : Mth P w K mg base CS "answer_stream" 7 ["self", "reader"] (spDo K CR CS 2))
    (G3 : Mth P w K mg base CS "answer_mark" 3 ["self", "reader"] (spDo K CR CS 3)) (G4 : Mth P w K mg base CS "answer_seal" 7 ["self", "reader"] (spDo K CR CS 4)) (G5 : Mth P w K mg base CS "answer_open" 7 ["self", "reader"] (spDo K CR CS 5))
    (G6 : Mth P w K mg base CS "answer_drops" 7 ["self", "reader"] (spDo K CR CS 6)) : FnOk P w K mg base CX0 8 f fd ["self", "reader"] (spCall K CR CS) := by
  refine F.ok scAC (fun vs H Q E h => ?_) (fun cdv A outer s H vs Q E hr h => ?_)
  · obtain ⟨_, _, _, _, _, _, _, _, _, rfl, _⟩ := h
    rfl
  · obtain ⟨r, z, a, ka, ns, p, q, key, c, rfl, M, hc, ha, hk, hl, kk⟩ := h
    obtain ⟨t0, k0⟩ := TC.k0
    obtain ⟨t1, k1⟩ := TC.k1
    obtain ⟨t2, k2⟩ := TC.k2
    obtain ⟨t3, k3⟩ := TC.k3
    obtain ⟨t4, k4⟩ := TC.k4
    obtain ⟨t5, k5⟩ := TC.k5
    obtain ⟨t6, k6⟩ := TC.k6
    have hr1 := hr.mono (j := 1) (by decide)
    have hr3 := hr.mono (j := 3) (by decide)
    have hr6 := hr.mono (j := 6) (by decide)
    refine ⟨_, pss_cons (ps_set (i := 2) scAC.nd rfl (Or.inl rfl) (pe_mth0 (pv 1) TR.cl GN hr1))
      (pss_cons (ps_if (pt_cmpR op_eq (pv 2) (pe_gi rfl k0) (nomark _)) (pss_one (ps_ret (pe_mth (pv 0) TS.cl G0 hr3 (pa_cons (pv 1) pa_nil)))) pss_nil)
      (pss_cons (ps_if (pt_cmpR op_eq (pv 2) (pe_gi rfl k1) (nomark _)) (pss_one (ps_ret (pe_mth (pv 0) TS.cl G1 hr6 (pa_cons (pv 1) pa_nil)))) pss_nil)
      (pss_cons (ps_if (pt_cmpR op_eq (pv 2) (pe_gi rfl k2) (nomark _)) (pss_one (ps_ret (pe_mth (pv 0) TS.cl G2 hr (pa_cons (pv 1) pa_nil)))) pss_nil)
      (pss_cons (ps_if (pt_cmpR op_eq (pv 2) (pe_gi rfl k3) (nomark _)) (pss_one (ps_ret (pe_mth (pv 0) TS.cl G3 hr3 (pa_cons (pv 1) pa_nil)))) pss_nil)
      (pss_cons (ps_if (pt_cmpR op_eq (pv 2) (pe_gi rfl k4) (nomark _)) (pss_one (ps_ret (pe_mth (pv 0) TS.cl G4 hr (pa_cons (pv 1) pa_nil)))) pss_nil)
      (pss_cons (ps_if (pt_cmpR op_eq (pv 2) (pe_gi rfl k5) (nomark _)) (pss_one (ps_ret (pe_mth (pv 0) TS.cl G5 hr (pa_cons (pv 1) pa_nil)))) pss_nil)
      (pss_cons (ps_if (pt_cmpR op_eq (pv 2) (pe_gi rfl k6) (nomark _)) (pss_one (ps_ret (pe_mth (pv 0) TS.cl G6 hr (pa_cons (pv 1) pa_nil)))) pss_nil)
      pss_never))))))), ?_⟩
    obtain ⟨dr, hR⟩ := M.rd
    have go : ∀ (t : Int), ns[p]? = some t → ∀ (H1 : Hp), RdAt CR H1 r a (p + 1) → But r H H1 → ∃ dz, H1 z = some (.ins CS dz (sfs ka)) ∧ spDo K CR CS t [.ref z, .ref r] H1 Q E0 := fun t et H1 R1 b1 => by
      have A1 := (At.start M).read R1 b1
      obtain ⟨dz, hz⟩ := A1.m.sl
      refine ⟨dz, hz, r, z, a, ka, ns, p, q, key, c, rfl, A1.m, et, hc, ha, hk, hl, fun H' b kb nb hkb hb M' b2 => ?_⟩
      exact kk H' b kb (A1.free nb) (hkb.imp id fun e => A1.free e) hb M' (A1.b2.trans b2)
    rcases hc.kind with e | e | e | e | e | e | e
    · refine ⟨_, rfl, r, dr, _, rfl, hR, rfs_no a _ (by decide +kernel) (by decide +kernel), r, a, p, ns, 0, rfl, ⟨dr, hR⟩, M.cs, e, fun H1 R1 b1 => ?_⟩
      obtain ⟨dz, hz, w⟩ := go 0 e H1 R1 b1
      refine ⟨_, rfl, rfl, _, rfl, goT (dy 0) ⟨_, rfl, z, dz, _, rfl, hz, sfs_no ka (by decide +kernel), _, rfl, w⟩⟩
    · refine ⟨_, rfl, r, dr, _, rfl, hR, rfs_no a _ (by decide +kernel) (by decide +kernel), r, a, p, ns, 1, rfl, ⟨dr, hR⟩, M.cs, e, fun H1 R1 b1 => ?_⟩
      obtain ⟨dz, hz, w⟩ := go 1 e H1 R1 b1
      refine ⟨_, rfl, rfl, _, rfl, goF (dn (by decide)) ?_⟩
      exact ⟨_, rfl, rfl, _, rfl, goT (dy 1) ⟨_, rfl, z, dz, _, rfl, hz, sfs_no ka (by decide +kernel), _, rfl, w⟩⟩
    · refine ⟨_, rfl, r, dr, _, rfl, hR, rfs_no a _ (by decide +kernel) (by decide +kernel), r, a, p, ns, 2, rfl, ⟨dr, hR⟩, M.cs, e, fun H1 R1 b1 => ?_⟩
      obtain ⟨dz, hz, w⟩ := go 2 e H1 R1 b1
      refine ⟨_, rfl, rfl, _, rfl, goF (dn (by decide)) ?_⟩
      refine ⟨_, rfl, rfl, _, rfl, goF (dn (by decide)) ?_⟩
      exact ⟨_, rfl, rfl, _, rfl, goT (dy 2) ⟨_, rfl, z, dz, _, rfl, hz, sfs_no ka (by decide +kernel), _, rfl, w⟩⟩
    · refine ⟨_, rfl, r, dr, _, rfl, hR, rfs_no a _ (by decide +kernel) (by decide +kernel), r, a, p, ns, 3, rfl, ⟨dr, hR⟩, M.cs, e, fun H1 R1 b1 => ?_⟩
      obtain ⟨dz, hz, w⟩ := go 3 e H1 R1 b1
      refine ⟨_, rfl, rfl, _, rfl, goF (dn (by decide)) ?_⟩
      refine ⟨_, rfl, rfl, _, rfl, goF (dn (by decide)) ?_⟩
      refine ⟨_, rfl, rfl, _, rfl, goF (dn (by decide)) ?_⟩
      exact ⟨_, rfl, rfl, _, rfl, goT (dy 3) ⟨_, rfl, z, dz, _, rfl, hz, sfs_no ka (by decide +kernel), _, rfl, w⟩⟩
    · refine ⟨_, rfl, r, dr, _, rfl, hR, rfs_no a _ (by decide +kernel) (by decide +kernel), r, a, p, ns, 4, rfl, ⟨dr, hR⟩, M.cs, e, fun H1 R1 b1 => ?_⟩
      obtain ⟨dz, hz, w⟩ := go 4 e H1 R1 b1
      refine ⟨_, rfl, rfl, _, rfl, goF (dn (by decide)) ?_⟩
      refine ⟨_, rfl, rfl, _, rfl, goF (dn (by decide)) ?_⟩
      refine ⟨_, rfl, rfl, _, rfl, goF (dn (by decide)) ?_⟩
      refine ⟨_, rfl, rfl, _, rfl, goF (dn (by decide)) ?_⟩
      exact ⟨_, rfl, rfl, _, rfl, goT (dy 4) ⟨_, rfl, z, dz, _, rfl, hz, sfs_no ka (by decide +kernel), _, rfl, w⟩⟩
    · refine ⟨_, rfl, r, dr, _, rfl, hR, rfs_no a _ (by decide +kernel) (by decide +kernel), r, a, p, ns, 5, rfl, ⟨dr, hR⟩, M.cs, e, fun H1 R1 b1 => ?_⟩
      obtain ⟨dz, hz, w⟩ := go 5 e H1 R1 b1
      refine ⟨_, rfl, rfl, _, rfl, goF (dn (by decide)) ?_⟩
      refine ⟨_, rfl, rfl, _, rfl, goF (dn (by decide)) ?_⟩
      refine ⟨_, rfl, rfl, _, rfl, goF (dn (by decide)) ?_⟩
      refine ⟨_, rfl, rfl, _, rfl, goF (dn (by decide)) ?_⟩
      refine ⟨_, rfl, rfl, _, rfl, goF (dn (by decide)) ?_⟩
      exact ⟨_, rfl, rfl, _, rfl, goT (dy 5) ⟨_, rfl, z, dz, _, rfl, hz, sfs_no ka (by decide +kernel), _, rfl, w⟩⟩
    · refine ⟨_, rfl, r, dr, _, rfl, hR, rfs_no a _ (by decide +kernel) (by decide +kernel), r, a, p, ns, 6, rfl, ⟨dr, hR⟩, M.cs, e, fun H1 R1 b1 => ?_⟩
      obtain ⟨dz, hz, w⟩ := go 6 e H1 R1 b1
      refine ⟨_, rfl, rfl, _, rfl, goF (dn (by decide)) ?_⟩
      refine ⟨_, rfl, rfl, _, rfl, goF (dn (by decide)) ?_⟩
      refine ⟨_, rfl, rfl, _, rfl, goF (dn (by decide)) ?_⟩
      refine ⟨_, rfl, rfl, _, rfl, goF (dn (by decide)) ?_⟩
      refine ⟨_, rfl, rfl, _, rfl, goF (dn (by decide)) ?_⟩
      refine ⟨_, rfl, rfl, _, rfl, goF (dn (by decide)) ?_⟩
      exact ⟨_, rfl, rfl, _, rfl, goT (dy 6) ⟨_, rfl, z, dz, _, rfl, hz, sfs_no ka (by decide +kernel), _, rfl, w⟩⟩
end
end Sr

end
section
set_option Elab.async false
set_option linter.all false
set_option maxRecDepth 100000
set_option maxHeartbeats 2000000
namespace Sr
open PySem PySem.Spec PyProof.Rows L2
theorem vals_ints : ∀ (l : List (Nat × Tok)), Vals (vN (l.map (·.1))) (l.map fun x => Value.int (x.1 : Int) x.2)
  | [] => .nil
  | x :: l => .cons ⟨_, rfl⟩ (vals_ints l)
theorem vals_refs : ∀ (l : List Addr), Vals (l.map V.ref) (l.map Value.ref)
  | [] => .nil
  | x :: l => .cons rfl (vals_refs l)
theorem tup_ints {K : PySem.W.Frag} {q : Addr} {d : Option Addr} {n : Nat} {sl : Array (Option Value)} (l : List (Nat × Tok)) (h : K.lookup q = some ⟨.type "tuple", d, .seq (l.map fun x => Value.int (x.1 : Int) x.2).toArray n, sl⟩) (hl : l.length ≤ 1000) (H : Hp) : SqT K H q (vN (l.map (·.1))) :=
  .inr ⟨_, _, n, h, rfl, rfl, by rw [List.size_toArray, List.length_map]; exact Nat.le_trans hl (by decide), vals_ints l⟩
theorem tup_refs {K : PySem.W.Frag} {q : Addr} {d : Option Addr} {n : Nat} {sl : Array (Option Value)} (l : List Addr) (h : K.lookup q = some ⟨.type "tuple", d, .seq (l.map Value.ref).toArray n, sl⟩) (hl : l.length ≤ 1000) (H : Hp) : SqT K H q (l.map V.ref) :=
  .inr ⟨_, _, n, h, rfl, rfl, by rw [List.size_toArray, List.length_map]; exact Nat.le_trans hl (by decide), vals_refs l⟩
theorem con_mk {K : PySem.W.Frag} {q : Addr} {d : Option Addr} {n : Nat} {sl : Array (Option Value)} {t0 t1 t2 t3 : Tok} (h : K.lookup q = some ⟨.type "tuple", d, .seq #[.int 1634760805 t0, .int 857760878 t1, .int 2036477234 t2, .int 1797285236 t3] n, sl⟩) (H : Hp) : SqT K H q (vN [1634760805, 857760878, 2036477234, 1797285236]) :=
  tup_ints [(1634760805, t0), (857760878, t1), (2036477234, t2), (1797285236, t3)] h (by simp) H
theorem four_mk {K : PySem.W.Frag} {q : Addr} {d : Option Addr} {n a b c e : Nat} {sl : Array (Option Value)} {t0 t1 t2 t3 : Tok} (h : K.lookup q = some ⟨.type "tuple", d, .seq #[.int (a : Int) t0, .int (b : Int) t1, .int (c : Int) t2, .int (e : Int) t3] n, sl⟩) (H : Hp) : SqT K H q (vN [a, b, c, e]) :=
  tup_ints [(a, t0), (b, t1), (c, t2), (e, t3)] h (by simp) H
end Sr

end
section
set_option Elab.async false
set_option linter.all false
set_option maxRecDepth 100000
set_option maxHeartbeats 2000000
/-! What the top has written. -/
namespace Sr
open PySem PySem.Spec PyProof.Rows L2
theorem qua_at {K : PySem.W.Frag} {r0 r1 r2 r3 r4 r5 r6 r7 : Addr} (h0 : ∀ H : Hp, SqT K H r0 (vN [0, 4, 8, 12])) (h1 : ∀ H : Hp, SqT K H r1 (vN [1, 5, 9, 13])) (h2 : ∀ H : Hp, SqT K H r2 (vN [2, 6, 10, 14])) (h3 : ∀ H : Hp, SqT K H r3 (vN [3, 7, 11, 15]))
    (h4 : ∀ H : Hp, SqT K H r4 (vN [0, 5, 10, 15])) (h5 : ∀ H : Hp, SqT K H r5 (vN [1, 6, 11, 12])) (h6 : ∀ H : Hp, SqT K H r6 (vN [2, 7, 8, 13])) (h7 : ∀ H : Hp, SqT K H r7 (vN [3, 4, 9, 14])) (i : Nat) (r : Addr) (h : [r0, r1, r2, r3, r4, r5, r6, r7][i]? = some r) :
    ∃ x, Ql09.ROUNDS[i]? = some x ∧ ∀ H : Hp, SqT K H r (vN [x.1, x.2.1, x.2.2.1, x.2.2.2]) := by
  match i, h with
  | 0, h => cases h; exact ⟨_, rfl, h0⟩
  | 1, h => cases h; exact ⟨_, rfl, h1⟩
  | 2, h => cases h; exact ⟨_, rfl, h2⟩
  | 3, h => cases h; exact ⟨_, rfl, h3⟩
  | 4, h => cases h; exact ⟨_, rfl, h4⟩
  | 5, h => cases h; exact ⟨_, rfl, h5⟩
  | 6, h => cases h; exact ⟨_, rfl, h6⟩
  | 7, h => cases h; exact ⟨_, rfl, h7⟩
  | n + 8, h => cases h
theorem all_mk {P : Program} {w : World} {K : PySem.W.Frag} {h : Heap} {mg : Str → Option Value}
    {fa CR CP CS qc qq fnum fbyt fwds frot fmix fqua fmxd fblk fstr fmrk fdrp ffil fsmk fans fri fre frn frr fpi fpl fsi ftk fab fas fam fae fao fad fac r0 r1 r2 r3 r4 r5 r6 r7 : Addr}
    {odnum annum odbyt anbyt odwds anwds odrot anrot odmix anmix odqua anqua odmxd anmxd odblk anblk odstr anstr odmrk anmrk oddrp andrp odfil anfil odsmk ansmk odans anans odri anri odre anre odrn anrn odrr anrr odpi anpi odpl anpl odsi ansi odtk antk odab anab odas anas odam anam odae anae odao anao odad anad odac anac dc dq dq0 dq1 dq2 dq3 dq4 dq5 dq6 dq7 : Option Addr}
    {slnum slbyt slwds slrot slmix slqua slmxd slblk slstr slmrk sldrp slfil slsmk slans slri slre slrn slrr slpi slpl slsi sltk slab slas slam slae slao slad slac sc sq sq0 sq1 sq2 sq3 sq4 sq5 sq6 sq7 : Array (Option Value)}
    {ocnum kVnum dcnum pmnum cdnum ctnum ocbyt kVbyt dcbyt pmbyt cdbyt ctbyt ocwds kVwds dcwds pmwds cdwds ctwds ocrot kVrot dcrot pmrot cdrot ctrot ocmix kVmix dcmix pmmix cdmix ctmix ocqua kVqua dcqua pmqua cdqua ctqua ocmxd kVmxd dcmxd pmmxd cdmxd ctmxd ocblk kVblk dcblk pmblk cdblk ctblk ocstr kVstr dcstr pmstr cdstr ctstr ocmrk kVmrk dcmrk pmmrk cdmrk ctmrk ocdrp kVdrp dcdrp pmdrp cddrp ctdrp ocfil kVfil dcfil pmfil cdfil ctfil ocsmk kVsmk dcsmk pmsmk cdsmk ctsmk ocans kVans dcans pmans cdans ctans ocri kVri dcri pmri cdri ctri ocre kVre dcre pmre cdre ctre ocrn kVrn dcrn pmrn cdrn ctrn ocrr kVrr dcrr pmrr cdrr ctrr ocpi kVpi dcpi pmpi cdpi ctpi ocpl kVpl dcpl pmpl cdpl ctpl ocsi kVsi dcsi pmsi cdsi ctsi octk kVtk dctk pmtk cdtk cttk ocab kVab dcab pmab cdab ctab ocas kVas dcas pmas cdas ctas ocam kVam dcam pmam cdam ctam ocae kVae dcae pmae cdae ctae ocao kVao dcao pmao cdao ctao ocad kVad dcad pmad cdad ctad ocac kVac dcac pmac cdac ctac : Value}
    {nc nq nq0 nq1 nq2 nq3 nq4 nq5 nq6 nq7 : Nat}
    {twb tbb tmb twm tdr tpr tfm trf tmo tob tkb tlb tmc tms tmd tk0 tk1 tk2 tk3 tk4 tk5 tk6 tc0 tc1 tc2 tc3 tq00 tq01 tq02 tq03 tq10 tq11 tq12 tq13 tq20 tq21 tq22 tq23 tq30 tq31 tq32 tq33 tq40 tq41 tq42 tq43 tq50 tq51 tq52 tq53 tq60 tq61 tq62 tq63 tq70 tq71 tq72 tq73 : Tok}
    (X : K.In h) (G : h.Ns mainGlobals mg) (hfa : mg "answers" = some (.ref fa))
    (aCR : PySem.W.nsIn K mainGlobals "Reader" = some (some (.ref CR)))
    (pgR : PySem.W.plainGet K CR Str.empty = true)
    (hdR : PySem.W.hasDictIn K CR = true)
    (poR : PySem.W.plainOver K CR = true)
    (saR : PySem.W.findIn K (.ref CR) "__setattr__" = some (some (.builtin "object.__setattr__")))
    (mkR : PySem.W.makesIn K CR = true)
    (kcR : PySem.W.keepIn K (.ref CR) = true)
    (nFRcalls : PySem.W.findIn K (.ref CR) "calls" = some none)
    (nFRplace : PySem.W.findIn K (.ref CR) "place" = some none)
    (aCP : PySem.W.nsIn K mainGlobals "Parcel" = some (some (.ref CP)))
    (pgP : PySem.W.plainGet K CP Str.empty = true)
    (hdP : PySem.W.hasDictIn K CP = true)
    (poP : PySem.W.plainOver K CP = true)
    (saP : PySem.W.findIn K (.ref CP) "__setattr__" = some (some (.builtin "object.__setattr__")))
    (mkP : PySem.W.makesIn K CP = true)
    (kcP : PySem.W.keepIn K (.ref CP) = true)
    (nFPs : PySem.W.findIn K (.ref CP) "s" = some none)
    (nFPn : PySem.W.findIn K (.ref CP) "n" = some none)
    (nFPonce : PySem.W.findIn K (.ref CP) "once" = some none)
    (nFPseen : PySem.W.findIn K (.ref CP) "seen" = some none)
    (nFPdata : PySem.W.findIn K (.ref CP) "data" = some none)
    (aCS : PySem.W.nsIn K mainGlobals "Sealer" = some (some (.ref CS)))
    (pgS : PySem.W.plainGet K CS Str.empty = true)
    (hdS : PySem.W.hasDictIn K CS = true)
    (poS : PySem.W.plainOver K CS = true)
    (saS : PySem.W.findIn K (.ref CS) "__setattr__" = some (some (.builtin "object.__setattr__")))
    (mkS : PySem.W.makesIn K CS = true)
    (kcS : PySem.W.keepIn K (.ref CS) = true)
    (nFSkey : PySem.W.findIn K (.ref CS) "key" = some none)
    (anum : PySem.W.nsIn K mainGlobals "number_from" = some (some (.ref fnum)))
    (lnum : K.lookup fnum = some ⟨ocnum, odnum, .func (PySem.W.fnOf "number_from" "number_from" (defArgs sNum) (defBody sNum) (defScope sNum) .none kVnum dcnum pmnum annum cdnum ctnum), slnum⟩)
    (cnum : PySem.W.codeIn K cdnum "number_from" = true)
    (kpnum : PySem.W.keepIn K (.ref fnum) = true)
    (abyt : PySem.W.nsIn K mainGlobals "bytes_from" = some (some (.ref fbyt)))
    (lbyt : K.lookup fbyt = some ⟨ocbyt, odbyt, .func (PySem.W.fnOf "bytes_from" "bytes_from" (defArgs sByt) (defBody sByt) (defScope sByt) .none kVbyt dcbyt pmbyt anbyt cdbyt ctbyt), slbyt⟩)
    (cbyt : PySem.W.codeIn K cdbyt "bytes_from" = true)
    (kpbyt : PySem.W.keepIn K (.ref fbyt) = true)
    (awds : PySem.W.nsIn K mainGlobals "words_from" = some (some (.ref fwds)))
    (lwds : K.lookup fwds = some ⟨ocwds, odwds, .func (PySem.W.fnOf "words_from" "words_from" (defArgs sWds) (defBody sWds) (defScope sWds) .none kVwds dcwds pmwds anwds cdwds ctwds), slwds⟩)
    (cwds : PySem.W.codeIn K cdwds "words_from" = true)
    (kpwds : PySem.W.keepIn K (.ref fwds) = true)
    (arot : PySem.W.nsIn K mainGlobals "rotate_left" = some (some (.ref frot)))
    (lrot : K.lookup frot = some ⟨ocrot, odrot, .func (PySem.W.fnOf "rotate_left" "rotate_left" (defArgs sRot) (defBody sRot) (defScope sRot) .none kVrot dcrot pmrot anrot cdrot ctrot), slrot⟩)
    (crot : PySem.W.codeIn K cdrot "rotate_left" = true)
    (kprot : PySem.W.keepIn K (.ref frot) = true)
    (amix : PySem.W.nsIn K mainGlobals "mix_pair" = some (some (.ref fmix)))
    (lmix : K.lookup fmix = some ⟨ocmix, odmix, .func (PySem.W.fnOf "mix_pair" "mix_pair" (defArgs sMix) (defBody sMix) (defScope sMix) .none kVmix dcmix pmmix anmix cdmix ctmix), slmix⟩)
    (cmix : PySem.W.codeIn K cdmix "mix_pair" = true)
    (kpmix : PySem.W.keepIn K (.ref fmix) = true)
    (aqua : PySem.W.nsIn K mainGlobals "quarter_round" = some (some (.ref fqua)))
    (lqua : K.lookup fqua = some ⟨ocqua, odqua, .func (PySem.W.fnOf "quarter_round" "quarter_round" (defArgs sQua) (defBody sQua) (defScope sQua) .none kVqua dcqua pmqua anqua cdqua ctqua), slqua⟩)
    (cqua : PySem.W.codeIn K cdqua "quarter_round" = true)
    (kpqua : PySem.W.keepIn K (.ref fqua) = true)
    (amxd : PySem.W.nsIn K mainGlobals "mixed_state" = some (some (.ref fmxd)))
    (lmxd : K.lookup fmxd = some ⟨ocmxd, odmxd, .func (PySem.W.fnOf "mixed_state" "mixed_state" (defArgs sMxd) (defBody sMxd) (defScope sMxd) .none kVmxd dcmxd pmmxd anmxd cdmxd ctmxd), slmxd⟩)
    (cmxd : PySem.W.codeIn K cdmxd "mixed_state" = true)
    (kpmxd : PySem.W.keepIn K (.ref fmxd) = true)
    (ablk : PySem.W.nsIn K mainGlobals "make_block" = some (some (.ref fblk)))
    (lblk : K.lookup fblk = some ⟨ocblk, odblk, .func (PySem.W.fnOf "make_block" "make_block" (defArgs sBlk) (defBody sBlk) (defScope sBlk) .none kVblk dcblk pmblk anblk cdblk ctblk), slblk⟩)
    (cblk : PySem.W.codeIn K cdblk "make_block" = true)
    (kpblk : PySem.W.keepIn K (.ref fblk) = true)
    (astr : PySem.W.nsIn K mainGlobals "make_stream" = some (some (.ref fstr)))
    (lstr : K.lookup fstr = some ⟨ocstr, odstr, .func (PySem.W.fnOf "make_stream" "make_stream" (defArgs sStr) (defBody sStr) (defScope sStr) .none kVstr dcstr pmstr anstr cdstr ctstr), slstr⟩)
    (cstr : PySem.W.codeIn K cdstr "make_stream" = true)
    (kpstr : PySem.W.keepIn K (.ref fstr) = true)
    (amrk : PySem.W.nsIn K mainGlobals "make_mark" = some (some (.ref fmrk)))
    (lmrk : K.lookup fmrk = some ⟨ocmrk, odmrk, .func (PySem.W.fnOf "make_mark" "make_mark" (defArgs sMrk) (defBody sMrk) (defScope sMrk) .none kVmrk dcmrk pmmrk anmrk cdmrk ctmrk), slmrk⟩)
    (cmrk : PySem.W.codeIn K cdmrk "make_mark" = true)
    (kpmrk : PySem.W.keepIn K (.ref fmrk) = true)
    (adrp : PySem.W.nsIn K mainGlobals "make_drops" = some (some (.ref fdrp)))
    (ldrp : K.lookup fdrp = some ⟨ocdrp, oddrp, .func (PySem.W.fnOf "make_drops" "make_drops" (defArgs sDrp) (defBody sDrp) (defScope sDrp) .none kVdrp dcdrp pmdrp andrp cddrp ctdrp), sldrp⟩)
    (cdrp : PySem.W.codeIn K cddrp "make_drops" = true)
    (kpdrp : PySem.W.keepIn K (.ref fdrp) = true)
    (afil : PySem.W.nsIn K mainGlobals "fill_up" = some (some (.ref ffil)))
    (lfil : K.lookup ffil = some ⟨ocfil, odfil, .func (PySem.W.fnOf "fill_up" "fill_up" (defArgs sFil) (defBody sFil) (defScope sFil) .none kVfil dcfil pmfil anfil cdfil ctfil), slfil⟩)
    (cfil : PySem.W.codeIn K cdfil "fill_up" = true)
    (kpfil : PySem.W.keepIn K (.ref ffil) = true)
    (asmk : PySem.W.nsIn K mainGlobals "make_seal_mark" = some (some (.ref fsmk)))
    (lsmk : K.lookup fsmk = some ⟨ocsmk, odsmk, .func (PySem.W.fnOf "make_seal_mark" "make_seal_mark" (defArgs sSmk) (defBody sSmk) (defScope sSmk) .none kVsmk dcsmk pmsmk ansmk cdsmk ctsmk), slsmk⟩)
    (csmk : PySem.W.codeIn K cdsmk "make_seal_mark" = true)
    (kpsmk : PySem.W.keepIn K (.ref fsmk) = true)
    (aans : PySem.W.nsIn K mainGlobals "answers" = some (some (.ref fans)))
    (lans : K.lookup fans = some ⟨ocans, odans, .func (PySem.W.fnOf "answers" "answers" (defArgs sAns) (defBody sAns) (defScope sAns) .none kVans dcans pmans anans cdans ctans), slans⟩)
    (cans : PySem.W.codeIn K cdans "answers" = true)
    (kpans : PySem.W.keepIn K (.ref fans) = true)
    (ari : PySem.W.findIn K (.ref CR) "__init__" = some (some (.ref fri)))
    (iri : PySem.W.isFn K (.ref fri) = true)
    (lri : K.lookup fri = some ⟨ocri, odri, .func (PySem.W.fnOf "__init__" "Reader.__init__" (defArgs sRI) (defBody sRI) (defScope sRI) .none kVri dcri pmri anri cdri ctri), slri⟩)
    (cri : PySem.W.codeIn K cdri "Reader.__init__" = true)
    (kpri : PySem.W.keepIn K (.ref fri) = true)
    (are : PySem.W.findIn K (.ref CR) "at_end" = some (some (.ref fre)))
    (ire : PySem.W.isFn K (.ref fre) = true)
    (lre : K.lookup fre = some ⟨ocre, odre, .func (PySem.W.fnOf "at_end" "Reader.at_end" (defArgs sRE) (defBody sRE) (defScope sRE) .none kVre dcre pmre anre cdre ctre), slre⟩)
    (cre : PySem.W.codeIn K cdre "Reader.at_end" = true)
    (kpre : PySem.W.keepIn K (.ref fre) = true)
    (arn : PySem.W.findIn K (.ref CR) "read_number" = some (some (.ref frn)))
    (irn : PySem.W.isFn K (.ref frn) = true)
    (lrn : K.lookup frn = some ⟨ocrn, odrn, .func (PySem.W.fnOf "read_number" "Reader.read_number" (defArgs sRN) (defBody sRN) (defScope sRN) .none kVrn dcrn pmrn anrn cdrn ctrn), slrn⟩)
    (crn : PySem.W.codeIn K cdrn "Reader.read_number" = true)
    (kprn : PySem.W.keepIn K (.ref frn) = true)
    (arr : PySem.W.findIn K (.ref CR) "read_row" = some (some (.ref frr)))
    (irr : PySem.W.isFn K (.ref frr) = true)
    (lrr : K.lookup frr = some ⟨ocrr, odrr, .func (PySem.W.fnOf "read_row" "Reader.read_row" (defArgs sRR) (defBody sRR) (defScope sRR) .none kVrr dcrr pmrr anrr cdrr ctrr), slrr⟩)
    (crr : PySem.W.codeIn K cdrr "Reader.read_row" = true)
    (kprr : PySem.W.keepIn K (.ref frr) = true)
    (api : PySem.W.findIn K (.ref CP) "__init__" = some (some (.ref fpi)))
    (ipi : PySem.W.isFn K (.ref fpi) = true)
    (lpi : K.lookup fpi = some ⟨ocpi, odpi, .func (PySem.W.fnOf "__init__" "Parcel.__init__" (defArgs sPI) (defBody sPI) (defScope sPI) .none kVpi dcpi pmpi anpi cdpi ctpi), slpi⟩)
    (cpi : PySem.W.codeIn K cdpi "Parcel.__init__" = true)
    (kppi : PySem.W.keepIn K (.ref fpi) = true)
    (apl : PySem.W.findIn K (.ref CP) "is_too_long" = some (some (.ref fpl)))
    (ipl : PySem.W.isFn K (.ref fpl) = true)
    (lpl : K.lookup fpl = some ⟨ocpl, odpl, .func (PySem.W.fnOf "is_too_long" "Parcel.is_too_long" (defArgs sPL) (defBody sPL) (defScope sPL) .none kVpl dcpl pmpl anpl cdpl ctpl), slpl⟩)
    (cpl : PySem.W.codeIn K cdpl "Parcel.is_too_long" = true)
    (kppl : PySem.W.keepIn K (.ref fpl) = true)
    (asi : PySem.W.findIn K (.ref CS) "__init__" = some (some (.ref fsi)))
    (isi : PySem.W.isFn K (.ref fsi) = true)
    (lsi : K.lookup fsi = some ⟨ocsi, odsi, .func (PySem.W.fnOf "__init__" "Sealer.__init__" (defArgs sSI) (defBody sSI) (defScope sSI) .none kVsi dcsi pmsi ansi cdsi ctsi), slsi⟩)
    (csi : PySem.W.codeIn K cdsi "Sealer.__init__" = true)
    (kpsi : PySem.W.keepIn K (.ref fsi) = true)
    (atk : PySem.W.findIn K (.ref CS) "take_key" = some (some (.ref ftk)))
    (itk : PySem.W.isFn K (.ref ftk) = true)
    (ltk : K.lookup ftk = some ⟨octk, odtk, .func (PySem.W.fnOf "take_key" "Sealer.take_key" (defArgs sTK) (defBody sTK) (defScope sTK) .none kVtk dctk pmtk antk cdtk cttk), sltk⟩)
    (ctk : PySem.W.codeIn K cdtk "Sealer.take_key" = true)
    (kptk : PySem.W.keepIn K (.ref ftk) = true)
    (aab : PySem.W.findIn K (.ref CS) "answer_block" = some (some (.ref fab)))
    (iab : PySem.W.isFn K (.ref fab) = true)
    (lab : K.lookup fab = some ⟨ocab, odab, .func (PySem.W.fnOf "answer_block" "Sealer.answer_block" (defArgs sAB) (defBody sAB) (defScope sAB) .none kVab dcab pmab anab cdab ctab), slab⟩)
    (cab : PySem.W.codeIn K cdab "Sealer.answer_block" = true)
    (kpab : PySem.W.keepIn K (.ref fab) = true)
    (aas : PySem.W.findIn K (.ref CS) "answer_stream" = some (some (.ref fas)))
    (ias : PySem.W.isFn K (.ref fas) = true)
    (las : K.lookup fas = some ⟨ocas, odas, .func (PySem.W.fnOf "answer_stream" "Sealer.answer_stream" (defArgs sAS) (defBody sAS) (defScope sAS) .none kVas dcas pmas anas cdas ctas), slas⟩)
    (cas : PySem.W.codeIn K cdas "Sealer.answer_stream" = true)
    (kpas : PySem.W.keepIn K (.ref fas) = true)
    (aam : PySem.W.findIn K (.ref CS) "answer_mark" = some (some (.ref fam)))
    (iam : PySem.W.isFn K (.ref fam) = true)
    (lam : K.lookup fam = some ⟨ocam, odam, .func (PySem.W.fnOf "answer_mark" "Sealer.answer_mark" (defArgs sAM) (defBody sAM) (defScope sAM) .none kVam dcam pmam anam cdam ctam), slam⟩)
    (cam : PySem.W.codeIn K cdam "Sealer.answer_mark" = true)
    (kpam : PySem.W.keepIn K (.ref fam) = true)
    (aae : PySem.W.findIn K (.ref CS) "answer_seal" = some (some (.ref fae)))
    (iae : PySem.W.isFn K (.ref fae) = true)
    (lae : K.lookup fae = some ⟨ocae, odae, .func (PySem.W.fnOf "answer_seal" "Sealer.answer_seal" (defArgs sAE) (defBody sAE) (defScope sAE) .none kVae dcae pmae anae cdae ctae), slae⟩)
    (cae : PySem.W.codeIn K cdae "Sealer.answer_seal" = true)
    (kpae : PySem.W.keepIn K (.ref fae) = true)
    (aao : PySem.W.findIn K (.ref CS) "answer_open" = some (some (.ref fao)))
    (iao : PySem.W.isFn K (.ref fao) = true)
    (lao : K.lookup fao = some ⟨ocao, odao, .func (PySem.W.fnOf "answer_open" "Sealer.answer_open" (defArgs sAO) (defBody sAO) (defScope sAO) .none kVao dcao pmao anao cdao ctao), slao⟩)
    (cao : PySem.W.codeIn K cdao "Sealer.answer_open" = true)
    (kpao : PySem.W.keepIn K (.ref fao) = true)
    (aad : PySem.W.findIn K (.ref CS) "answer_drops" = some (some (.ref fad)))
    (iad : PySem.W.isFn K (.ref fad) = true)
    (lad : K.lookup fad = some ⟨ocad, odad, .func (PySem.W.fnOf "answer_drops" "Sealer.answer_drops" (defArgs sAD) (defBody sAD) (defScope sAD) .none kVad dcad pmad anad cdad ctad), slad⟩)
    (cad : PySem.W.codeIn K cdad "Sealer.answer_drops" = true)
    (kpad : PySem.W.keepIn K (.ref fad) = true)
    (aac : PySem.W.findIn K (.ref CS) "answer_call" = some (some (.ref fac)))
    (iac : PySem.W.isFn K (.ref fac) = true)
    (lac : K.lookup fac = some ⟨ocac, odac, .func (PySem.W.fnOf "answer_call" "Sealer.answer_call" (defArgs sAC) (defBody sAC) (defScope sAC) .none kVac dcac pmac anac cdac ctac), slac⟩)
    (cac : PySem.W.codeIn K cdac "Sealer.answer_call" = true)
    (kpac : PySem.W.keepIn K (.ref fac) = true)
    (gwb : PySem.W.nsIn K mainGlobals "WORD_BYTES" = some (some (.int 4 twb)))
    (gbb : PySem.W.nsIn K mainGlobals "BLOCK_BYTES" = some (some (.int 64 tbb)))
    (gmb : PySem.W.nsIn K mainGlobals "MARK_BYTES" = some (some (.int 16 tmb)))
    (gwm : PySem.W.nsIn K mainGlobals "WORD_MASK" = some (some (.int 4294967295 twm)))
    (gdr : PySem.W.nsIn K mainGlobals "DOUBLE_ROUNDS" = some (some (.int 10 tdr)))
    (gpr : PySem.W.nsIn K mainGlobals "PRIME" = some (some (.int 1361129467683753853853498429727072845819 tpr)))
    (gfm : PySem.W.nsIn K mainGlobals "FACTOR_MASK" = some (some (.int 21267647620597763993911028882763415551 tfm)))
    (grf : PySem.W.nsIn K mainGlobals "REFUSED" = some (some (.int (-2) trf)))
    (gmo : PySem.W.nsIn K mainGlobals "MOST_BYTES" = some (some (.int 65536 tmo)))
    (gob : PySem.W.nsIn K mainGlobals "ONCE_BYTES" = some (some (.int 12 tob)))
    (gkb : PySem.W.nsIn K mainGlobals "KEY_BYTES" = some (some (.int 32 tkb)))
    (glb : PySem.W.nsIn K mainGlobals "LENGTH_BYTES" = some (some (.int 8 tlb)))
    (gmc : PySem.W.nsIn K mainGlobals "MARK_COUNTER" = some (some (.int 0 tmc)))
    (gms : PySem.W.nsIn K mainGlobals "MESSAGE_COUNTER" = some (some (.int 1 tms)))
    (gmd : PySem.W.nsIn K mainGlobals "MOST_DROPS" = some (some (.int 16 tmd)))
    (gk0 : PySem.W.nsIn K mainGlobals "CALL_KEY" = some (some (.int 0 tk0)))
    (gk1 : PySem.W.nsIn K mainGlobals "CALL_BLOCK" = some (some (.int 1 tk1)))
    (gk2 : PySem.W.nsIn K mainGlobals "CALL_STREAM" = some (some (.int 2 tk2)))
    (gk3 : PySem.W.nsIn K mainGlobals "CALL_MARK" = some (some (.int 3 tk3)))
    (gk4 : PySem.W.nsIn K mainGlobals "CALL_SEAL" = some (some (.int 4 tk4)))
    (gk5 : PySem.W.nsIn K mainGlobals "CALL_OPEN" = some (some (.int 5 tk5)))
    (gk6 : PySem.W.nsIn K mainGlobals "CALL_DROPS" = some (some (.int 6 tk6)))
    (orng : PySem.W.nsIn K mainGlobals "range" = some none)
    (olen : PySem.W.nsIn K mainGlobals "len" = some none)
    (orev : PySem.W.nsIn K mainGlobals "reversed" = some none)
    (ozip : PySem.W.nsIn K mainGlobals "zip" = some none)
    (olst : PySem.W.nsIn K mainGlobals "list" = some none)
    (oenu : PySem.W.nsIn K mainGlobals "enumerate" = some none)
    (aCon : PySem.W.nsIn K mainGlobals "CONSTANTS" = some (some (.ref qc)))
    (lCon : K.lookup qc = some ⟨.type "tuple", dc, .seq #[.int 1634760805 tc0, .int 857760878 tc1, .int 2036477234 tc2, .int 1797285236 tc3] nc, sc⟩)
    (aQua : PySem.W.nsIn K mainGlobals "QUARTERS" = some (some (.ref qq)))
    (lQua : K.lookup qq = some ⟨.type "tuple", dq, .seq #[.ref r0, .ref r1, .ref r2, .ref r3, .ref r4, .ref r5, .ref r6, .ref r7] nq, sq⟩)
    (lR0 : K.lookup r0 = some ⟨.type "tuple", dq0, .seq #[.int 0 tq00, .int 4 tq01, .int 8 tq02, .int 12 tq03] nq0, sq0⟩)
    (lR1 : K.lookup r1 = some ⟨.type "tuple", dq1, .seq #[.int 1 tq10, .int 5 tq11, .int 9 tq12, .int 13 tq13] nq1, sq1⟩)
    (lR2 : K.lookup r2 = some ⟨.type "tuple", dq2, .seq #[.int 2 tq20, .int 6 tq21, .int 10 tq22, .int 14 tq23] nq2, sq2⟩)
    (lR3 : K.lookup r3 = some ⟨.type "tuple", dq3, .seq #[.int 3 tq30, .int 7 tq31, .int 11 tq32, .int 15 tq33] nq3, sq3⟩)
    (lR4 : K.lookup r4 = some ⟨.type "tuple", dq4, .seq #[.int 0 tq40, .int 5 tq41, .int 10 tq42, .int 15 tq43] nq4, sq4⟩)
    (lR5 : K.lookup r5 = some ⟨.type "tuple", dq5, .seq #[.int 1 tq50, .int 6 tq51, .int 11 tq52, .int 12 tq53] nq5, sq5⟩)
    (lR6 : K.lookup r6 = some ⟨.type "tuple", dq6, .seq #[.int 2 tq60, .int 7 tq61, .int 8 tq62, .int 13 tq63] nq6, sq6⟩)
    (lR7 : K.lookup r7 = some ⟨.type "tuple", dq7, .seq #[.int 3 tq70, .int 4 tq71, .int 9 tq72, .int 14 tq73] nq7, sq7⟩)
    : ∃ fd : FuncData, (∀ (s : Shared) (us : List Value), us.length = (["calls"] : List Str).length → BindsTo s fd ⟨us, []⟩ ((["calls"] : List Str).zip us)) ∧ ∀ base : Heap, K.In base → base.Ns mainGlobals mg → FnOk P w K mg base CX0 9 fa fd ["calls"] (spAns K) := by
  have e := hfa.symm.trans (PySem.W.mg_of X G aans)
  cases e
  have hcon : ∃ q, mg "CONSTANTS" = some (.ref q) ∧ ∀ H : Hp, SqT K H q (vN [1634760805, 857760878, 2036477234, 1797285236]) := ⟨qc, PySem.W.mg_of X G aCon, con_mk lCon⟩
  have hqua : ∃ (q : Addr) (rs : List Addr), mg "QUARTERS" = some (.ref q) ∧ rs.length = 8 ∧ (∀ H : Hp, SqT K H q (rs.map V.ref)) ∧ ∀ (i : Nat) (r : Addr), rs[i]? = some r → ∃ x, Ql09.ROUNDS[i]? = some x ∧ ∀ H : Hp, SqT K H r (vN [x.1, x.2.1, x.2.2.1, x.2.2.2]) := ⟨qq, [r0, r1, r2, r3, r4, r5, r6, r7], PySem.W.mg_of X G aQua, rfl, tup_refs [r0, r1, r2, r3, r4, r5, r6, r7] lQua (by simp), qua_at (four_mk (a := 0) (b := 4) (c := 8) (e := 12) lR0) (four_mk (a := 1) (b := 5) (c := 9) (e := 13) lR1) (four_mk (a := 2) (b := 6) (c := 10) (e := 14) lR2) (four_mk (a := 3) (b := 7) (c := 11) (e := 15) lR3) (four_mk (a := 0) (b := 5) (c := 10) (e := 15) lR4) (four_mk (a := 1) (b := 6) (c := 11) (e := 12) lR5) (four_mk (a := 2) (b := 7) (c := 8) (e := 13) lR6) (four_mk (a := 3) (b := 4) (c := 9) (e := 14) lR7)⟩
  have T : Txt K mg := ⟨PySem.W.mg_none_of X G orng, PySem.W.mg_none_of X G olen, PySem.W.mg_none_of X G orev, PySem.W.mg_none_of X G ozip, PySem.W.mg_none_of X G olst, ⟨twb, PySem.W.mg_of X G gwb⟩, ⟨tbb, PySem.W.mg_of X G gbb⟩, ⟨tmb, PySem.W.mg_of X G gmb⟩, ⟨twm, PySem.W.mg_of X G gwm⟩, ⟨tdr, PySem.W.mg_of X G gdr⟩, ⟨tpr, PySem.W.mg_of X G gpr⟩, ⟨tfm, PySem.W.mg_of X G gfm⟩, ⟨trf, PySem.W.mg_of X G grf⟩, ⟨tmo, PySem.W.mg_of X G gmo⟩, hcon, hqua⟩
  have TD : TxtD mg := ⟨PySem.W.mg_none_of X G oenu, ⟨tob, PySem.W.mg_of X G gob⟩, ⟨tkb, PySem.W.mg_of X G gkb⟩, ⟨tlb, PySem.W.mg_of X G glb⟩, ⟨tmc, PySem.W.mg_of X G gmc⟩⟩
  have TC : TxtC mg := ⟨⟨tms, PySem.W.mg_of X G gms⟩, ⟨tmd, PySem.W.mg_of X G gmd⟩, ⟨tk0, PySem.W.mg_of X G gk0⟩, ⟨tk1, PySem.W.mg_of X G gk1⟩, ⟨tk2, PySem.W.mg_of X G gk2⟩, ⟨tk3, PySem.W.mg_of X G gk3⟩, ⟨tk4, PySem.W.mg_of X G gk4⟩, ⟨tk5, PySem.W.mg_of X G gk5⟩, ⟨tk6, PySem.W.mg_of X G gk6⟩⟩
  have TR : TxtR K CR := ⟨⟨pgR, hdR, poR, saR⟩, nFRcalls, nFRplace⟩
  have hR := PySem.W.mg_of X G aCR
  have TP : TxtP K CP := ⟨⟨pgP, hdP, poP, saP⟩, nFPs, nFPn, nFPonce, nFPseen, nFPdata⟩
  have hP := PySem.W.mg_of X G aCP
  have TS : TxtS K CS := ⟨⟨pgS, hdS, poS, saS⟩, nFSkey⟩
  have hS := PySem.W.mg_of X G aCS
  have Fnum := fun_mk (st := sNum) lnum cnum kpnum
  have Bnum := Fnum.binds (ps := ["row"]) fun _ _ _ _ _ _ us hl => match us, hl with | [_], _ => rfl
  have Fbyt := fun_mk (st := sByt) lbyt cbyt kpbyt
  have Bbyt := Fbyt.binds (ps := ["number", "many"]) fun _ _ _ _ _ _ us hl => match us, hl with | [_, _], _ => rfl
  have Fwds := fun_mk (st := sWds) lwds cwds kpwds
  have Bwds := Fwds.binds (ps := ["row"]) fun _ _ _ _ _ _ us hl => match us, hl with | [_], _ => rfl
  have Frot := fun_mk (st := sRot) lrot crot kprot
  have Brot := Frot.binds (ps := ["word", "bits"]) fun _ _ _ _ _ _ us hl => match us, hl with | [_, _], _ => rfl
  have Fmix := fun_mk (st := sMix) lmix cmix kpmix
  have Bmix := Fmix.binds (ps := ["state", "target", "added", "turned", "bits"]) fun _ _ _ _ _ _ us hl => match us, hl with | [_, _, _, _, _], _ => rfl
  have Fqua := fun_mk (st := sQua) lqua cqua kpqua
  have Bqua := Fqua.binds (ps := ["state", "a", "b", "c", "d"]) fun _ _ _ _ _ _ us hl => match us, hl with | [_, _, _, _, _], _ => rfl
  have Fmxd := fun_mk (st := sMxd) lmxd cmxd kpmxd
  have Bmxd := Fmxd.binds (ps := ["first"]) fun _ _ _ _ _ _ us hl => match us, hl with | [_], _ => rfl
  have Fblk := fun_mk (st := sBlk) lblk cblk kpblk
  have Bblk := Fblk.binds (ps := ["key", "once", "counter"]) fun _ _ _ _ _ _ us hl => match us, hl with | [_, _, _], _ => rfl
  have Fstr := fun_mk (st := sStr) lstr cstr kpstr
  have Bstr := Fstr.binds (ps := ["key", "once", "counter", "data"]) fun _ _ _ _ _ _ us hl => match us, hl with | [_, _, _, _], _ => rfl
  have Fmrk := fun_mk (st := sMrk) lmrk cmrk kpmrk
  have Bmrk := Fmrk.binds (ps := ["key", "row"]) fun _ _ _ _ _ _ us hl => match us, hl with | [_, _], _ => rfl
  have Fdrp := fun_mk (st := sDrp) ldrp cdrp kpdrp
  have Bdrp := Fdrp.binds (ps := ["key", "once", "counters"]) fun _ _ _ _ _ _ us hl => match us, hl with | [_, _, _], _ => rfl
  have Ffil := fun_mk (st := sFil) lfil cfil kpfil
  have Bfil := Ffil.binds (ps := ["row"]) fun _ _ _ _ _ _ us hl => match us, hl with | [_], _ => rfl
  have Fsmk := fun_mk (st := sSmk) lsmk csmk kpsmk
  have Bsmk := Fsmk.binds (ps := ["key", "once", "seen", "sealed"]) fun _ _ _ _ _ _ us hl => match us, hl with | [_, _, _, _], _ => rfl
  have Fans := fun_mk (st := sAns) lans cans kpans
  have Bans := Fans.binds (ps := ["calls"]) fun _ _ _ _ _ _ us hl => match us, hl with | [_], _ => rfl
  have Fri := fun_mk (st := sRI) lri cri kpri
  have Bri := Fri.binds (ps := ["self", "calls"]) fun _ _ _ _ _ _ us hl => match us, hl with | [_, _], _ => rfl
  have Fre := fun_mk (st := sRE) lre cre kpre
  have Bre := Fre.binds (ps := ["self"]) fun _ _ _ _ _ _ us hl => match us, hl with | [_], _ => rfl
  have Frn := fun_mk (st := sRN) lrn crn kprn
  have Brn := Frn.binds (ps := ["self"]) fun _ _ _ _ _ _ us hl => match us, hl with | [_], _ => rfl
  have Frr := fun_mk (st := sRR) lrr crr kprr
  have Brr := Frr.binds (ps := ["self"]) fun _ _ _ _ _ _ us hl => match us, hl with | [_], _ => rfl
  have Fpi := fun_mk (st := sPI) lpi cpi kppi
  have Bpi := Fpi.binds (ps := ["self", "reader"]) fun _ _ _ _ _ _ us hl => match us, hl with | [_, _], _ => rfl
  have Fpl := fun_mk (st := sPL) lpl cpl kppl
  have Bpl := Fpl.binds (ps := ["self"]) fun _ _ _ _ _ _ us hl => match us, hl with | [_], _ => rfl
  have Fsi := fun_mk (st := sSI) lsi csi kpsi
  have Bsi := Fsi.binds (ps := ["self"]) fun _ _ _ _ _ _ us hl => match us, hl with | [_], _ => rfl
  have Ftk := fun_mk (st := sTK) ltk ctk kptk
  have Btk := Ftk.binds (ps := ["self", "reader"]) fun _ _ _ _ _ _ us hl => match us, hl with | [_, _], _ => rfl
  have Fab := fun_mk (st := sAB) lab cab kpab
  have Bab := Fab.binds (ps := ["self", "reader"]) fun _ _ _ _ _ _ us hl => match us, hl with | [_, _], _ => rfl
  have Fas := fun_mk (st := sAS) las cas kpas
  have Bas := Fas.binds (ps := ["self", "reader"]) fun _ _ _ _ _ _ us hl => match us, hl with | [_, _], _ => rfl
  have Fam := fun_mk (st := sAM) lam cam kpam
  have Bam := Fam.binds (ps := ["self", "reader"]) fun _ _ _ _ _ _ us hl => match us, hl with | [_, _], _ => rfl
  have Fae := fun_mk (st := sAE) lae cae kpae
  have Bae := Fae.binds (ps := ["self", "reader"]) fun _ _ _ _ _ _ us hl => match us, hl with | [_, _], _ => rfl
  have Fao := fun_mk (st := sAO) lao cao kpao
  have Bao := Fao.binds (ps := ["self", "reader"]) fun _ _ _ _ _ _ us hl => match us, hl with | [_, _], _ => rfl
  have Fad := fun_mk (st := sAD) lad cad kpad
  have Bad := Fad.binds (ps := ["self", "reader"]) fun _ _ _ _ _ _ us hl => match us, hl with | [_, _], _ => rfl
  have Fac := fun_mk (st := sAC) lac cac kpac
  have Bac := Fac.binds (ps := ["self", "reader"]) fun _ _ _ _ _ _ us hl => match us, hl with | [_, _], _ => rfl
  refine ⟨PySem.W.fnOf "answers" "answers" (defArgs sAns) (defBody sAns) (defScope sAns) .none kVans dcans pmans anans cdans ctans, fun s us hu => match us, hu with | [_], _ => .of_eq rfl, fun base _ _ => ?_⟩
  have Onum : Ok P w K mg base "number_from" 1 ["row"] (spNum K) := ⟨fnum, _, PySem.W.mg_of X G anum, kpnum, Bnum, ok_num Fnum T⟩
  have Obyt : Ok P w K mg base "bytes_from" 1 ["number", "many"] spByt := ⟨fbyt, _, PySem.W.mg_of X G abyt, kpbyt, Bbyt, ok_byt Fbyt T⟩
  have Owds : Ok P w K mg base "words_from" 2 ["row"] (spWds K) := ⟨fwds, _, PySem.W.mg_of X G awds, kpwds, Bwds, ok_wds Fwds T Onum⟩
  have Orot : Ok P w K mg base "rotate_left" 1 ["word", "bits"] spRot := ⟨frot, _, PySem.W.mg_of X G arot, kprot, Brot, ok_rot Frot T⟩
  have Omix : Ok P w K mg base "mix_pair" 2 ["state", "target", "added", "turned", "bits"] spMix := ⟨fmix, _, PySem.W.mg_of X G amix, kpmix, Bmix, ok_mix Fmix T Orot⟩
  have Oqua : Ok P w K mg base "quarter_round" 3 ["state", "a", "b", "c", "d"] spQua := ⟨fqua, _, PySem.W.mg_of X G aqua, kpqua, Bqua, ok_qua Fqua Omix⟩
  have Omxd : Ok P w K mg base "mixed_state" 4 ["first"] (spMxd K) := ⟨fmxd, _, PySem.W.mg_of X G amxd, kpmxd, Bmxd, ok_mxd Fmxd T Oqua⟩
  have Oblk : Ok P w K mg base "make_block" 5 ["key", "once", "counter"] (spBlk K) := ⟨fblk, _, PySem.W.mg_of X G ablk, kpblk, Bblk, ok_blk Fblk T Owds Omxd Obyt⟩
  have Ostr : Ok P w K mg base "make_stream" 6 ["key", "once", "counter", "data"] (spStr K) := ⟨fstr, _, PySem.W.mg_of X G astr, kpstr, Bstr, ok_str Fstr T Oblk⟩
  have Omrk : Ok P w K mg base "make_mark" 2 ["key", "row"] (spMrk K) := ⟨fmrk, _, PySem.W.mg_of X G amrk, kpmrk, Bmrk, ok_mrk Fmrk T Onum Obyt⟩
  have Odrp : Ok P w K mg base "make_drops" 6 ["key", "once", "counters"] (spDrp K) := ⟨fdrp, _, PySem.W.mg_of X G adrp, kpdrp, Bdrp, ok_drp Fdrp T TD Oblk⟩
  have Ofil : Ok P w K mg base "fill_up" 1 ["row"] spFil := ⟨ffil, _, PySem.W.mg_of X G afil, kpfil, Bfil, ok_fil Ffil T⟩
  have Osmk : Ok P w K mg base "make_seal_mark" 6 ["key", "once", "seen", "sealed"] (spSmk K) := ⟨fsmk, _, PySem.W.mg_of X G asmk, kpsmk, Bsmk, ok_smk Fsmk T TD Oblk Obyt Omrk Ofil⟩
  have Nri : FnOk P w K mg base CX0 1 fri _ ["self", "calls"] (spRI CR) := ok_ri Fri TR
  have Nre : FnOk P w K mg base CX0 1 fre _ ["self"] (spRE K CR) := ok_re Fre T TR
  have Mre : Mth P w K mg base CR "at_end" 1 ["self"] (spRE K CR) := ⟨fre, _, ⟨are, ire, kpre⟩, Bre, Nre⟩
  have Nrn : FnOk P w K mg base CX0 1 frn _ ["self"] (spRN K CR) := ok_rn Frn TR
  have Mrn : Mth P w K mg base CR "read_number" 1 ["self"] (spRN K CR) := ⟨frn, _, ⟨arn, irn, kprn⟩, Brn, Nrn⟩
  have Nrr : FnOk P w K mg base CX0 2 frr _ ["self"] (spRR K CR) := ok_rr Frr TR Mrn
  have Mrr : Mth P w K mg base CR "read_row" 2 ["self"] (spRR K CR) := ⟨frr, _, ⟨arr, irr, kprr⟩, Brr, Nrr⟩
  have Npi : FnOk P w K mg base CX0 3 fpi _ ["self", "reader"] (spPI K CR CP) := ok_pi Fpi TR TP Mrn Mrr
  have Npl : FnOk P w K mg base CX0 1 fpl _ ["self"] (spPL CP) := ok_pl Fpl T TP
  have Mpl : Mth P w K mg base CP "is_too_long" 1 ["self"] (spPL CP) := ⟨fpl, _, ⟨apl, ipl, kppl⟩, Bpl, Npl⟩
  have Nsi : FnOk P w K mg base CX0 1 fsi _ ["self"] (spSI CS) := ok_si Fsi TS
  have Ntk : FnOk P w K mg base CX0 3 ftk _ ["self", "reader"] (spDo K CR CS 0) := ok_tk Ftk TR TS Mrr
  have Mtk : Mth P w K mg base CS "take_key" 3 ["self", "reader"] (spDo K CR CS 0) := ⟨ftk, _, ⟨atk, itk, kptk⟩, Btk, Ntk⟩
  have Nab : FnOk P w K mg base CX0 6 fab _ ["self", "reader"] (spDo K CR CS 1) := ok_ab Fab TR TS Mrn Mrr Oblk
  have Mab : Mth P w K mg base CS "answer_block" 6 ["self", "reader"] (spDo K CR CS 1) := ⟨fab, _, ⟨aab, iab, kpab⟩, Bab, Nab⟩
  have Nas : FnOk P w K mg base CX0 7 fas _ ["self", "reader"] (spDo K CR CS 2) := ok_as Fas T TR TS Mrn Mrr Ostr
  have Mas : Mth P w K mg base CS "answer_stream" 7 ["self", "reader"] (spDo K CR CS 2) := ⟨fas, _, ⟨aas, ias, kpas⟩, Bas, Nas⟩
  have Nam : FnOk P w K mg base CX0 3 fam _ ["self", "reader"] (spDo K CR CS 3) := ok_am Fam T TR Mrn Mrr Omrk
  have Mam : Mth P w K mg base CS "answer_mark" 3 ["self", "reader"] (spDo K CR CS 3) := ⟨fam, _, ⟨aam, iam, kpam⟩, Bam, Nam⟩
  have Nae : FnOk P w K mg base CX0 7 fae _ ["self", "reader"] (spDo K CR CS 4) := ok_ae Fae T TC TR TS TP hP ⟨mkP, api, ipi, kcP⟩ Bpi Npi Mpl Ostr Osmk
  have Mae : Mth P w K mg base CS "answer_seal" 7 ["self", "reader"] (spDo K CR CS 4) := ⟨fae, _, ⟨aae, iae, kpae⟩, Bae, Nae⟩
  have Nao : FnOk P w K mg base CX0 7 fao _ ["self", "reader"] (spDo K CR CS 5) := ok_ao Fao T TC TR TS TP hP ⟨mkP, api, ipi, kcP⟩ Bpi Npi Mpl Ostr Osmk
  have Mao : Mth P w K mg base CS "answer_open" 7 ["self", "reader"] (spDo K CR CS 5) := ⟨fao, _, ⟨aao, iao, kpao⟩, Bao, Nao⟩
  have Nad : FnOk P w K mg base CX0 7 fad _ ["self", "reader"] (spDo K CR CS 6) := ok_ad Fad T TC TR TS Mrn Mrr Odrp
  have Mad : Mth P w K mg base CS "answer_drops" 7 ["self", "reader"] (spDo K CR CS 6) := ⟨fad, _, ⟨aad, iad, kpad⟩, Bad, Nad⟩
  have Nac : FnOk P w K mg base CX0 8 fac _ ["self", "reader"] (spCall K CR CS) := ok_ac Fac TC TR TS Mrn Mtk Mab Mas Mam Mae Mao Mad
  have Mac : Mth P w K mg base CS "answer_call" 8 ["self", "reader"] (spCall K CR CS) := ⟨fac, _, ⟨aac, iac, kpac⟩, Bac, Nac⟩
  exact ok_ans Fans T TR TS hR hS ⟨mkR, ari, iri, kcR⟩ ⟨mkS, asi, isi, kcS⟩ Bri Bsi Nri Nsi Mre Mac
end Sr

end
open PySem PySem.W PyProof.Rows
set_option maxRecDepth 100000 in
set_option maxHeartbeats 0 in
theorem PySem.Challenge.cw_sealedrows_s01_answers_holds : PySem.Challenge.rw_sealedrows_s01_answers.Holds := by
  w_on; k_headS; (case hw => exact ⟨[.list (.int 0 :: .int 32 :: List.replicate 32 (.int 0))], by decide +kernel, by decide +kernel⟩)
  k_fillS
  refine L2.walk_specK (r := PySem.Challenge.rw_sealedrows_s01_answers) (k := 9) (CX := L2.CX0) (ps := ["calls"]) (sp := Sr.spAns) (by decide +kernel) rfl rfl ⟨rfl, by decide, by decide⟩ (fun w h Y => PySem.W.kIn_of Y) ?F ?S (fun _ _ _ _ z => z)
  case F =>
    intro w mg fa h Y KX G hmg
    refine' Sr.all_mk KX G hmg ?aCR ?pgR ?hdR ?poR ?saR ?mkR ?kcR ?nFRcalls ?nFRplace ?aCP ?pgP ?hdP ?poP ?saP ?mkP ?kcP ?nFPs ?nFPn ?nFPonce ?nFPseen ?nFPdata ?aCS ?pgS ?hdS ?poS ?saS ?mkS ?kcS ?nFSkey ?anum ?lnum ?cnum ?kpnum ?abyt ?lbyt ?cbyt ?kpbyt ?awds ?lwds ?cwds ?kpwds ?arot ?lrot ?crot ?kprot ?amix ?lmix ?cmix ?kpmix ?aqua ?lqua ?cqua ?kpqua ?amxd ?lmxd ?cmxd ?kpmxd ?ablk ?lblk ?cblk ?kpblk ?astr ?lstr ?cstr ?kpstr ?amrk ?lmrk ?cmrk ?kpmrk ?adrp ?ldrp ?cdrp ?kpdrp ?afil ?lfil ?cfil ?kpfil ?asmk ?lsmk ?csmk ?kpsmk ?aans ?lans ?cans ?kpans ?ari ?iri ?lri ?cri ?kpri ?are ?ire ?lre ?cre ?kpre ?arn ?irn ?lrn ?crn ?kprn ?arr ?irr ?lrr ?crr ?kprr ?api ?ipi ?lpi ?cpi ?kppi ?apl ?ipl ?lpl ?cpl ?kppl ?asi ?isi ?lsi ?csi ?kpsi ?atk ?itk ?ltk ?ctk ?kptk ?aab ?iab ?lab ?cab ?kpab ?aas ?ias ?las ?cas ?kpas ?aam ?iam ?lam ?cam ?kpam ?aae ?iae ?lae ?cae ?kpae ?aao ?iao ?lao ?cao ?kpao ?aad ?iad ?lad ?cad ?kpad ?aac ?iac ?lac ?cac ?kpac ?gwb ?gbb ?gmb ?gwm ?gdr ?gpr ?gfm ?grf ?gmo ?gob ?gkb ?glb ?gmc ?gms ?gmd ?gk0 ?gk1 ?gk2 ?gk3 ?gk4 ?gk5 ?gk6 ?orng ?olen ?orev ?ozip ?olst ?oenu ?aCon ?lCon ?aQua ?lQua ?lR0 ?lR1 ?lR2 ?lR3 ?lR4 ?lR5 ?lR6 ?lR7
    (case aCR => k_is)
    (case pgR => k_is)
    (case hdR => k_is)
    (case poR => k_is)
    (case saR => k_is)
    (case mkR => k_is)
    (case kcR => k_is)
    (case nFRcalls => k_is)
    (case nFRplace => k_is)
    (case aCP => k_is)
    (case pgP => k_is)
    (case hdP => k_is)
    (case poP => k_is)
    (case saP => k_is)
    (case mkP => k_is)
    (case kcP => k_is)
    (case nFPs => k_is)
    (case nFPn => k_is)
    (case nFPonce => k_is)
    (case nFPseen => k_is)
    (case nFPdata => k_is)
    (case aCS => k_is)
    (case pgS => k_is)
    (case hdS => k_is)
    (case poS => k_is)
    (case saS => k_is)
    (case mkS => k_is)
    (case kcS => k_is)
    (case nFSkey => k_is)
    (case anum => k_is)
    (case lnum => k_is)
    (case cnum => k_is)
    (case kpnum => k_is)
    (case abyt => k_is)
    (case lbyt => k_is)
    (case cbyt => k_is)
    (case kpbyt => k_is)
    (case awds => k_is)
    (case lwds => k_is)
    (case cwds => k_is)
    (case kpwds => k_is)
    (case arot => k_is)
    (case lrot => k_is)
    (case crot => k_is)
    (case kprot => k_is)
    (case amix => k_is)
    (case lmix => k_is)
    (case cmix => k_is)
    (case kpmix => k_is)
    (case aqua => k_is)
    (case lqua => k_is)
    (case cqua => k_is)
    (case kpqua => k_is)
    (case amxd => k_is)
    (case lmxd => k_is)
    (case cmxd => k_is)
    (case kpmxd => k_is)
    (case ablk => k_is)
    (case lblk => k_is)
    (case cblk => k_is)
    (case kpblk => k_is)
    (case astr => k_is)
    (case lstr => k_is)
    (case cstr => k_is)
    (case kpstr => k_is)
    (case amrk => k_is)
    (case lmrk => k_is)
    (case cmrk => k_is)
    (case kpmrk => k_is)
    (case adrp => k_is)
    (case ldrp => k_is)
    (case cdrp => k_is)
    (case kpdrp => k_is)
    (case afil => k_is)
    (case lfil => k_is)
    (case cfil => k_is)
    (case kpfil => k_is)
    (case asmk => k_is)
    (case lsmk => k_is)
    (case csmk => k_is)
    (case kpsmk => k_is)
    (case aans => k_is)
    (case lans => k_is)
    (case cans => k_is)
    (case kpans => k_is)
    (case ari => k_is)
    (case iri => k_is)
    (case lri => k_is)
    (case cri => k_is)
    (case kpri => k_is)
    (case are => k_is)
    (case ire => k_is)
    (case lre => k_is)
    (case cre => k_is)
    (case kpre => k_is)
    (case arn => k_is)
    (case irn => k_is)
    (case lrn => k_is)
    (case crn => k_is)
    (case kprn => k_is)
    (case arr => k_is)
    (case irr => k_is)
    (case lrr => k_is)
    (case crr => k_is)
    (case kprr => k_is)
    (case api => k_is)
    (case ipi => k_is)
    (case lpi => k_is)
    (case cpi => k_is)
    (case kppi => k_is)
    (case apl => k_is)
    (case ipl => k_is)
    (case lpl => k_is)
    (case cpl => k_is)
    (case kppl => k_is)
    (case asi => k_is)
    (case isi => k_is)
    (case lsi => k_is)
    (case csi => k_is)
    (case kpsi => k_is)
    (case atk => k_is)
    (case itk => k_is)
    (case ltk => k_is)
    (case ctk => k_is)
    (case kptk => k_is)
    (case aab => k_is)
    (case iab => k_is)
    (case lab => k_is)
    (case cab => k_is)
    (case kpab => k_is)
    (case aas => k_is)
    (case ias => k_is)
    (case las => k_is)
    (case cas => k_is)
    (case kpas => k_is)
    (case aam => k_is)
    (case iam => k_is)
    (case lam => k_is)
    (case cam => k_is)
    (case kpam => k_is)
    (case aae => k_is)
    (case iae => k_is)
    (case lae => k_is)
    (case cae => k_is)
    (case kpae => k_is)
    (case aao => k_is)
    (case iao => k_is)
    (case lao => k_is)
    (case cao => k_is)
    (case kpao => k_is)
    (case aad => k_is)
    (case iad => k_is)
    (case lad => k_is)
    (case cad => k_is)
    (case kpad => k_is)
    (case aac => k_is)
    (case iac => k_is)
    (case lac => k_is)
    (case cac => k_is)
    (case kpac => k_is)
    (case gwb => k_is)
    (case gbb => k_is)
    (case gmb => k_is)
    (case gwm => k_is)
    (case gdr => k_is)
    (case gpr => k_is)
    (case gfm => k_is)
    (case grf => k_is)
    (case gmo => k_is)
    (case gob => k_is)
    (case gkb => k_is)
    (case glb => k_is)
    (case gmc => k_is)
    (case gms => k_is)
    (case gmd => k_is)
    (case gk0 => k_is)
    (case gk1 => k_is)
    (case gk2 => k_is)
    (case gk3 => k_is)
    (case gk4 => k_is)
    (case gk5 => k_is)
    (case gk6 => k_is)
    (case orng => k_is)
    (case olen => k_is)
    (case orev => k_is)
    (case ozip => k_is)
    (case olst => k_is)
    (case oenu => k_is)
    (case aCon => k_is)
    (case lCon => k_is)
    (case aQua => k_is)
    (case lQua => k_is)
    (case lR0 => k_is)
    (case lR1 => k_is)
    (case lR2 => k_is)
    (case lR3 => k_is)
    (case lR4 => k_is)
    (case lR5 => k_is)
    (case lR6 => k_is)
    (case lR7 => k_is)
  case S =>
    intro K H xs a hO hwi hask hx
    cases hx with
    | cons h1 h2 =>
      cases h2
      cases h1 with
      | lst hs ha =>
        have e := L2.ints_dw a.1 _ ha
        subst e
        have q : ((Codec.inLen 0 30000 a.1 && a.1.all (Codec.inInt 0 4294967295)) && true) = true := hwi
        rw [Bool.and_eq_true, Bool.and_eq_true] at q
        exact ⟨_, a.1, rfl, hs, (Codec.inNat_iff.mp q.1.1).2, hask, fun H' p hp => .lst (L2.SqL.of hp) (L2.dw_ints _)⟩

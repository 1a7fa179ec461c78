import PyProof.Rows.All
import Wide.All
import OpenK.AllK
import Wide.FinOn
import PyProof.EqAt
import PyProof.EqKinds
import PyProof.TupleCall
import KE.BitLaws
import Open.SpecLaws
import KE.OsHead
import KE.OsGo
import PySem.Challenge.RW_tubepicture_s01_bits
set_option Elab.async false
set_option linter.all false
set_option maxRecDepth 100000
section
set_option Elab.async false
set_option linter.all false
set_option maxRecDepth 100000
/-! THE HAND LAYER, for ints, bools, texts, own classes, lists, tuples, dicts, comprehensions, walks over dicts, enumerate, zip, reversed, texts, calls, loops. Paste it whole ahead of your own text; what your proof does not reach may be deleted. -/
namespace L2
open PySem PySem.Spec PyProof.Rows

/-- a key: an int or a str -/
abbrev Key := Sum Int Str
def keyIs : Key → Value → Bool
  | .inl k, v => Value.isInt k v
  | .inr x, v => Value.isStrOf x v
def keyH (w : World) : Key → Int
  | .inl k => hashInt k
  | .inr x => hashStr w x
theorem keyIs_shape : ∀ {k : Key} {v : Value}, keyIs k v = true → (∃ i t, k = Sum.inl i ∧ v = Value.int i t) ∨ (∃ x t, k = Sum.inr x ∧ v = Value.str x t)
  | .inl i, v, h => by
    obtain ⟨t, e⟩ := Value.isInt_shape (k := i) (v := v) h
    exact .inl ⟨i, t, rfl, e⟩
  | .inr x, v, h => by
    obtain ⟨t, e⟩ := Value.isStrOf_shape (x := x) (v := v) h
    exact .inr ⟨x, t, rfl, e⟩
theorem key_ll (a b : Int) : decide ((Sum.inl a : Key) = Sum.inl b) = (a == b) := by
  by_cases e : a = b
  · subst e; simp
  · have h : ¬ (Sum.inl a : Key) = Sum.inl b := fun q => e (Sum.inl.inj q)
    rw [decide_eq_false h]
    exact (beq_eq_false_iff_ne.mpr e).symm
theorem key_rr (a b : Str) : decide ((Sum.inr a : Key) = Sum.inr b) = decide (a = b) := by
  by_cases e : a = b
  · subst e; simp
  · have h : ¬ (Sum.inr a : Key) = Sum.inr b := fun q => e (Sum.inr.inj q)
    rw [decide_eq_false h, decide_eq_false e]
theorem key_lr (a : Int) (b : Str) : decide ((Sum.inl a : Key) = Sum.inr b) = false := decide_eq_false (fun q => nomatch q)
theorem key_rl (a : Str) (b : Int) : decide ((Sum.inr a : Key) = Sum.inl b) = false := decide_eq_false (fun q => nomatch q)

def mixKind (prog : Program) (w : World) : PySem.KeyKind prog w Key where
  is := keyIs
  hash := keyH w
  inj := fun v a b ha hb => by
    rcases keyIs_shape ha with ⟨i, t, rfl, rfl⟩ | ⟨x, t, rfl, rfl⟩
    · rcases keyIs_shape hb with ⟨j, u, rfl, e⟩ | ⟨y, u, rfl, e⟩
      · injection e with e1 _; rw [e1]
      · exact nomatch e
    · rcases keyIs_shape hb with ⟨j, u, rfl, e⟩ | ⟨y, u, rfl, e⟩
      · exact nomatch e
      · injection e with e1 _; rw [e1]
  byValue := fun k v h => by
    rcases keyIs_shape h with ⟨i, t, rfl, rfl⟩ | ⟨x, t, rfl, rfl⟩ <;> rfl
  pyHash := fun hv h => by
    rcases keyIs_shape hv with ⟨i, t, rfl, rfl⟩ | ⟨x, t, rfl, rfl⟩
    · exact wpAny_pyHash_int h
    · exact wpAny_pyHash_str h
  eqBool := fun hu hv h => by
    rcases keyIs_shape hu with ⟨i, t, rfl, rfl⟩ | ⟨x, t, rfl, rfl⟩
    · rcases keyIs_shape hv with ⟨j, u, rfl, rfl⟩ | ⟨y, u, rfl, rfl⟩
      · rw [key_ll] at h; exact wpAny_eqBool_int h
      · rw [key_lr] at h; exact SeqAt.EqAt.int_str i t y u _ _ _ _ h
    · rcases keyIs_shape hv with ⟨j, u, rfl, rfl⟩ | ⟨y, u, rfl, rfl⟩
      · rw [key_rl] at h; exact SeqAt.EqAt.str_int x t j u _ _ _ _ h
      · rw [key_rr] at h; exact wpAny_eqBool_str h
  «strs» := fun k x t v h => by
    rcases keyIs_shape h with ⟨i, u, rfl, e⟩ | ⟨y, u, rfl, e⟩
    · exact nomatch e
    · injection e with e1 _
      subst e1
      cases v <;> rfl

end L2

namespace L2
open PySem PySem.Spec PyProof.Rows

/-- a value, without the heap -/
inductive V where
  | non | bl (b : Bool) | int (i : Int) | str (x : Str) | byt (b : Array UInt8) | flt (b : UInt64) | ref (a : Addr) | ty (n : String)
  deriving DecidableEq

def RelV : V → Value → Prop
  | .non, u => u = Value.none
  | .bl b, u => u = Value.bool b
  | .int i, u => ∃ t, u = Value.int i t
  | .str x, u => ∃ t, u = Value.str x t
  | .byt b, u => ∃ t, u = Value.bytes b t
  | .flt b, u => ∃ t, u = Value.float b t
  | .ref a, u => u = Value.ref a
  | .ty n, u => u = Value.type n

abbrev Vals : List V → List Value → Prop := Paired RelV
theorem Vals.length {xs : List V} {us : List Value} (r : Vals xs us) : xs.length = us.length := Paired.length r
theorem Vals.get : ∀ {xs : List V} {us : List Value} {i : Nat} {x : V}, Vals xs us → xs[i]? = some x → ∃ u, us[i]? = some u ∧ RelV x u
  | _, _, _, _, .nil, e => by simp at e
  | _, _, 0, _, .cons r _, e => by simp at e; subst e; exact ⟨_, rfl, r⟩
  | _, _, i + 1, x, .cons _ t, e => by
    obtain ⟨u, h1, h2⟩ := Vals.get (i := i) (x := x) t (by simpa using e)
    exact ⟨u, by simpa using h1, h2⟩
theorem Vals.append : ∀ {xs ys : List V} {us ws : List Value}, Vals xs us → Vals ys ws → Vals (xs ++ ys) (us ++ ws)
  | _, _, _, _, .nil, s => s
  | _, _, _, _, .cons r t, s => .cons r (Vals.append t s)
theorem Vals.take : ∀ {xs : List V} {us : List Value} (n : Nat), Vals xs us → Vals (xs.take n) (us.take n)
  | _, _, 0, _ => .nil
  | _, _, _ + 1, .nil => .nil
  | _, _, n + 1, .cons r t => .cons r (Vals.take n t)
theorem Vals.drop : ∀ {xs : List V} {us : List Value} (n : Nat), Vals xs us → Vals (xs.drop n) (us.drop n)
  | _, _, 0, r => r
  | _, _, _ + 1, .nil => .nil
  | _, _, n + 1, .cons _ t => Vals.drop n t
def RelO : Option V → Option Value → Prop
  | some v, some u => RelV v u
  | none, none => True
  | _, _ => False
def KV {κ : Type} : List (κ × V) → List (κ × Value) → Prop := Paired fun (p : κ × V) (q : κ × Value) => p.1 = q.1 ∧ RelV p.2 q.2

/-- a key of a dict (00_mix): an int or a text -/
def kV : Key → V
  | .inl i => .int i
  | .inr x => .str x

/-- what stands at a tracked address -/
inductive HO where
  /-- a list -/
  | lst (xs : List V)
  /-- a tuple (never changes) -/
  | tup (xs : List V)
  /-- a dict whose keys are ints and texts; one whose keys are tuples of ints and texts (the empty one is both) -/
  | dK (kvs : List (Key × V)) | dT (kvs : List (List Key × V))
  /-- a set of ints: its members, its size -/
  | set (S : Int → Bool) (n : Nat)
  /-- an instance of the class at C, its dict at dx, its attributes -/
  | ins (C dx : Addr) (fs : List (Str × V))
  /-- the dict of the instance at x -/
  | own (x : Addr)
  /-- the dict of an exception -/
  | xd (fs : List (Str × V))
  /-- a bound method, f of x -/
  | met (f x : Addr)
  /-- a range object lo, lo + 1, .. below hi -/
  | rng (lo hi : Int)
  /-- a thing that is known to the object (the script; a dict while a loop walks it): read, never written while it is so -/
  | frz (o : Obj) (u : HO)
  /-- a code object's table -/
  | tbl (ps : Array Value)
  /-- any other thing, by what is true of its one object (a def of one's own: SetO a S n := HO.ext fun h => ..) -/
  | ext (φ : Heap → Prop)

abbrev Hp := Addr → Option HO
def upd (H : Hp) (a : Addr) (o : HO) : Hp := fun b => if b = a then some o else H b
theorem upd_same {H : Hp} {a : Addr} {o : HO} : upd H a o a = some o := by unfold upd; rw [if_pos rfl]
theorem upd_ne {H : Hp} {a b : Addr} {o : HO} (h : b ≠ a) : upd H a o b = H b := by unfold upd; rw [if_neg h]
/-- two objects of different content stand apart -/
theorem ne_of {H : Hp} {a b : Addr} {o u : HO} (h : H a = some o) (h' : H b = some u) (d : o ≠ u) : a ≠ b := by
  intro e; subst e; rw [h] at h'; exact d (Option.some.inj h')
theorem ne_of_none {H : Hp} {a b : Addr} {o : HO} (h : H a = some o) (h' : H b = none) : a ≠ b := by
  intro e; subst e; rw [h] at h'; cases h'

section
variable (P : Program) (w : World)
def ObjOk (H : Hp) (h : Heap) (a : Addr) : HO → Prop
  | .lst xs => xs.length ≤ sizeLine ∧ ∃ (its : List Value) (n : Nat), Vals xs its ∧ h.get? a = some { cls := .type "list", data := .seq its.toArray n }
  | .tup xs => xs.length ≤ sizeLine ∧ ∃ its : List Value, Vals xs its ∧ IsTup h a its.toArray
  | .dK kvs => kvs.length ≤ sizeLine ∧ (a == sysModules) = false ∧ ∃ vs, KV kvs vs ∧ h.DictOf (mixKind P w) a vs
  | .dT kvs => kvs.length ≤ sizeLine ∧ (a == sysModules) = false ∧ ∃ xs : List (List Key × Addr × Value),
      Paired (fun (p : List Key × V) (q : List Key × Addr × Value) => p.1 = q.1 ∧ H q.2.1 = some (.tup (p.1.map kV)) ∧ RelV p.2 q.2.2) kvs xs ∧
      ∃ o es ep, h.get? a = some o ∧ o.ExactDict ∧ o.data = .dict es ep ∧ es.toList = xs.map (entryOfKey (tupleKind (mixKind P w))) ∧ (xs.map (·.1)).Nodup
  | .set S n => h.SetOf (intKind P w) a S n
  | .ins C dx fs => H dx = some (.own a) ∧ fs.length ≤ 1000 ∧ dx ≠ a ∧ h.get? a = some (PySem.W.instObj C dx) ∧
      ∃ mA, h.Ns1 dx mA ∧ (∀ f, RelO (fs.lookup f) (mA f)) ∧ PySem.Within mA (fs.map (·.1))
  | .own _ => ∃ o, h.get? a = some o
  | .xd fs => ∃ mA, h.Ns1 a mA ∧ ∀ f, RelO (fs.lookup f) (mA f)
  | .rng lo hi => ∃ t u v, h.get? a = some { cls := .type "range", data := .fields #[.int lo t, .int hi u, .int 1 v] }
  | .frz o u => h.get? a = some o ∧ ObjOk H h a u
  | .tbl ps => h.get? a = some { cls := .none, data := .fields ps }
  | .met f x => h.get? a = some (PySem.W.methodObj (.ref f) (.ref x))
  | .ext φ => φ h ∧ (∃ o, h.get? a = some o) ∧ ∀ h1 h2 : Heap, φ h1 → (∀ o, h1.get? a = some o → h2.get? a = some o) → φ h2
/-- the abstract heap is held -/
def HOk (H : Hp) (h : Heap) : Prop := ∀ a o, H a = some o → ObjOk P w H h a o
end

section
variable {P : Program} {w : World} {H H' : Hp} {h h' : Heap} {a : Addr} {o : HO}
theorem ObjOk.lt (x : ObjOk P w H h a o) : a < h.objs.size := by
  cases o with
  | lst xs => obtain ⟨_, _, _, _, e⟩ := x; exact Heap.lt_size e
  | tup xs => obtain ⟨_, _, _, p⟩ := x; exact p.lt
  | dK kvs => obtain ⟨_, _, _, _, o, _, _, e, _⟩ := x; exact Heap.lt_size e
  | dT kvs => obtain ⟨_, _, _, _, o, _, _, e, _⟩ := x; exact Heap.lt_size e
  | set S n => obtain ⟨o, _, _, _, e, _⟩ := x; exact Heap.lt_size e
  | ins C dx fs => obtain ⟨_, _, _, e, _⟩ := x; exact Heap.lt_size e
  | own y => obtain ⟨_, e⟩ := x; exact Heap.lt_size e
  | xd fs => obtain ⟨_, ⟨_, _, _, e, _⟩, _⟩ := x; exact Heap.lt_size e
  | rng lo hi => obtain ⟨_, _, _, e⟩ := x; exact Heap.lt_size e
  | frz ob u => obtain ⟨e, _⟩ := x; exact Heap.lt_size e
  | tbl ps => exact Heap.lt_size (show h.get? a = some _ from x)
  | met f y => exact Heap.lt_size (show h.get? a = some _ from x)
  | ext φ => obtain ⟨_, ⟨_, e⟩, _⟩ := x; exact Heap.lt_size e
theorem Paired.mapP {α β : Type} {F G : α → β → Prop} : ∀ {l₁ : List α} {l₂ : List β}, Paired F l₁ l₂ → (∀ a b, F a b → G a b) → Paired G l₁ l₂
  | _, _, .nil, _ => .nil
  | _, _, .cons r t, f => .cons (f _ _ r) (Paired.mapP t f)
/-- what an object's description leans on: its own object, its own dict, the tuples -/
theorem ObjOk.stay (x : ObjOk P w H h a o) (k : ∀ b u, (b = a ∨ H b = some (.own a)) → h.get? b = some u → h'.get? b = some u)
    (ho : ∀ b, H b = some (.own a) → H' b = some (.own a)) (ht : ∀ b xs, H b = some (.tup xs) → H' b = some (.tup xs)) : ObjOk P w H' h' a o := by
  induction o with
  | lst xs => obtain ⟨z, its, n, r, e⟩ := x; exact ⟨z, its, n, r, k _ _ (.inl rfl) e⟩
  | tup xs => obtain ⟨z, its, r, ob, e, c⟩ := x; exact ⟨z, its, r, ob, k _ _ (.inl rfl) e, c⟩
  | dK kvs => obtain ⟨z, y, vs, r, ob, es, ep, e, c⟩ := x; exact ⟨z, y, vs, r, ob, es, ep, k _ _ (.inl rfl) e, c⟩
  | dT kvs =>
    obtain ⟨z, y, xs, r, ob, es, ep, e, c⟩ := x
    exact ⟨z, y, xs, Paired.mapP r fun p q z => ⟨z.1, ht _ _ z.2.1, z.2.2⟩, ob, es, ep, k _ _ (.inl rfl) e, c⟩
  | set S n => obtain ⟨ob, es, ep, t, e, c⟩ := x; exact ⟨ob, es, ep, t, k _ _ (.inl rfl) e, c⟩
  | ins C dx fs =>
    obtain ⟨d, z, ne, e, mA, ⟨od, es, ep, e2, c⟩, r⟩ := x
    exact ⟨ho _ d, z, ne, k _ _ (.inl rfl) e, mA, ⟨od, es, ep, k _ _ (.inr d) e2, c⟩, r⟩
  | own y => obtain ⟨ob, e⟩ := x; exact ⟨ob, k _ _ (.inl rfl) e⟩
  | xd fs => obtain ⟨mA, ⟨od, es, ep, e, c⟩, r⟩ := x; exact ⟨mA, ⟨od, es, ep, k _ _ (.inl rfl) e, c⟩, r⟩
  | rng lo hi => obtain ⟨t, u, v, e⟩ := x; exact ⟨t, u, v, k _ _ (.inl rfl) e⟩
  | frz ob u ih => obtain ⟨e, q⟩ := x; exact ⟨k _ _ (.inl rfl) e, ih q⟩
  | tbl ps =>
    have e : h.get? a = some { cls := .none, data := .fields ps } := x
    show h'.get? a = some { cls := .none, data := .fields ps }
    exact k a _ (.inl rfl) e
  | met f y =>
    have e : h.get? a = some (PySem.W.methodObj (.ref f) (.ref y)) := x
    show h'.get? a = some (PySem.W.methodObj (.ref f) (.ref y))
    exact k a _ (.inl rfl) e
  | ext φ => obtain ⟨p, ⟨o, e⟩, st⟩ := x; exact ⟨st _ _ p fun o q => k _ _ (.inl rfl) q, ⟨o, k _ _ (.inl rfl) e⟩, st⟩
theorem HOk.lt (x : HOk P w H h) (e : H a = some o) : a < h.objs.size := (x a o e).lt
theorem HOk.fresh (x : HOk P w H h) (e : h.objs.size ≤ a) : H a = none := by
  cases q : H a with
  | none => rfl
  | some u => exact absurd (Nat.lt_of_lt_of_le (x.lt q) e) (Nat.lt_irrefl _)
/-- every object of the heap is kept -/
theorem HOk.kept (x : HOk P w H h) (k : ∀ b u, h.get? b = some u → h'.get? b = some u) : HOk P w H h' := fun a o e =>
  (x a o e).stay (fun b u _ q => k b u q) (fun _ q => q) fun _ _ q => q
/-- a new object is laid and tracked -/
theorem HOk.laid (x : HOk P w H h) (k : ∀ b u, h.get? b = some u → h'.get? b = some u) (hp : h.objs.size ≤ a) (new : ObjOk P w (upd H a o) h' a o) : HOk P w (upd H a o) h' := fun b u e => by
  have hn := x.fresh hp
  by_cases hb : b = a
  · subst hb; rw [upd_same] at e; cases e; exact new
  · rw [upd_ne hb] at e
    exact (x b u e).stay (fun c v _ q => k c v q) (fun c q => by rw [upd_ne (ne_of_none q hn)]; exact q) fun c xs q => by rw [upd_ne (ne_of_none q hn)]; exact q
end

/-- what may be read as u: it is u, or a known u -/
def Rd (H : Hp) (a : Addr) (u : HO) : Prop := H a = some u ∨ ∃ o, H a = some (.frz o u)
theorem Rd.ok {P : Program} {w : World} {H : Hp} {h : Heap} {a : Addr} {u : HO} (r : Rd H a u) (x : HOk P w H h) : ObjOk P w H h a u := by
  rcases r with r | ⟨o, r⟩
  · exact x a u r
  · obtain ⟨_, q⟩ := x a _ r
    exact q
/-- what may be written -/
def Mut : Option HO → Prop
  | some (.lst _) => True
  | some (.dK _) => True
  | some (.dT _) => True
  | some (.set _ _) => True
  | some (.ins _ _ _) => True
  | some (.ext _) => True
  | _ => False
section
variable {P : Program} {w : World} {H : Hp} {h h' : Heap} {x e : Addr} {o' : HO}
/-- the object at e is changed: x itself, or the dict of the instance x -/
theorem HOk.write (ok : HOk P w H h) (mu : Mut (H x)) (he : e = x ∨ H e = some (.own x)) (k : ∀ b u, b ≠ e → h.get? b = some u → h'.get? b = some u) (heo : ∃ u, h'.get? e = some u)
    (new : ObjOk P w (upd H x o') h' x o') : HOk P w (upd H x o') h' := fun b u q => by
  have nown : ∀ c y, H c = some (.own y) → c ≠ x := fun c y r z => by subst z; rw [r] at mu; exact mu
  have ntup : ∀ c xs, H c = some (.tup xs) → c ≠ x := fun c xs r z => by subst z; rw [r] at mu; exact mu
  by_cases hb : b = x
  · subst hb; rw [upd_same] at q; cases q; exact new
  · rw [upd_ne hb] at q
    by_cases hbe : b = e
    · have q' : H b = some (.own x) := by
        rcases he with z | z
        · exact absurd (hbe.trans z) hb
        · rw [hbe]; exact z
      rw [q] at q'; cases q'
      obtain ⟨v, hv⟩ := heo
      exact ⟨v, by rw [hbe]; exact hv⟩
    · refine (ok b u q).stay (fun c v hc r => k c v ?_ r) (fun c r => by rw [upd_ne (nown c b r)]; exact r) fun c xs r => by rw [upd_ne (ntup c xs r)]; exact r
      rcases hc with rfl | hc
      · exact hbe
      · rintro rfl
        rcases he with z | z
        · exact nown c b hc z
        · rw [hc] at z; cases z; exact hb rfl
end

/-! ### kept unless tracked; of the frames at fs (the callers') the slots may change (an exception that passes writes there); of the records at ex (iterators) nothing is said -/
structure Un (fs ex : List Addr) (H H' : Hp) (h h' : Heap) : Prop where
  keep : ∀ b o, h.get? b = some o → H b = none → b ∉ fs → b ∉ ex → h'.get? b = some o
  slot : ∀ b o, h.get? b = some o → H b = none → b ∈ fs → b ∉ ex → ∃ sl, h'.get? b = some { o with slots := sl }
  free : ∀ b o, h.get? b = some o → H b = none → b ∉ ex → H' b = none
  there : ∀ b o, h.get? b = some o → b ∉ ex → ∃ o', h'.get? b = some o'
  tups : ∀ b xs, H b = some (.tup xs) → H' b = some (.tup xs)
  frzs : ∀ b o u, H b = some (.frz o u) → H' b = some (.frz o u)
  tbls : ∀ b ps, H b = some (.tbl ps) → ∃ more, H' b = some (.tbl (ps ++ more))
section
variable {fs fs' ex ex' : List Addr} {H H1 H2 : Hp} {h h1 h2 h' : Heap} {a x e : Addr} {o : HO}
theorem Un.any (u : Un fs ex H H1 h h1) {b : Addr} {ob : Obj} (q : h.get? b = some ob) (n : H b = none) (hx : b ∉ ex) : ∃ sl, h1.get? b = some { ob with slots := sl } := by
  by_cases hb : b ∈ fs
  · exact u.slot b ob q n hb hx
  · exact ⟨ob.slots, u.keep b ob q n hb hx⟩
theorem Un.kept (k : ∀ b u, h.get? b = some u → h'.get? b = some u) : Un fs ex H H h h' :=
  ⟨fun b ob q _ _ _ => k b ob q, fun b ob q _ _ _ => ⟨ob.slots, k b ob q⟩, fun _ _ _ n _ => n, fun b ob q _ => ⟨ob, k b ob q⟩, fun _ _ q => q, fun _ _ _ q => q, fun _ ps q => ⟨#[], by rw [q]; simp⟩⟩
theorem Un.refl : Un fs ex H H h h := Un.kept fun _ _ q => q
theorem Un.laid (k : ∀ b u, h.get? b = some u → h'.get? b = some u) (hp : h.objs.size ≤ a) (hn : H a = none) : Un fs ex H (upd H a o) h h' where
  keep := fun b u q _ _ _ => k b u q
  slot := fun b u q _ _ _ => ⟨u.slots, k b u q⟩
  free := fun b u q n _ => by rw [upd_ne (Nat.ne_of_lt (Nat.lt_of_lt_of_le (Heap.lt_size q) hp))]; exact n
  there := fun b u q _ => ⟨u, k b u q⟩
  tups := fun b xs q => by rw [upd_ne (ne_of_none q hn)]; exact q
  frzs := fun b u xs q => by rw [upd_ne (ne_of_none q hn)]; exact q
  tbls := fun b ps q => ⟨#[], by rw [upd_ne (ne_of_none q hn), q]; simp⟩
theorem Un.write (mu : Mut (H x)) (he : e = x ∨ H e = some (.own x)) (k : ∀ b u, b ≠ e → h.get? b = some u → h'.get? b = some u) (heo : ∃ u, h'.get? e = some u) : Un fs ex H (upd H x o) h h' := by
  have hx : ∀ b, H b = none → b ≠ x := fun b n z => by subst z; rw [n] at mu; exact mu
  have hb : ∀ b, H b = none → b ≠ e := fun b n z => by
    subst z
    rcases he with r | r
    · exact hx b n r
    · rw [n] at r; cases r
  have hm : ∀ b u, H b = some u → ¬ Mut (some u) → b ≠ x := fun b u q nm z => by subst z; rw [q] at mu; exact nm mu
  refine ⟨fun b u q n _ _ => k b u (hb b n) q, fun b u q n _ _ => ⟨u.slots, k b u (hb b n) q⟩, fun b u q n _ => by rw [upd_ne (hx b n)]; exact n, fun b u q _ => ?_,
    fun b xs q => by rw [upd_ne (hm b _ q fun z => z)]; exact q, fun b u xs q => by rw [upd_ne (hm b _ q fun z => z)]; exact q, fun b ps q => ⟨#[], by rw [upd_ne (hm b _ q fun z => z), q]; simp⟩⟩
  by_cases hbe : b = e
  · subst hbe; exact heo
  · exact ⟨u, k b u hbe q⟩
end

/-! ### the heap without what is tracked -/
def trk (h : Heap) (H : Hp) : List Addr := (List.range h.objs.size).filter fun a => (H a).isSome
def hidT (h : Heap) (H : Hp) : Heap := PySem.W.hideAll h (trk h H)
theorem hidT_size (h : Heap) (H : Hp) : (hidT h H).objs.size = h.objs.size := PySem.W.hideAll_size _ _
theorem hidT_get {h : Heap} {H : Hp} {b : Addr} {o : Obj} (e : h.get? b = some o) (n : H b = none) : (hidT h H).get? b = some o :=
  PySem.W.hideAll_get _ e fun hm => by
    have q : (H b).isSome = true := (List.mem_filter.mp hm).2
    rw [n] at q; simp at q
theorem of_hidT {h : Heap} {H : Hp} {b : Addr} {o : Obj} (e : (hidT h H).get? b = some o) : h.get? b = some o ∧ H b = none := by
  have e' : h.get? b = some o := PySem.W.of_hideAll (trk h H) e
  refine ⟨e', ?_⟩
  cases q : H b with
  | none => rfl
  | some x =>
    have hm : b ∈ trk h H := List.mem_filter.mpr ⟨List.mem_range.mpr (Heap.lt_size e'), by simp [q]⟩
    have z : (hidT h H).get? b = none := PySem.W.hideAll_none (trk h H) hm
    rw [z] at e; cases e

/-! ### OpenK's ledger, filled with every new object but one -/
def allNews (g h : Heap) (L : Addr) : List (Addr × Obj) := (List.range h.objs.size).filterMap fun a => if a = L ∨ (g.get? a).isSome = true then none else (h.get? a).map fun o => (a, o)
def rest (g h : Heap) (L d : Addr) : List (Addr × Obj) := (allNews g h L).filter fun p => decide (p.1 ≠ d)
end L2

namespace L2
open PySem PySem.Spec PyProof.Rows

/-- the module's facts, over the base: the heap at the law's entry without what is tracked there -/
structure Mod (K : PySem.W.Frag) (mg : Str → Option Value) (base : Heap) : Prop where
  kin : K.In base
  glob : base.Ns mainGlobals mg
  blt : ∃ mb, base.Ns builtinsNs mb ∧ ∀ x : Str, x ≠ "__name__" → mb x = bootBuiltins x
  nolimit : base.NoLimit

/-- the context: a def's body (or a comprehension's block) running. base: fixed through the whole law; s₀, H₀: the entry; outer: the frames whose slots others may change (a def's callers); stack: all frames that run;
   ex: iterators that were made ahead of the entry and are walked here (a comprehension's); fn: the names whose cells were made at the entry (a def: all; a comprehension's block: its own); calm: not within an except suite; pn: pins that every state bears; xe: what is wanted of an exception that leaves the code -/
structure Cx where
  prog : Program
  w : World
  K : PySem.W.Frag
  mg : Str → Option Value
  base : Heap
  A : Around
  N : List Str
  s_0 : Shared
  H_0 : Hp
  env : Env
  outer : List Env
  stack : List Env
  ex : List Addr
  fn : Str → Bool
  calm : Bool
  pn : List (Addr × Obj)
  xe : Value → Shared → Prop
/-- the callers' frames -/
def frs (l : List Env) : List Addr := l.filterMap (·.frame)
abbrev Cx.fs (X : Cx) : List Addr := frs X.outer

def Vis (sc : Scope) (x : Str) : Prop := sc.names.lookup x = some .local ∨ sc.names.lookup x = some .cell ∨ sc.names.lookup x = some .free
def Loc (sc : Scope) (x : Str) : Prop := sc.names.lookup x = some .local ∨ sc.names.lookup x = some .cell
def Look (env : Env) (h : Heap) (m : Str → Option Value) (x : Str) (u : Value) : Prop :=
  (env.kindOf x = some .local ∧ m x = some u) ∨ ((env.kindOf x = some .cell ∨ env.kindOf x = some .free) ∧ ∃ c, env.cells.lookup x = some c ∧ h.IsCell c (some u))

structure Cx.Ok (X : Cx) : Prop where
  mod : Mod X.K X.mg X.base
  kind : X.env.scope.kind = .function
  glob : X.env.globals = mainGlobals
  blt : X.env.builtins = builtinsNs
  above : X.s_0.heap.objs.size ≤ X.env.locals
  inj : ∀ x y c, X.env.cells.lookup x = some c → X.env.cells.lookup y = some c → x = y
  has : ∀ x, (X.env.kindOf x = some .cell ∨ X.env.kindOf x = some .free) → ∃ c, X.env.cells.lookup x = some c
  cab : ∀ x c, X.fn x = true → X.env.cells.lookup x = some c → X.s_0.heap.objs.size ≤ c
  hd : X.calm = true → X.A.handled = none
  frames : X.A.frames = some X.stack
  stk : X.stack = X.outer ∨ (X.stack = X.env :: X.outer ∧ X.env.frame = some X.env.locals)
  exf : ∀ b ∈ X.ex, b ≠ X.env.locals ∧ ∀ x c, X.env.cells.lookup x = some c → c ≠ b
  bs : ∀ b o, X.base.get? b = some o → X.s_0.heap.get? b = some o ∧ X.H_0 b = none
  bsz : X.base.objs.size ≤ X.s_0.heap.objs.size
  noex : ∀ b o, X.base.get? b = some o → b ∉ X.ex
  exfs : ∀ b ∈ X.ex, b ∉ X.fs
  funs : X.s_0.heap.FunFrames X.base X.outer
  frf : ∀ b ∈ X.fs, X.H_0 b = none

structure Inv (X : Cx) (pins : List (Addr × Obj)) (σ : List (Option V)) (H : Hp) (s : Shared) : Prop where
  ok : X.Ok
  os : s.os = X.s_0.os
  bare : AllBare s.gens
  base : Un X.fs X.ex X.H_0 H X.s_0.heap s.heap
  loc : ∃ m, s.heap.Ns X.env.locals m ∧ ∀ (i : Nat) (x : Str) (v : V), X.N[i]? = some x → σ[i]? = some (some v) → Vis X.env.scope x → ∃ u, RelV v u ∧ Look X.env s.heap m x u
  cell : ∀ x c, X.env.cells.lookup x = some c → ∃ v, s.heap.IsCell c v
  free : H X.env.locals = none
  freeC : ∀ x c, X.env.cells.lookup x = some c → H c = none
  pin : ∀ p ∈ X.pn ++ pins, s.heap.get? p.1 = some p.2 ∧ H p.1 = none ∧ p.1 ≠ X.env.locals ∧ p.1 ∉ X.fs ∧ ∀ v, p.2.data ≠ .cell v
  hok : HOk X.prog X.w H s.heap
  len : σ.length = X.N.length

section
variable {X : Cx} {pins : List (Addr × Obj)} {σ : List (Option V)} {H H' : Hp} {s : Shared} {h' : Heap}

theorem Cx.Ok.nofr (ok : X.Ok) {b : Addr} {o : Obj} (e : X.base.get? b = some o) : b ∉ X.fs := fun hb => by
  have := (ok.funs.mem hb).1
  rw [e] at this; cases this
theorem Inv.bs (I : Inv X pins σ H s) : ∀ b o, X.base.get? b = some o → s.heap.get? b = some o ∧ H b = none := fun b o e =>
  ⟨I.base.keep b o (I.ok.bs b o e).1 (I.ok.bs b o e).2 (I.ok.nofr e) (I.ok.noex b o e), I.base.free b o (I.ok.bs b o e).1 (I.ok.bs b o e).2 (I.ok.noex b o e)⟩
theorem Inv.bk (I : Inv X pins σ H s) : ∀ b o, X.base.get? b = some o → s.heap.get? b = some o := fun b o e => (I.bs b o e).1
theorem Inv.mod (I : Inv X pins σ H s) : Mod X.K X.mg X.base := I.ok.mod
theorem Inv.kIn (I : Inv X pins σ H s) : X.K.In s.heap := I.ok.mod.kin.keeps I.bk
/-- the frame over the base: for OpenK's rules (K.In X.base is I.mod.kin) -/
theorem Inv.fr (I : Inv X pins σ H s) : ∃ m, Fr X.base X.env.locals s.heap m :=
  let ⟨m, hn, _⟩ := I.loc
  ⟨m, hn, I.bk, Nat.le_trans I.ok.bsz I.ok.above⟩
theorem Inv.lt (I : Inv X pins σ H s) : X.env.locals < s.heap.objs.size := let ⟨_, hn, _⟩ := I.loc; hn.lt
theorem Inv.sz (I : Inv X pins σ H s) : X.s_0.heap.objs.size ≤ s.heap.objs.size := Nat.le_trans I.ok.above (Nat.le_of_lt I.lt)
theorem Inv.nofs (I : Inv X pins σ H s) {a : Addr} (h : s.heap.objs.size ≤ a) : a ∉ X.fs := fun hb => by
  obtain ⟨_, o, ho, _⟩ := I.ok.funs.mem hb
  exact absurd (Nat.lt_of_lt_of_le (Heap.lt_size ho) (Nat.le_trans I.sz h)) (Nat.lt_irrefl _)
theorem Inv.cne (I : Inv X pins σ H s) : ∀ x c, X.env.cells.lookup x = some c → c ≠ X.env.locals := fun x c e z => by
  obtain ⟨v, o, ho, hd⟩ := I.cell x c e
  obtain ⟨m, ⟨o', es, ep, ho', hd', _⟩, _⟩ := I.loc
  rw [z, ho'] at ho; cases ho; rw [hd'] at hd; cases hd
theorem Inv.funs (I : Inv X pins σ H s) : s.heap.FunFrames X.base X.outer := by
  have all : ∀ (l : List Env), (∀ b ∈ frs l, b ∈ X.fs) → X.s_0.heap.FunFrames X.base l → s.heap.FunFrames X.base l := by
    intro l
    induction l with
    | nil => intro _ _; trivial
    | cons env r ih =>
      intro hs hl
      obtain ⟨hk, ⟨L, o, hf, hn, ho, hd⟩, hr⟩ := hl
      have hL : L ∈ X.fs := hs L (by unfold frs; rw [List.filterMap_cons, hf]; exact List.mem_cons_self)
      obtain ⟨sl, e⟩ := I.base.slot L o ho (I.ok.frf L hL) hL fun z => I.ok.exfs L z hL
      exact ⟨hk, ⟨L, _, hf, hn, e, hd⟩, ih (fun b hb => hs b (by unfold frs; rw [List.filterMap_cons, hf]; exact List.mem_cons_of_mem _ hb)) hr⟩
  exact all X.outer (fun _ hb => hb) I.ok.funs

/-- the frames that run, for a call -/
theorem Inv.stack (I : Inv X pins σ H s) : s.heap.FunFrames X.base X.stack := by
  rcases I.ok.stk with e | ⟨e, hf⟩
  · rw [e]; exact I.funs
  · rw [e]
    obtain ⟨m, hn, _⟩ := I.loc
    refine .cons (by rw [I.ok.kind]; decide) hf hn ?_ I.funs
    exact Heap.get?_none_of_le (Nat.le_trans I.ok.bsz I.ok.above)
theorem Inv.stkSub (I : Inv X pins σ H s) : ∀ b ∈ frs X.stack, b ∈ X.env.locals :: X.fs := fun b hb => by
  rcases I.ok.stk with e | ⟨e, hf⟩
  · rw [e] at hb; exact List.mem_cons_of_mem _ hb
  · rw [e] at hb
    unfold frs at hb
    rw [List.filterMap_cons, hf] at hb
    exact hb
theorem Inv.stkFree (I : Inv X pins σ H s) : ∀ b ∈ frs X.stack, H b = none := fun b hb => by
  rcases List.mem_cons.mp (I.stkSub b hb) with e | hb
  · rw [e]; exact I.free
  · obtain ⟨_, o, ho, _⟩ := I.ok.funs.mem hb
    exact I.base.free b o ho (I.ok.frf b hb) fun z => I.ok.exfs b z hb

/-- THE STEP: the untracked objects but the frame and the records at ch are kept (the callers' frames up to slots), the frame's map is kept, the new abstract heap is held -/
theorem Inv.step {g' : Array GenState} {t' : Nat} {d' : Drawn} {ch : List Addr} (I : Inv X pins σ H s)
    (hch : ∀ b ∈ ch, (b ∈ X.ex ∨ X.s_0.heap.objs.size ≤ b) ∧ b ≠ X.env.locals ∧ (∀ x c, X.env.cells.lookup x = some c → c ≠ b) ∧ ∀ p ∈ X.pn ++ pins, p.1 ≠ b)
    (keep : ∀ b o, b ≠ X.env.locals → b ∉ X.fs → b ∉ ch → s.heap.get? b = some o → H b = none → h'.get? b = some o)
    (slot : ∀ b o, b ≠ X.env.locals → b ∈ X.fs → b ∉ ch → s.heap.get? b = some o → H b = none → ∃ sl, h'.get? b = some { o with slots := sl }) (free : ∀ b o, b ∉ ch → s.heap.get? b = some o → H b = none → H' b = none)
    (there : ∀ b o, b ∉ ch → s.heap.get? b = some o → ∃ o', h'.get? b = some o')
    (tups : ∀ b xs, H b = some (.tup xs) → H' b = some (.tup xs)) (frzs : ∀ b o u, H b = some (.frz o u) → H' b = some (.frz o u)) (tbls : ∀ b ps, H b = some (.tbl ps) → ∃ more, H' b = some (.tbl (ps ++ more)))
    (ns : ∀ m, s.heap.Ns X.env.locals m → h'.Ns X.env.locals m) (hok : HOk X.prog X.w H' h') (hg : AllBare g') :
    Inv X pins σ H' { s with heap := h', gens := g', drawn := d', toks := t' } := by
  have neL : ∀ b o, X.s_0.heap.get? b = some o → b ≠ X.env.locals := fun b o e => Nat.ne_of_lt (Nat.lt_of_lt_of_le (Heap.lt_size e) I.ok.above)
  have neC : ∀ b o, X.s_0.heap.get? b = some o → b ∉ X.ex → b ∉ ch := fun b o e hx hb => by
    rcases (hch b hb).1 with z | z
    · exact hx z
    · exact absurd (Nat.lt_of_lt_of_le (Heap.lt_size e) z) (Nat.lt_irrefl _)
  have cellK : ∀ x c, X.env.cells.lookup x = some c → ∀ v, s.heap.IsCell c v → h'.IsCell c v := fun x c e v ⟨o, ho, hd⟩ => by
    have nch : c ∉ ch := fun z => (hch c z).2.2.1 x c e rfl
    by_cases hc : c ∈ X.fs
    · obtain ⟨sl, q⟩ := slot c o (I.cne x c e) hc nch ho (I.freeC x c e)
      exact ⟨_, q, hd⟩
    · exact ⟨o, keep c o (I.cne x c e) hc nch ho (I.freeC x c e), hd⟩
  refine ⟨I.ok, I.os, hg, ⟨fun b o e n hb hx => ?_, fun b o e n hb hx => ?_, fun b o e n hx => ?_, fun b o e hx => ?_, fun b xs e => tups b xs (I.base.tups b xs e), fun b o xs e => frzs b o xs (I.base.frzs b o xs e), fun b ps e => ?_⟩, ?_, fun x c e => ?_, ?_, fun x c e => ?_, fun p hp => ?_, hok, I.len⟩
  · exact keep b o (neL b o e) hb (neC b o e hx) (I.base.keep b o e n hb hx) (I.base.free b o e n hx)
  · obtain ⟨sl, e1⟩ := I.base.slot b o e n hb hx
    obtain ⟨sl', e2⟩ := slot b _ (neL b o e) hb (neC b o e hx) e1 (I.base.free b o e n hx)
    exact ⟨sl', e2⟩
  · obtain ⟨o', e1⟩ := I.base.there b o e hx
    exact free b o' (neC b o e hx) e1 (I.base.free b o e n hx)
  · obtain ⟨o', e1⟩ := I.base.there b o e hx
    exact there b o' (neC b o e hx) e1
  · obtain ⟨m1, e1⟩ := I.base.tbls b ps e
    obtain ⟨m2, e2⟩ := tbls b _ e1
    exact ⟨m1 ++ m2, by rw [e2, Array.append_assoc]⟩
  · obtain ⟨m, hn, hl⟩ := I.loc
    refine ⟨m, ns m hn, fun i x v e1 e2 e3 => ?_⟩
    obtain ⟨u, r, l⟩ := hl i x v e1 e2 e3
    refine ⟨u, r, ?_⟩
    rcases l with l | ⟨k, c, e, z⟩
    · exact .inl l
    · exact .inr ⟨k, c, e, cellK x c e _ z⟩
  · obtain ⟨v, z⟩ := I.cell x c e
    exact ⟨v, cellK x c e v z⟩
  · obtain ⟨m, ⟨o, _, _, ho, _⟩, _⟩ := I.loc
    exact free _ o (fun z => (hch _ z).2.1 rfl) ho I.free
  · obtain ⟨v, o, ho, hd⟩ := I.cell x c e
    exact free c o (fun z => (hch c z).2.2.1 x c e rfl) ho (I.freeC x c e)
  · obtain ⟨e, n, ne, nf, d⟩ := I.pin p hp
    have nch : p.1 ∉ ch := fun z => (hch p.1 z).2.2.2 p hp rfl
    exact ⟨keep p.1 p.2 ne nf nch e n, free p.1 p.2 nch e n, ne, nf, d⟩
/-- .. where the frame's own object is kept too -/
theorem Inv.un {t' : Nat} (I : Inv X pins σ H s) (u : Un X.fs [] H H' s.heap h') (hok : HOk X.prog X.w H' h') : Inv X pins σ H' { s with heap := h', toks := t' } := by
  obtain ⟨m, ⟨o, es, ep, ho, r⟩, _⟩ := id I.loc
  obtain ⟨sl, hL⟩ := u.any ho I.free (by simp)
  exact I.step (g' := s.gens) (d' := s.drawn) (ch := []) (fun _ z => nomatch z) (fun b o _ hb _ e n => u.keep b o e n hb (by simp)) (fun b o _ hb _ e n => u.slot b o e n hb (by simp)) (fun b o _ e n => u.free b o e n (by simp)) (fun b o _ e => u.there b o e (by simp)) u.tups u.frzs u.tbls (fun m' hm => by
    obtain ⟨o', es', ep', ho', r'⟩ := hm
    rw [ho] at ho'; cases ho'
    exact ⟨_, es', ep', hL, r'⟩) hok I.bare
/-- behind a call (or a comprehension's block): the slots of this frame may have changed too, the records at ch may have turned -/
theorem Inv.call {g' : Array GenState} {t' : Nat} {d' : Drawn} {ch : List Addr} (I : Inv X pins σ H s) (u : Un (frs X.stack) ch H H' s.heap h') (hok : HOk X.prog X.w H' h') (hg : AllBare g')
    (hch : ∀ b ∈ ch, (b ∈ X.ex ∨ X.s_0.heap.objs.size ≤ b) ∧ b ≠ X.env.locals ∧ (∀ x c, X.env.cells.lookup x = some c → c ≠ b) ∧ ∀ p ∈ X.pn ++ pins, p.1 ≠ b) :
    Inv X pins σ H' { s with heap := h', gens := g', drawn := d', toks := t' } := by
  obtain ⟨m, ⟨o, es, ep, ho, r⟩, _⟩ := id I.loc
  obtain ⟨sl, hL⟩ := u.any ho I.free fun z => (hch _ z).2.1 rfl
  exact I.step (ch := ch) hch (fun b o hL hb hc e n => u.keep b o e n (fun z => (List.mem_cons.mp (I.stkSub b z)).elim hL hb) hc) (fun b o _ _ hc e n => u.any e n hc) (fun b o hc e n => u.free b o e n hc) (fun b o hc e => u.there b o e hc) u.tups u.frzs u.tbls (fun m' hm => by
    obtain ⟨o', es', ep', ho', r'⟩ := hm
    rw [ho] at ho'; cases ho'
    exact ⟨_, es', ep', hL, r'⟩) hok hg
/-- an untracked record of ours (an iterator) has turned -/
theorem Inv.turned {t' : Nat} {it : Addr} (I : Inv X pins σ H s) (k : ∀ b o, b ≠ it → s.heap.get? b = some o → h'.get? b = some o) (hn : H it = none) (hL : it ≠ X.env.locals)
    (h1 : it ∈ X.ex ∨ X.s_0.heap.objs.size ≤ it) (h2 : ∀ x c, X.env.cells.lookup x = some c → c ≠ it) (h3 : ∀ p ∈ X.pn ++ pins, p.1 ≠ it) : Inv X pins σ H { s with heap := h', toks := t' } := by
  have nit : ∀ b u, H b = some u → b ≠ it := fun b u e z => by rw [z, hn] at e; cases e
  refine I.step (g' := s.gens) (d' := s.drawn) (ch := [it]) (fun b hb => ?_) (fun b o _ _ hc e _ => k b o (fun z => hc (by simp [z])) e) (fun b o _ _ hc e _ => ⟨o.slots, k b o (fun z => hc (by simp [z])) e⟩) (fun _ _ _ _ n => n)
    (fun b o hc e => ⟨o, k b o (fun z => hc (by simp [z])) e⟩) (fun _ _ e => e) (fun _ _ _ e => e) (fun b ps e => ⟨#[], by rw [e]; simp⟩) (fun m hm => ?_) (fun b u e => ?_) I.bare
  · have e : b = it := by simpa using hb
    subst e
    exact ⟨h1, hL, h2, h3⟩
  · obtain ⟨o, es, ep, ho, r⟩ := hm
    exact ⟨o, es, ep, k _ o (Ne.symm hL) ho, r⟩
  · refine (I.hok b u e).stay (fun c v hc q => k c v ?_ q) (fun _ q => q) fun _ _ q => q
    rcases hc with z | z
    · rw [z]; exact nit b u e
    · exact nit c _ z
theorem Inv.tok (I : Inv X pins σ H s) (t : Nat) : Inv X pins σ H { s with toks := t } := I.un (h' := s.heap) (t' := t) Un.refl I.hok
/-- all objects kept -/
theorem Inv.kept {t' : Nat} (I : Inv X pins σ H s) (k : ∀ b u, s.heap.get? b = some u → h'.get? b = some u) : Inv X pins σ H { s with heap := h', toks := t' } := I.un (Un.kept k) (I.hok.kept k)
/-- a new object laid and tracked -/
theorem Inv.laid {a : Addr} {o : HO} {t' : Nat} (I : Inv X pins σ H s) (k : ∀ b u, s.heap.get? b = some u → h'.get? b = some u) (hp : s.heap.objs.size ≤ a) (new : ObjOk X.prog X.w (upd H a o) h' a o) :
    Inv X pins σ (upd H a o) { s with heap := h', toks := t' } := I.un (Un.laid k hp (I.hok.fresh hp)) (I.hok.laid k hp new)
/-- an object written -/
theorem Inv.write {x e : Addr} {o : HO} {t' : Nat} (I : Inv X pins σ H s) (mu : Mut (H x)) (he : e = x ∨ H e = some (.own x)) (k : ∀ b u, b ≠ e → s.heap.get? b = some u → h'.get? b = some u) (heo : ∃ u, h'.get? e = some u)
    (new : ObjOk X.prog X.w (upd H x o) h' x o) : Inv X pins σ (upd H x o) { s with heap := h', toks := t' } := I.un (Un.write mu he k heo) (I.hok.write mu he k heo new)
/-- forgetting slots, pins -/
theorem Inv.weak {σ' : List (Option V)} (I : Inv X pins σ H s) (hl : σ'.length = σ.length) (w : ∀ (i : Nat) v, σ'[i]? = some (some v) → σ[i]? = some (some v)) : Inv X pins σ' H s :=
  ⟨I.ok, I.os, I.bare, I.base, let ⟨m, hn, hl'⟩ := I.loc; ⟨m, hn, fun i x v e1 e2 e3 => hl' i x v e1 (w i v e2) e3⟩, I.cell, I.free, I.freeC, I.pin, I.hok, hl.trans I.len⟩
theorem Inv.pins_of {pins' : List (Addr × Obj)} (I : Inv X pins σ H s) (h : ∀ p ∈ pins', s.heap.get? p.1 = some p.2 ∧ H p.1 = none ∧ p.1 ≠ X.env.locals ∧ p.1 ∉ X.fs ∧ ∀ v, p.2.data ≠ .cell v) : Inv X pins' σ H s :=
  ⟨I.ok, I.os, I.bare, I.base, I.loc, I.cell, I.free, I.freeC, fun p hp => (List.mem_append.mp hp).elim (fun z => I.pin p (List.mem_append_left _ z)) (h p), I.hok, I.len⟩

theorem nodup_ix {N : List Str} (hN : N.Nodup) {i j : Nat} {x : Str} (a : N[i]? = some x) (b : N[j]? = some x) : i = j := by
  obtain ⟨h1, e1⟩ := List.getElem?_eq_some_iff.mp a
  obtain ⟨h2, e2⟩ := List.getElem?_eq_some_iff.mp b
  exact (List.getElem_inj hN).mp (e1.trans e2.symm)

/-- a name is stored; what changed -/
theorem store_ok2 {M : Model} {A : Around} {E : Value → Shared → Prop} {i : Nat} {x : Str} {v : V} {u : Value} {Q : Unit → Shared → Prop} (I : Inv X pins σ H s) (hN : X.N.Nodup) (hi : X.N[i]? = some x) (hx : Loc X.env.scope x) (r : RelV v u)
    (h : ∀ s', Inv X pins (σ.set i (some v)) H s' → (∃ a, Heap.SameBut a s.heap s'.heap ∧ (a = X.env.locals ∨ X.env.cells.lookup x = some a)) → Q () s') (hf : X.fn x = true ∨ X.env.scope.names.lookup x = some .local := by first | exact .inl rfl | exact .inr rfl | assumption) : wpAny M A (storeName X.env x u) Q E s := by
  obtain ⟨m, hn, hl⟩ := id I.loc
  have hcls : (X.env.scope.kind == .class || (X.env.scope.kind == .module && X.env.locals != X.env.globals)) = false := by rw [I.ok.kind]; rfl
  have hiσ : i < σ.length := by rw [I.len]; exact (List.getElem?_eq_some_iff.mp hi).1
  have cne := I.cne
  have tracked : ∀ {a : Addr} {h' : Heap}, (∃ o, s.heap.get? a = some o ∧ H a = none) → Heap.SameBut a s.heap h' → HOk X.prog X.w H h' := fun {a h'} ha hs b ob e => by
    obtain ⟨_, _, hfree⟩ := ha
    refine (I.hok b ob e).stay (fun c w' hc q => (hs.2 c ?_).trans q) (fun _ q => q) fun _ _ q => q
    rintro rfl
    rcases hc with rfl | hc
    · rw [hfree] at e; cases e
    · rw [hfree] at hc; cases hc
  rcases hx with hk | hk
  · refine wpAny_storeName_local hk hn (fun h' hn' hs => ?_) hcls
    obtain ⟨oL, _, _, hoL, _⟩ := id hn
    refine h _ ⟨I.ok, I.os, I.bare, ⟨fun b o e n hb hx => ?_, fun b o e n hb hx => ?_, I.base.free, fun b o e hx => ?_, I.base.tups, I.base.frzs, I.base.tbls⟩, ⟨_, hn', fun j y v' e1 e2 e3 => ?_⟩, fun y c e => ?_, I.free, I.freeC, fun p hp => ?_, tracked ⟨oL, hoL, I.free⟩ hs, by simpa using I.len⟩ ⟨_, hs, .inl rfl⟩
    · exact (hs.2 b (Nat.ne_of_lt (Nat.lt_of_lt_of_le (Heap.lt_size e) I.ok.above))).trans (I.base.keep b o e n hb hx)
    · obtain ⟨sl, e1⟩ := I.base.slot b o e n hb hx
      exact ⟨sl, (hs.2 b (Nat.ne_of_lt (Nat.lt_of_lt_of_le (Heap.lt_size e) I.ok.above))).trans e1⟩
    · obtain ⟨o', e1⟩ := I.base.there b o e hx
      exact ⟨o', (hs.2 b (Nat.ne_of_lt (Nat.lt_of_lt_of_le (Heap.lt_size e) I.ok.above))).trans e1⟩
    · by_cases hj : j = i
      · subst hj
        rw [hi] at e1; cases e1
        rw [List.getElem?_set_self hiσ] at e2
        cases e2
        exact ⟨u, r, .inl ⟨hk, by simp⟩⟩
      · rw [List.getElem?_set_ne (Ne.symm hj)] at e2
        obtain ⟨u', r', q⟩ := hl j y v' e1 e2 e3
        refine ⟨u', r', ?_⟩
        rcases q with ⟨k, e⟩ | ⟨k, c, e, z⟩
        · refine .inl ⟨k, ?_⟩
          have : y ≠ x := fun e => hj (nodup_ix hN e1 (e ▸ hi))
          simp [this, e]
        · exact .inr ⟨k, c, e, z.sameBut hs (cne y c e)⟩
    · obtain ⟨w', z⟩ := I.cell y c e
      exact ⟨w', z.sameBut hs (cne y c e)⟩
    · obtain ⟨e, n, ne, nf, d⟩ := I.pin p hp
      exact ⟨(hs.2 p.1 ne).trans e, n, ne, nf, d⟩
  · have hfn : X.fn x = true := by
      rcases hf with z | z
      · exact z
      · rw [z] at hk; cases hk
    obtain ⟨c, hc⟩ := I.ok.has x (.inl hk)
    obtain ⟨w', z⟩ := I.cell x c hc
    refine wpAny_storeName_cell I.ok.kind hk hc z (fun h' hc' hs => ?_)
    obtain ⟨oc, hoc, hocd⟩ := id z
    refine h { s with heap := h' } ⟨I.ok, I.os, I.bare, ⟨fun b o e n hb hx => ?_, fun b o e n hb hx => ?_, I.base.free, fun b o e hx => ?_, I.base.tups, I.base.frzs, I.base.tbls⟩, ⟨m, hn.sameBut hs (Ne.symm (cne x c hc)), fun j y v' e1 e2 e3 => ?_⟩, fun y c' e => ?_, I.free, I.freeC, fun p hp => ?_, tracked ⟨oc, hoc, I.freeC x c hc⟩ hs, by simpa using I.len⟩ ⟨c, hs, .inr hc⟩
    · exact (hs.2 b (Nat.ne_of_lt (Nat.lt_of_lt_of_le (Heap.lt_size e) (I.ok.cab x c hfn hc)))).trans (I.base.keep b o e n hb hx)
    · obtain ⟨sl, e1⟩ := I.base.slot b o e n hb hx
      exact ⟨sl, (hs.2 b (Nat.ne_of_lt (Nat.lt_of_lt_of_le (Heap.lt_size e) (I.ok.cab x c hfn hc)))).trans e1⟩
    · obtain ⟨o', e1⟩ := I.base.there b o e hx
      exact ⟨o', (hs.2 b (Nat.ne_of_lt (Nat.lt_of_lt_of_le (Heap.lt_size e) (I.ok.cab x c hfn hc)))).trans e1⟩
    · by_cases hj : j = i
      · subst hj
        rw [hi] at e1; cases e1
        rw [List.getElem?_set_self hiσ] at e2
        cases e2
        exact ⟨u, r, .inr ⟨.inl hk, c, hc, hc'⟩⟩
      · rw [List.getElem?_set_ne (Ne.symm hj)] at e2
        obtain ⟨u', r', q⟩ := hl j y v' e1 e2 e3
        refine ⟨u', r', ?_⟩
        rcases q with q | ⟨k, c', e, z'⟩
        · exact .inl q
        · refine .inr ⟨k, c', e, z'.sameBut hs ?_⟩
          rintro rfl
          exact hj (nodup_ix hN e1 (I.ok.inj _ _ _ e hc ▸ hi))
    · by_cases hcc : c' = c
      · subst hcc; exact ⟨_, hc'⟩
      · obtain ⟨w2, z2⟩ := I.cell y c' e
        exact ⟨w2, z2.sameBut hs hcc⟩
    · obtain ⟨e, n, ne, nf, d⟩ := I.pin p hp
      refine ⟨(hs.2 p.1 ?_).trans e, n, ne, nf, d⟩
      intro q
      rw [q, hoc] at e
      have q' : oc = p.2 := Option.some.inj e
      exact d w' (by rw [← q']; exact hocd)
theorem store_ok {M : Model} {A : Around} {E : Value → Shared → Prop} {i : Nat} {x : Str} {v : V} {u : Value} {Q : Unit → Shared → Prop} (I : Inv X pins σ H s) (hN : X.N.Nodup) (hi : X.N[i]? = some x) (hx : Loc X.env.scope x) (r : RelV v u)
    (h : ∀ s', Inv X pins (σ.set i (some v)) H s' → Q () s') (hf : X.fn x = true ∨ X.env.scope.names.lookup x = some .local := by first | exact .inl rfl | exact .inr rfl | assumption) : wpAny M A (storeName X.env x u) Q E s :=
  store_ok2 I hN hi hx r (fun s' I' _ => h s' I') hf
/-- behind a call or a block, the state as it is -/
theorem Inv.call' {s' : Shared} {ch : List Addr} (I : Inv X pins σ H s) (ho : s'.os = s.os) (u : Un (frs X.stack) ch H H' s.heap s'.heap) (hok : HOk X.prog X.w H' s'.heap) (hg : AllBare s'.gens)
    (hch : ∀ b ∈ ch, (b ∈ X.ex ∨ X.s_0.heap.objs.size ≤ b) ∧ b ≠ X.env.locals ∧ (∀ x c, X.env.cells.lookup x = some c → c ≠ b) ∧ ∀ p ∈ X.pn ++ pins, p.1 ≠ b) : Inv X pins σ H' s' := by
  obtain ⟨h', g', d', t', o'⟩ := s'
  have e : o' = s.os := ho
  subst e
  exact I.call (g' := g') (t' := t') (d' := d') u hok hg hch
end

/-! ### the judgements -/
/-- an exception: its class, its own dict's address (where it has one), the abstract heap behind it -/
abbrev XK := Value → Option Addr → Hp → Prop
abbrev St := List (Option V)
abbrev VK := V → Hp → Prop
/-- an expression's reading; a test's; an argument list's -/
abbrev TE := St → Hp → VK → Prop
abbrev TT := St → Hp → (Bool → Hp → Prop) → Prop
abbrev TA := St → Hp → (List V → Hp → Prop) → Prop
/-- what is wanted behind a statement -/
structure Ends where
  nx : St → Hp → Prop
  rt : VK
  bk : St → Hp → Prop := fun _ _ => False
  ct : St → Hp → Prop := fun _ _ => False
abbrev TS := Ends → St → Hp → Prop

def EP (X : Cx) (pins : List (Addr × Obj)) (σ : St) (Q : VK) (u : Value) (s' : Shared) : Prop := ∃ v H', Inv X pins σ H' s' ∧ RelV v u ∧ Q v H'
def TP (X : Cx) (pins : List (Addr × Obj)) (σ : St) (Q : Bool → Hp → Prop) (b : Bool) (s' : Shared) : Prop := ∃ H', Inv X pins σ H' s' ∧ Q b H'
def AP (X : Cx) (pins : List (Addr × Obj)) (σ : St) (Q : List V → Hp → Prop) (us : List Value) (s' : Shared) : Prop := ∃ vs H', Inv X pins σ H' s' ∧ Vals vs us ∧ Q vs H'
def SP (X : Cx) (pins : List (Addr × Obj)) (D : Ends) (f : Flow) (s' : Shared) : Prop :=
  match f with
  | .next => ∃ σ' H', Inv X pins σ' H' s' ∧ D.nx σ' H'
  | .brk => ∃ σ' H', Inv X pins σ' H' s' ∧ D.bk σ' H'
  | .cont => ∃ σ' H', Inv X pins σ' H' s' ∧ D.ct σ' H'
  | .ret u => ∃ v σ' H', Inv X pins σ' H' s' ∧ RelV v u ∧ D.rt v H'

def PE (X : Cx) (e : Expr) (t : TE) : Prop :=
  ∀ (pins : List (Addr × Obj)) (s : Shared) (σ : St) (H : Hp) (Q : VK), Inv X pins σ H s → t σ H Q → wpAny (model X.prog X.w) X.A (eval e X.env) (EP X pins σ Q) X.xe s
def PT (X : Cx) (e : Expr) (t : TT) : Prop :=
  ∀ (pins : List (Addr × Obj)) (s : Shared) (σ : St) (H : Hp) (Q : Bool → Hp → Prop), Inv X pins σ H s → t σ H Q → wpAny (model X.prog X.w) X.A (isTrue e X.env (eval e X.env)) (TP X pins σ Q) X.xe s
/-- a test whatever its 'whole' is (and, or) -/
def PW (X : Cx) (e : Expr) (t : TT) : Prop :=
  ∀ (whole : Sem Value) (pins : List (Addr × Obj)) (s : Shared) (σ : St) (H : Hp) (Q : Bool → Hp → Prop), Inv X pins σ H s → t σ H Q → wpAny (model X.prog X.w) X.A (isTrue e X.env whole) (TP X pins σ Q) X.xe s
theorem PW.pt {X : Cx} {e : Expr} {t : TT} (h : PW X e t) : PT X e t := h _
/-- an argument list (no star), from the left -/
def PA (X : Cx) (es : List Expr) (t : TA) : Prop :=
  ∀ (pos : Pos) (pins : List (Addr × Obj)) (s : Shared) (σ : St) (H : Hp) (Q : List V → Hp → Prop), Inv X pins σ H s → t σ H Q → wpAny (model X.prog X.w) X.A (spliced (backTo pos (starEach es X.env))) (AP X pins σ Q) X.xe s
def PS (X : Cx) (st : Stmt) (t : TS) : Prop :=
  ∀ (pins : List (Addr × Obj)) (s : Shared) (σ : St) (H : Hp) (D : Ends), Inv X pins σ H s → t D σ H → wpAny (model X.prog X.w) X.A (exec st X.env) (SP X pins D) X.xe s
def PSs (X : Cx) (st : List Stmt) (t : TS) : Prop :=
  ∀ (pins : List (Addr × Obj)) (s : Shared) (σ : St) (H : Hp) (D : Ends), Inv X pins σ H s → t D σ H → wpAny (model X.prog X.w) X.A (execs st X.env) (SP X pins D) X.xe s
/-- weaken the end -/
theorem thn {α : Type} {t : Sem α} {Q Q' : α → Shared → Prop} {M : Model} {A : Around} {E : Value → Shared → Prop} {s : Shared} (h : wpAny M A t Q E s) (hQ : ∀ a s, Q a s → Q' a s) : wpAny M A t Q' E s := wpAny_mono h hQ fun _ _ x => x
end L2

namespace L2
open PySem PySem.Spec PyProof.Rows
section
variable {X : Cx}

/-- two expressions in a row -/
theorem bin {a b : Expr} {ta tb : TE} (ha : PE X a ta) (hb : PE X b tb) {pins : List (Addr × Obj)} {s : Shared} {σ : St} {H : Hp} {R : V → V → Hp → Prop} (I : Inv X pins σ H s) (h : ta σ H fun x H1 => tb σ H1 fun y H2 => R x y H2)
    {α : Type} {Q : α → Shared → Prop} {f : Value → Value → Sem α}
    (hf : ∀ v u s2 x y H2, Inv X pins σ H2 s2 → RelV x v → RelV y u → R x y H2 → wpAny (model X.prog X.w) X.A (f v u) Q X.xe s2) :
    wpAny (model X.prog X.w) X.A (eval a X.env) (fun v s₁ => wpAny (model X.prog X.w) X.A (eval b X.env) (fun u s₂ => wpAny (model X.prog X.w) X.A (f v u) Q X.xe s₂) X.xe s₁) X.xe s := by
  refine thn (ha pins s σ H _ I h) fun v s1 ⟨x, H1, I1, r1, q1⟩ => ?_
  refine thn (hb pins s1 σ H1 _ I1 q1) fun u s2 ⟨y, H2, I2, r2, q2⟩ => ?_
  exact hf v u s2 x y H2 I2 r1 r2 q2

/-! ### names and constants -/
def tVar (i : Nat) : TE := fun σ H Q => ∃ v, σ[i]? = some (some v) ∧ Q v H
def tC (v : V) : TE := fun _ H Q => Q v H
theorem pe_var {i : Nat} {x : Str} {pos : Pos} (hN : X.N[i]? = some x) (hv : Vis X.env.scope x) (hd : (x == ("__debug__" : Str)) = false := by decide) (hcd : (x == ("__classdict__" : Str)) = false := by decide) : PE X (.Name x pos) (tVar i) := by
  intro pins s σ H Q I h
  obtain ⟨v, e, h⟩ := h
  obtain ⟨m, hn, hl⟩ := I.loc
  obtain ⟨u, r, l⟩ := hl i x v hN e hv
  have fin : EP X pins σ Q u s := ⟨v, H, I, r, h⟩
  rcases l with ⟨hk, hm⟩ | ⟨hk, c, hc, hcell⟩
  · exact wpAny_Name (wpAny_loadName_local I.ok.kind hk hn hm fin) hd
  · rcases hk with hk | hk
    · exact wpAny_Name (wpAny_loadName_cell I.ok.kind hk hc hcell fin) hd
    · exact wpAny_Name (wpAny_loadName_free I.ok.kind hk hc hcell fin hcd) hd
theorem pe_int {i j pos} : PE X (.Constant (.int i) j pos) (tC (.int i)) := fun _ _ _ H _ I h => wpAny_Constant_int ⟨.int i, H, I.tok _, ⟨_, rfl⟩, h⟩
theorem pe_bl {b j pos} : PE X (.Constant (.bool b) j pos) (tC (.bl b)) := fun _ _ _ H _ I h => Constant_bool ⟨.bl b, H, I, rfl, h⟩
theorem pe_non {j pos} : PE X (.Constant .none j pos) (tC .non) := fun _ _ _ H _ I h => Constant_none ⟨.non, H, I, rfl, h⟩
theorem pe_str {x j pos} : PE X (.Constant (.str x) j pos) (tC (.str x)) := fun _ _ _ H _ I h => Calls.Constant_str ⟨.str x, H, I.tok _, ⟨_, rfl⟩, h⟩

/-- a global name of the def -/
def Gl (X : Cx) (x : Str) : Prop := X.env.kindOf x = some .globalImplicit
theorem ld_glob {E : Value → Shared → Prop} {pins : List (Addr × Obj)} {s : Shared} {σ : St} {H : Hp} {x : Str} {u : Value} {pos : Pos} {Q : Value → Shared → Prop} (I : Inv X pins σ H s) (hg : Gl X x) (hm : X.mg x = some u) (h : Q u s)
    (hd : (x == ("__debug__" : Str)) = false := by decide) : wpAny (model X.prog X.w) X.A (eval (.Name x pos) X.env) Q E s :=
  Calls.Name_function_global I.ok.kind hg (Calls.loadGlobal_global (by rw [I.ok.glob]; exact I.mod.glob.keeps I.bk) hm h) hd
theorem ld_blt {E : Value → Shared → Prop} {pins : List (Addr × Obj)} {s : Shared} {σ : St} {H : Hp} {x : Str} {u : Value} {pos : Pos} {Q : Value → Shared → Prop} (I : Inv X pins σ H s) (hg : Gl X x) (hm : X.mg x = none) (hv : bootBuiltins x = some u) (h : Q u s)
    (hn : x ≠ "__name__" := by decide) (hd : (x == ("__debug__" : Str)) = false := by decide) : wpAny (model X.prog X.w) X.A (eval (.Name x pos) X.env) Q E s := by
  obtain ⟨mb, h1, h2⟩ := I.mod.blt
  exact Calls.Name_function_global I.ok.kind hg (Calls.loadGlobal_builtin (by rw [I.ok.glob]; exact I.mod.glob.keeps I.bk) hm (by rw [I.ok.blt]; exact h1.keeps I.bk) ((h2 x hn).trans hv) h) hd
/-- a module's constant, a class, a function, as a value -/
theorem pe_glob {x : Str} {v : V} {u : Value} {pos : Pos} (hg : Gl X x) (hm : X.mg x = some u) (r : RelV v u) (hd : (x == ("__debug__" : Str)) = false := by decide) : PE X (.Name x pos) (tC v) :=
  fun _ _ _ H _ I h => ld_glob I hg hm ⟨v, H, I, r, h⟩ hd
/-! ### arithmetic -/
/-- two ints -/
def t2I (ta tb : TE) (k : Int → Int → Hp → Prop) : St → Hp → Prop := fun σ H => ta σ H fun x H1 => tb σ H1 fun y H2 => ∃ i j, x = .int i ∧ y = .int j ∧ k i j H2
def tAdd (ta tb : TE) : TE := fun σ H Q => t2I ta tb (fun i j H2 => Q (.int (i + j)) H2) σ H
def tSub (ta tb : TE) : TE := fun σ H Q => t2I ta tb (fun i j H2 => Q (.int (i - j)) H2) σ H
/-- the left factor below 2^64 -/
def tMul (ta tb : TE) : TE := fun σ H Q => t2I ta tb (fun i j H2 => (-(2 ^ 64) < i ∧ i < 2 ^ 64) ∧ Q (.int (i * j)) H2) σ H
variable {a b : Expr} {ta tb : TE} {pos : Pos}
/-! ### comparisons -/
def PC (X : Cx) (op : CmpOp) (a b : Expr) (t : TE) : Prop :=
  ∀ (pins : List (Addr × Obj)) (s : Shared) (σ : St) (H : Hp) (Q : VK), Inv X pins σ H s → t σ H Q →
    wpAny (model X.prog X.w) X.A (eval a X.env) (fun v s₁ => wpAny (model X.prog X.w) X.A (eval b X.env) (fun u s₂ => wpAny (model X.prog X.w) X.A (compareOp op v u) (EP X pins σ Q) X.xe s₂) X.xe s₁) X.xe s
def tCmp (p : Int → Int → Bool) (ta tb : TE) : TE := fun σ H Q => t2I ta tb (fun i j H2 => Q (.bl (p i j)) H2) σ H
abbrev tLt : TE → TE → TE := tCmp fun i j => decide (i < j)
abbrev tLe : TE → TE → TE := tCmp fun i j => decide (i ≤ j)
abbrev tGt : TE → TE → TE := tCmp fun i j => decide (j < i)
abbrev tGe : TE → TE → TE := tCmp fun i j => decide (j ≤ i)
abbrev tEqI : TE → TE → TE := tCmp fun i j => decide (i = j)
abbrev tNeI : TE → TE → TE := tCmp fun i j => !decide (i = j)
/-- is None -/
def tIsN (ta : TE) : TE := fun σ H Q => ta σ H fun x H1 => Q (.bl (decide (x = .non))) H1
def tNotN (ta : TE) : TE := fun σ H Q => ta σ H fun x H1 => Q (.bl (!decide (x = .non))) H1
/-- a comparison as a value, as a test -/
def tB (t : TE) : TT := fun σ H Q => t σ H fun x H1 => ∃ c, x = .bl c ∧ Q c H1
theorem pt_cmp {op : CmpOp} {t : TE} (h : PC X op a b t) (h1 : behindInMarks op b = false := by first | exact nobehind _ (by decide) (by decide) | rfl) : PT X (.Compare a [op] [b] pos) (tB t) := by
  intro pins s σ H Q I hw
  refine wpAny_isTrue_Compare1 (thn (h pins s σ H _ I hw) fun v s1 h1 => thn h1 fun u s2 h2 => thn h2 fun c s3 ⟨x, H1, I1, r1, q1⟩ => ?_) h1
  obtain ⟨d, rfl, q⟩ := q1
  cases r1
  exact wpAny_truthy_bool ⟨H1, I1, q⟩
/-- an expression whose value is a bool, as a test -/
theorem pt_val {e : Expr} {t : TE} (h : PE X e t) (he : ∀ whole, isTrue e X.env whole = (do let v ← whole; standAt e.pos; holding [v] (truthy v)) := by intro _; rfl) : PT X e (tB t) := by
  intro pins s σ H Q I hw
  refine isTrue_plain (thn (h pins s σ H _ I hw) fun v s1 ⟨x, H1, I1, r1, q1⟩ => ?_) (he _)
  obtain ⟨d, rfl, q⟩ := q1
  cases r1
  exact wpAny_truthy_bool ⟨H1, I1, q⟩

/-! ### and, or, not -/
variable {tA tB' : TT} {rest : List Expr}
def tAnd (t u : TT) : TT := fun σ H Q => t σ H fun c H1 => if c = true then u σ H1 Q else Q false H1
def tOr (t u : TT) : TT := fun σ H Q => t σ H fun c H1 => if c = true then Q true H1 else u σ H1 Q
def tNot (t : TT) : TT := fun σ H Q => t σ H fun c H1 => Q (!c) H1
theorem pw_and1 (ha : PT X a tA) : PW X (.BoolOp .And [a] pos) tA := by
  intro wh pins s σ H Q I h
  refine isTrue_and (thn (ha pins s σ H Q I h) fun c s1 e => ?_)
  cases c with
  | true => exact isTrue_and_nil e
  | false => exact e
theorem pw_or1 (ha : PT X a tA) : PW X (.BoolOp .Or [a] pos) tA := by
  intro wh pins s σ H Q I h
  refine isTrue_or (thn (ha pins s σ H Q I h) fun c s1 e => ?_)
  cases c with
  | false => exact isTrue_or_nil e
  | true => exact e
theorem pw_and (ha : PT X a tA) (hb : PW X (.BoolOp .And (b :: rest) pos) tB') : PW X (.BoolOp .And (a :: b :: rest) pos) (tAnd tA tB') := by
  intro wh pins s σ H Q I h
  refine isTrue_and (thn (ha pins s σ H _ I h) fun c s1 ⟨H1, I1, q1⟩ => ?_)
  cases c with
  | true => exact hb wh pins s1 σ H1 Q I1 q1
  | false => exact ⟨H1, I1, q1⟩
theorem pw_or (ha : PT X a tA) (hb : PW X (.BoolOp .Or (b :: rest) pos) tB') : PW X (.BoolOp .Or (a :: b :: rest) pos) (tOr tA tB') := by
  intro wh pins s σ H Q I h
  refine isTrue_or (thn (ha pins s σ H _ I h) fun c s1 ⟨H1, I1, q1⟩ => ?_)
  cases c with
  | true => exact ⟨H1, I1, q1⟩
  | false => exact hb wh pins s1 σ H1 Q I1 q1
theorem pt_not (ha : PT X a tA) : PT X (.UnaryOp .Not a pos) (tNot tA) := by
  intro pins s σ H Q I h
  exact isTrue_not (ha pins s σ H (fun c H1 => Q (!c) H1) I h)
/-- .. as values (bools) -/
def tAndV (ta tb : TE) : TE := fun σ H Q => ta σ H fun x H1 => ∃ c, x = .bl c ∧ if c = true then tb σ H1 Q else Q (.bl false) H1
def tOrV (ta tb : TE) : TE := fun σ H Q => ta σ H fun x H1 => ∃ c, x = .bl c ∧ if c = true then Q (.bl true) H1 else tb σ H1 Q
def tNotV (ta : TE) : TE := fun σ H Q => ta σ H fun x H1 => ∃ c, x = .bl c ∧ Q (.bl (!c)) H1
theorem pe_one {op} {t : TE} (h : PE X a t) : PE X (.BoolOp op [a] pos) t := fun pins s σ H Q I hw => BoolOp_one (h pins s σ H Q I hw)
theorem pe_and (ha : PE X a ta) (hb : PE X (.BoolOp .And (b :: rest) pos) tb) : PE X (.BoolOp .And (a :: b :: rest) pos) (tAndV ta tb) := by
  intro pins s σ H Q I h
  refine BoolOp_and (thn (ha pins s σ H _ I h) fun v s1 ⟨x, H1, I1, r1, q1⟩ => ?_)
  obtain ⟨c, rfl, q1⟩ := q1
  cases r1
  refine wpAny_truthy_bool ?_
  cases c with
  | true => exact hb pins s1 σ H1 Q I1 q1
  | false => exact ⟨.bl false, H1, I1, rfl, q1⟩
theorem pe_or (ha : PE X a ta) (hb : PE X (.BoolOp .Or (b :: rest) pos) tb) : PE X (.BoolOp .Or (a :: b :: rest) pos) (tOrV ta tb) := by
  intro pins s σ H Q I h
  refine BoolOp_or (thn (ha pins s σ H _ I h) fun v s1 ⟨x, H1, I1, r1, q1⟩ => ?_)
  obtain ⟨c, rfl, q1⟩ := q1
  cases r1
  refine wpAny_truthy_bool ?_
  cases c with
  | false => exact hb pins s1 σ H1 Q I1 q1
  | true => exact ⟨.bl true, H1, I1, rfl, q1⟩
/-- a if t else b -/
def tIf (t : TT) (ta tb : TE) : TE := fun σ H Q => t σ H fun c H1 => if c = true then ta σ H1 Q else tb σ H1 Q
end
end L2

namespace L2
open PySem PySem.Spec PyProof.Rows

/-! ### a list, a tuple that is read: tracked, frozen, or an object of the module -/
def SqL (K : PySem.W.Frag) (H : Hp) (a : Addr) (xs : List V) : Prop :=
  Rd H a (.lst xs) ∨
    ∃ (o : Obj) (its : Array Value) (n : Nat), K.lookup a = some o ∧ o.cls = .type "list" ∧ o.dict = none ∧ o.data = .seq its n ∧ its.size ≤ sizeLine ∧ Vals xs its.toList
def SqT (K : PySem.W.Frag) (H : Hp) (a : Addr) (xs : List V) : Prop :=
  Rd H a (.tup xs) ∨
    ∃ (o : Obj) (its : Array Value) (n : Nat), K.lookup a = some o ∧ o.cls = .type "tuple" ∧ o.data = .seq its n ∧ its.size ≤ sizeLine ∧ Vals xs its.toList
def absV : Value → Option V
  | .none => some .non
  | .bool b => some (.bl b)
  | .int i _ => some (.int i)
  | .str x _ => some (.str x)
  | .bytes b _ => some (.byt b)
  | .float b _ => some (.flt b)
  | .ref a => some (.ref a)
  | .type n => some (.ty n)
  | _ => none
theorem RelV.abs {x : V} {u : Value} (r : RelV x u) : absV u = some x := by
  cases x with
  | non => cases r; rfl
  | bl _ => cases r; rfl
  | int _ => obtain ⟨t, rfl⟩ := r; rfl
  | str _ => obtain ⟨t, rfl⟩ := r; rfl
  | byt _ => obtain ⟨t, rfl⟩ := r; rfl
  | flt _ => obtain ⟨t, rfl⟩ := r; rfl
  | ref _ => cases r; rfl
  | ty _ => cases r; rfl
theorem RelV.inj {x y : V} {u : Value} (r : RelV x u) (q : RelV y u) : x = y := Option.some.inj (r.abs.symm.trans q.abs)
theorem Vals.inj : ∀ {xs ys : List V} {us : List Value}, Vals xs us → Vals ys us → xs = ys
  | _, _, _, .nil, .nil => rfl
  | _, _, _, .cons r t, .cons r' t' => by rw [r.inj r', Vals.inj t t']
section
variable {X : Cx} {pins : List (Addr × Obj)} {σ : St} {H : Hp} {s : Shared} {a : Addr} {xs ys : List V}
theorem SqL.of {K : PySem.W.Frag} (h : H a = some (.lst xs)) : SqL K H a xs := .inl (.inl h)
theorem SqT.of {K : PySem.W.Frag} (h : H a = some (.tup xs)) : SqT K H a xs := .inl (.inl h)
theorem Inv.list (I : Inv X pins σ H s) (h : SqL X.K H a xs) : ∃ its : List Value, Vals xs its ∧ PlainL s.heap a its.toArray ∧ xs.length ≤ sizeLine := by
  rcases h with h | ⟨o, its, n, hk, hc, hd, hs, hz, r⟩
  · obtain ⟨z, its, n, r, e⟩ := h.ok I.hok
    exact ⟨its, r, ⟨_, n, e, rfl, rfl, rfl⟩, z⟩
  · refine ⟨its.toList, r, ⟨o, n, I.kIn a o hk, hc, hd, by simpa using hs⟩, ?_⟩
    have e := r.length
    simp only [Array.length_toList] at e
    omega
theorem Inv.tuple (I : Inv X pins σ H s) (h : SqT X.K H a xs) : ∃ its : List Value, Vals xs its ∧ IsTup s.heap a its.toArray ∧ xs.length ≤ sizeLine := by
  rcases h with h | ⟨o, its, n, hk, hc, hs, hz, r⟩
  · obtain ⟨z, its, r, p⟩ := h.ok I.hok
    exact ⟨its, r, p, z⟩
  · refine ⟨its.toList, r, ⟨o, I.kIn a o hk, hc, n, by simpa using hs⟩, ?_⟩
    have e := r.length
    simp only [Array.length_toList] at e
    omega
theorem Inv.list_inj (I : Inv X pins σ H s) (h : SqL X.K H a xs) (h' : SqL X.K H a ys) : xs = ys := by
  obtain ⟨its, r, ⟨o, n, e, _, _, d⟩, _⟩ := I.list h
  obtain ⟨its', r', ⟨o', n', e', _, _, d'⟩, _⟩ := I.list h'
  rw [e] at e'; cases e'
  rw [d] at d'
  injection d' with d1 _
  have : its = its' := by simpa using congrArg Array.toList d1
  subst this
  exact r.inj r'
end

/-! ### another wish about exceptions -/
abbrev Cx.wish (X : Cx) (E : Value → Shared → Prop) : Cx := { X with xe := E }
/-- no exception leaves -/
abbrev Cx.nox (X : Cx) : Cx := X.wish fun _ _ => False
theorem Cx.Ok.wish {X : Cx} (ok : X.Ok) (E : Value → Shared → Prop) : (X.wish E).Ok :=
  ⟨ok.mod, ok.kind, ok.glob, ok.blt, ok.above, ok.inj, ok.has, ok.cab, ok.hd, ok.frames, ok.stk, ok.exf, ok.bs, ok.bsz, ok.noex, ok.exfs, ok.funs, ok.frf⟩
theorem Cx.Ok.unwish {X : Cx} {E : Value → Shared → Prop} (ok : (X.wish E).Ok) : X.Ok :=
  ⟨ok.mod, ok.kind, ok.glob, ok.blt, ok.above, ok.inj, ok.has, ok.cab, ok.hd, ok.frames, ok.stk, ok.exf, ok.bs, ok.bsz, ok.noex, ok.exfs, ok.funs, ok.frf⟩
section
variable {X : Cx} {pins : List (Addr × Obj)} {σ : St} {H : Hp} {s : Shared} {E : Value → Shared → Prop}
theorem Inv.wish (I : Inv X pins σ H s) (E : Value → Shared → Prop) : Inv (X.wish E) pins σ H s := ⟨I.ok.wish E, I.os, I.bare, I.base, I.loc, I.cell, I.free, I.freeC, I.pin, I.hok, I.len⟩
theorem Inv.unwish (I : Inv (X.wish E) pins σ H s) : Inv X pins σ H s := ⟨I.ok.unwish, I.os, I.bare, I.base, I.loc, I.cell, I.free, I.freeC, I.pin, I.hok, I.len⟩
theorem SP.unwish {D : Ends} {f : Flow} {s' : Shared} (h : SP (X.wish E) pins D f s') : SP X pins D f s' := by
  cases f with
  | next => obtain ⟨σ', H', I, q⟩ := h; exact ⟨σ', H', I.unwish, q⟩
  | brk => obtain ⟨σ', H', I, q⟩ := h; exact ⟨σ', H', I.unwish, q⟩
  | cont => obtain ⟨σ', H', I, q⟩ := h; exact ⟨σ', H', I.unwish, q⟩
  | ret u => obtain ⟨v, σ', H', I, r, q⟩ := h; exact ⟨v, σ', H', I.unwish, r, q⟩
theorem PSs.nox {st : List Stmt} {t : TS} (h : PSs X.nox st t) : PSs X st t := fun pins s σ H D I hw =>
  wpAny_mono (h pins s σ H D (I.wish _) hw) (fun _ _ q => q.unwish) fun _ _ z => False.elim z
end

/-! ### blocks and small statements -/
section
variable {X : Cx} {st : Stmt} {rest : List Stmt} {t u : TS} {e : Expr} {te : TE} {pos : Pos}
def tNext : TS := fun D σ H => D.nx σ H
def tSeq (t u : TS) : TS := fun D σ H => t { D with nx := u D } σ H
theorem pss_nil : PSs X [] tNext := fun _ _ σ H _ I h => wpAny_execs_nil ⟨σ, H, I, h⟩
theorem pss_cons (h1 : PS X st t) (h2 : PSs X rest u) : PSs X (st :: rest) (tSeq t u) := by
  intro pins s σ H D I h
  refine wpAny_execs_cons (thn (h1 pins s σ H { D with nx := u D } I h) fun f s1 q => ?_)
  cases f with
  | next =>
    obtain ⟨σ', H', I', q⟩ := q
    exact h2 pins s1 σ' H' D I' q
  | ret v => exact q
  | brk => exact q
  | cont => exact q
theorem pss_one (h1 : PS X st t) : PSs X [st] t := by
  intro pins s σ H D I h
  refine wpAny_execs_cons (thn (h1 pins s σ H D I h) fun f s1 q => ?_)
  cases f with
  | next => exact wpAny_execs_nil q
  | ret v => exact q
  | brk => exact q
  | cont => exact q
def tBreak : TS := fun D σ H => D.bk σ H
def tCont : TS := fun D σ H => D.ct σ H
/-- in a def's body nothing is shown -/
theorem Inv.quiet {pins : List (Addr × Obj)} {σ : St} {H : Hp} {s : Shared} (I : Inv X pins σ H s) : interactive X.env = false := by simp [interactive, I.ok.kind]
/-- an expression whose value is dropped -/
def tDrop (te : TE) : TS := fun D σ H => te σ H fun _ H1 => D.nx σ H1
theorem ps_expr (he : PE X e te) (hs : swapsWith e none pos.line X.env = pure false := by rfl) : PS X (.Expr e pos) (tDrop te) := by
  intro pins s σ H D I h
  exact wpAny_Expr_any (thn (he pins s σ H _ I h) fun v s1 ⟨x, H1, I1, r1, q1⟩ => ⟨σ, H1, I1, q1⟩) I.quiet hs
def tRet (te : TE) : TS := fun D σ H => te σ H D.rt
theorem ps_ret (he : PE X e te) : PS X (.Return (some e) pos) (tRet te) := by
  intro pins s σ H D I h
  exact wpAny_Return_some (thn (he pins s σ H _ I h) fun v s1 ⟨x, H1, I1, r1, q1⟩ => ⟨x, σ, H1, I1, r1, q1⟩)
def tRetN : TS := fun D _ H => D.rt .non H
def tIfS (c : TT) (t u : TS) : TS := fun D σ H => c σ H fun b H1 => if b = true then t D σ H1 else u D σ H1
theorem ps_if {c : Expr} {a b : List Stmt} {tc : TT} (hc : PT X c tc) (ha : PSs X a t) (hb : PSs X b u) : PS X (.If c a b pos) (tIfS tc t u) := by
  intro pins s σ H D I h
  refine wpAny_If (thn (hc pins s σ H _ I h) fun d s1 ⟨H1, I1, q1⟩ => ?_)
  cases d with
  | true => exact ha pins s1 σ H1 D I1 q1
  | false => exact hb pins s1 σ H1 D I1 q1
/-- code that the proof never comes to -/
def tNever : TS := fun _ _ _ => False
end

/-! ### targets -/
abbrev TG := V → St → Hp → (St → Hp → Prop) → Prop
abbrev TGs := List V → St → Hp → (St → Hp → Prop) → Prop
def PG (X : Cx) (target : Expr) (t : TG) : Prop :=
  ∀ (pins : List (Addr × Obj)) (s : Shared) (σ : St) (H : Hp) (v : V) (u : Value) (Q : St → Hp → Prop), Inv X pins σ H s → RelV v u → t v σ H Q →
    wpAny (model X.prog X.w) X.A (assign target X.env u) (fun _ s' => ∃ σ' H', Inv X pins σ' H' s' ∧ Q σ' H') X.xe s
/-- several targets, one after another -/
def PGs (X : Cx) (ts : List Expr) (t : TGs) : Prop :=
  ∀ (pins : List (Addr × Obj)) (s : Shared) (σ : St) (H : Hp) (vs : List V) (us : List Value) (Q : St → Hp → Prop), Inv X pins σ H s → Vals vs us → t vs σ H Q →
    wpAny (model X.prog X.w) X.A (assignInOrder ((assignEach ts X.env).map (·.2)) us) (fun _ s' => ∃ σ' H', Inv X pins σ' H' s' ∧ Q σ' H') X.xe s
/-- o[i] = v, by values -/
abbrev TSet := V → V → V → Hp → (Hp → Prop) → Prop
def PSet (X : Cx) (t : TSet) : Prop :=
  ∀ (pins : List (Addr × Obj)) (s : Shared) (σ : St) (H : Hp) (o i v : V) (ov iv u : Value) (Q : Hp → Prop), Inv X pins σ H s → RelV o ov → RelV i iv → RelV v u → t o i v H Q →
    wpAny (model X.prog X.w) X.A (setItem ov iv u) (fun _ s' => ∃ H', Inv X pins σ H' s' ∧ Q H') X.xe s
/-- a op= b, by values -/
abbrev TIp := V → V → Hp → VK → Prop
def PIp (X : Cx) (op : Operator) (t : TIp) : Prop :=
  ∀ (pins : List (Addr × Obj)) (s : Shared) (σ : St) (H : Hp) (x y : V) (v u : Value) (Q : VK), Inv X pins σ H s → RelV x v → RelV y u → t x y H Q →
    wpAny (model X.prog X.w) X.A (inplaceOp op v u) (EP X pins σ Q) X.xe s
section
variable {X : Cx} {pos : Pos}
def gName (i : Nat) : TG := fun v σ H Q => Q (σ.set i (some v)) H
theorem pg_name {i : Nat} {x : Str} (hN : X.N.Nodup) (hi : X.N[i]? = some x) (hx : Loc X.env.scope x) (hf : X.fn x = true ∨ X.env.scope.names.lookup x = some .local := by first | exact .inl rfl | exact .inr rfl | assumption) : PG X (.Name x pos) (gName i) := by
  intro pins s σ H v u Q I r h
  exact wpAny_assign_Name (store_ok I hN hi hx r (fun s' I' => ⟨_, H, I', h⟩) hf)
def gNil : TGs := fun vs σ H Q => vs = [] ∧ Q σ H
def gCons (t : TG) (u : TGs) : TGs := fun vs σ H Q => ∃ v r, vs = v :: r ∧ t v σ H fun σ' H' => u r σ' H' Q
/-- (a, b, ..) = a tuple of that length -/
def gTup (K : PySem.W.Frag) (n : Nat) (t : TGs) : TG := fun v σ H Q => ∃ a xs, v = .ref a ∧ SqT K H a xs ∧ xs.length = n ∧ t xs σ H Q
/-- o[i] = .. -/
def gSub (to ti : TE) (t : TSet) : TG := fun v σ H Q => to σ H fun o H1 => ti σ H1 fun i H2 => t o i v H2 fun H3 => Q σ H3
/-- target = value -/
def tAsg (te : TE) (g : TG) : TS := fun D σ H => te σ H fun x H1 => g x σ H1 D.nx
/-- name = value -/
theorem ps_set {i : Nat} {x : Str} {e : Expr} {te : TE} {pos' : Pos} (hN : X.N.Nodup) (hi : X.N[i]? = some x) (hx : Loc X.env.scope x) (he : PE X e te) (hs : swapsWith e (some (.Name x pos')) pos.line X.env = pure false := by rfl) (hf : X.fn x = true ∨ X.env.scope.names.lookup x = some .local := by first | exact .inl rfl | exact .inr rfl | assumption) :
    PS X (.Assign [.Name x pos'] e pos) (tAsg te (gName i)) := by
  intro pins s σ H D I h
  refine wpAny_Assign_Name (thn (he pins s σ H _ I h) fun v s1 ⟨y, H1, I1, r1, q1⟩ => ?_) hs
  exact store_ok I1 hN hi hx r1 (fun s2 I2 => ⟨_, H1, I2, q1⟩) hf
/-- a, b = x, y with plain local names: stored from the right; the pair itself is not tracked (the opening rows as in PyProof/Rows/TupAssign.lean:23) -/
def tPar (i j : Nat) (ta : TA) : TS := fun D σ H => ta σ H fun vs H1 => ∃ v w, vs = [v, w] ∧ D.nx ((σ.set i (some v)).set j (some w)) H1
/-- name op= e -/
def tAug (i : Nat) (te : TE) (ti : TIp) : TS := fun D σ H => ∃ x, σ[i]? = some (some x) ∧ te σ H fun y H1 => ti x y H1 fun z H2 => D.nx (σ.set i (some z)) H2
/-- o[i] op= e -/
def tAugS (to ti te : TE) (tget : V → V → Hp → VK → Prop) (tip : TIp) (tset : TSet) : TS := fun D σ H => to σ H fun o H1 => ti σ H1 fun i H2 => tget o i H2 fun x H3 => te σ H3 fun y H4 => tip x y H4 fun z H5 => tset o i z H5 fun H6 => D.nx σ H6
/-- o[i], by values -/
def PGet (X : Cx) (t : V → V → Hp → VK → Prop) : Prop :=
  ∀ (pins : List (Addr × Obj)) (s : Shared) (σ : St) (H : Hp) (o i : V) (ov iv : Value) (Q : VK), Inv X pins σ H s → RelV o ov → RelV i iv → t o i H Q →
    wpAny (model X.prog X.w) X.A (getItem ov iv) (EP X pins σ Q) X.xe s
/-- ints -/
def ipI (f : Int → Int → Int) : TIp := fun x y H Q => ∃ i j, x = .int i ∧ y = .int j ∧ Q (.int (f i j)) H
end

/-! ### while -/
section
variable {X : Cx} {pos : Pos}
/-- the invariant W with its measure -/
def tWhile (c : TT) (tb : TS) : TS := fun D σ H => ∃ W : Nat → St → Hp → Prop, (∃ m, W m σ H) ∧ ∀ m σ H, W m σ H →
  c σ H fun b H1 => if b = true then ∃ N : St → Hp → Prop, (∀ σ' H', N σ' H' → ∃ m', m' < m ∧ W m' σ' H') ∧ tb { D with nx := N, ct := N, bk := D.nx } σ H1 else D.nx σ H1
end

/-! ### what a loop or a comprehension walks -/
/-- at turn i: it yields x (the heap may grow), or it stops -/
structure It where
  go : Nat → Hp → Prop
  yld : Nat → Hp → V → Hp → Prop
  stop : Nat → Hp → Prop
/-- the iterator's own objects may turn: they are not the frame's, not pinned, younger than the entry (or a comprehension's own) -/
def FpOk (X : Cx) (pins : List (Addr × Obj)) (H : Hp) (b : Addr) : Prop :=
  H b = none ∧ b ≠ X.env.locals ∧ b ∉ X.fs ∧ (b ∈ X.ex ∨ X.s_0.heap.objs.size ≤ b) ∧ (∀ x c, X.env.cells.lookup x = some c → c ≠ b) ∧ ∀ p ∈ X.pn ++ pins, p.1 ≠ b
theorem Inv.fpOk {X : Cx} {pins : List (Addr × Obj)} {σ : St} {H H' : Hp} {s : Shared} {b : Addr} (I : Inv X pins σ H s) (hb : s.heap.objs.size ≤ b) (hn : H' b = none) : FpOk X pins H' b := by
  refine ⟨hn, Nat.ne_of_gt (Nat.lt_of_lt_of_le I.lt hb), I.nofs hb, .inr (Nat.le_trans I.sz hb), fun x c e z => ?_, fun p hp z => ?_⟩
  · obtain ⟨v, q⟩ := I.cell x c e
    exact absurd (Nat.lt_of_lt_of_le q.lt (by rw [z]; exact hb)) (Nat.lt_irrefl _)
  · exact absurd (Nat.lt_of_lt_of_le (Heap.lt_size (I.pin p hp).1) (by rw [z]; exact hb)) (Nat.lt_irrefl _)
structure Turn (P : Program) (w : World) (K : PySem.W.Frag) (tg : Expr) (J : It) (fp : List Addr) (it : Addr) (tn : Nat → Heap → Prop) : Prop where
  mem : it ∈ fp
  obj : ∀ i h, tn i h → ∀ b ∈ fp, ∃ o, h.get? b = some o ∧ ∀ v, o.data ≠ .cell v
  keep : ∀ i h h', tn i h → (∀ b ∈ fp, ∀ o, h.get? b = some o → h'.get? b = some o) → tn i h'
  item : ∀ (X : Cx), X.prog = P → X.w = w → X.K = K → X.calm = true → ∀ (i : Nat) (pins : List (Addr × Obj)) (s : Shared) (σ : St) (H : Hp) (E : Value → Shared → Prop), Inv X pins σ H s → (∀ b ∈ fp, FpOk X pins H b) → tn i s.heap → J.go i H →
    wpAny (model P w) X.A (pyNext (.ref it)) (fun r s1 => ∃ u, r = some u ∧
      wpAny (model P w) X.A (letOwnedTupleGo tg (.ref it) u) (fun _ s2 => ∃ x H', Inv X pins σ H' s2 ∧ RelV x u ∧ J.yld i H x H' ∧ tn (i + 1) s2.heap ∧ ∀ b ∈ fp, H' b = none) E s1) E s
  done : ∀ (X : Cx), X.prog = P → X.w = w → X.K = K → X.calm = true → ∀ (i : Nat) (pins : List (Addr × Obj)) (s : Shared) (σ : St) (H : Hp) (E : Value → Shared → Prop), Inv X pins σ H s → (∀ b ∈ fp, FpOk X pins H b) → tn i s.heap → J.stop i H →
    wpAny (model P w) X.A (pyNext (.ref it)) (fun r s1 => r = none ∧ Inv X pins σ H s1) E s
  self : ∀ (A : Around) (i : Nat) (s : Shared) (Q : Value → Shared → Prop) (E : Value → Shared → Prop), tn i s.heap → Q (.ref it) s → wpAny (model P w) A (pyIter (.ref it)) Q E s
abbrev TI := St → Hp → (It → Hp → Prop) → Prop
/-- an iterator has come -/
def PIE (X : Cx) (pins : List (Addr × Obj)) (σ : St) (tg : Expr) (R : It → Hp → Prop) (itv : Value) (s2 : Shared) : Prop :=
  ∃ (it : Addr) (fp : List Addr) (tn : Nat → Heap → Prop) (J : It) (H' : Hp), itv = .ref it ∧ Inv X pins σ H' s2 ∧ Turn X.prog X.w X.K tg J fp it tn ∧ tn 0 s2.heap ∧ (∀ b ∈ fp, FpOk X pins H' b) ∧ R J H'
def PI (X : Cx) (tg iter : Expr) (wi : TI) : Prop :=
  ∀ (pins : List (Addr × Obj)) (s : Shared) (σ : St) (H : Hp) (R : It → Hp → Prop), Inv X pins σ H s → wi σ H R →
    wpAny (model X.prog X.w) X.A (eval iter X.env) (fun v s1 => wpAny (model X.prog X.w) X.A (pyIter v) (PIE X pins σ tg R) X.xe s1) X.xe s

/-- the step ahead of the store is nothing for an iterator that keeps no tuple -/
theorem go_of {M : Model} {A : Around} {E : Value → Shared → Prop} {s : Shared} {tg : Expr} {it : Addr} {u : Value} {o : Obj} {n : String} {vs : Array Value} {Q : Unit → Shared → Prop} (ho : s.heap.get? it = some o) (hc : o.cls = .type n) (hd : o.data = .fields vs)
    (hn : ["enumerate", "zip", "dict_itemiterator", "dict_reverseitemiterator", "odict_iterator", "itertools.zip_longest", "itertools.pairwise"].contains n = false) (hQ : Q () s) : wpAny M A (letOwnedTupleGo tg (.ref it) u) Q E s := by
  unfold letOwnedTupleGo
  cases tg <;> first
    | exact wpAny_pure hQ
    | (cases u <;> first
        | exact wpAny_pure hQ
        | (refine wpAny_bind (wpAny_load ho ?_)
           rw [hc, hd]
           show wpAny M A (if (["enumerate", "zip", "dict_itemiterator", "dict_reverseitemiterator", "odict_iterator", "itertools.zip_longest", "itertools.pairwise"].contains n && vs[0]? == some (rawInt _)) = true then _ else _) Q E s
           rw [if_neg (by intro h; rw [hn, Bool.false_and] at h; cases h)]
           exact wpAny_pure hQ))

/-- the list at a, as it stands at each turn (a loop may append to it) -/
def Itl (K : PySem.W.Frag) (a : Addr) : It :=
  ⟨fun i H => ∃ xs x, SqL K H a xs ∧ xs[i]? = some x, fun i H x H' => H' = H ∧ ∀ xs, SqL K H a xs → xs[i]? = some x, fun i H => ∃ xs, SqL K H a xs ∧ xs.length ≤ i⟩
def Itt (K : PySem.W.Frag) (a : Addr) : It :=
  ⟨fun i H => ∃ xs x, SqT K H a xs ∧ xs[i]? = some x, fun i H x H' => H' = H ∧ ∀ xs, SqT K H a xs → xs[i]? = some x, fun i H => ∃ xs, SqT K H a xs ∧ xs.length ≤ i⟩
/-- lo, lo + 1, .. (n of them) -/
def Itr (lo : Int) (n : Nat) : It := ⟨fun i _ => i < n, fun i H x H' => H' = H ∧ x = .int (lo + i), fun i _ => n ≤ i⟩
theorem turn_list {P : Program} {w : World} {K : PySem.W.Frag} {tg : Expr} (a it : Addr) : Turn P w K tg (Itl K a) [it] it (fun i h => h.IsListIter it a i) where
  mem := by simp
  obj := fun i h st b hb => by
    have e : b = it := by simpa using hb
    subst e
    obtain ⟨o, e, c, d⟩ := st
    exact ⟨o, e, fun v z => by rw [d] at z; cases z⟩
  keep := fun i h h' st k => st.at fun o e => k it (by simp) o e
  item := by
    intro X hP hw hK hc i pins s σ H E I hf st hg
    subst hP hw hK
    obtain ⟨xs, x, hq, hx⟩ := hg
    obtain ⟨its, rv, p, hz⟩ := I.list hq
    obtain ⟨u, hu, ru⟩ := rv.get hx
    obtain ⟨f0, f1, f2, f3, f4, f5⟩ := hf it (by simp)
    refine wpAny_pyNext_list_item st p.isList (x := u) (by simpa using hu) fun h' st' sb => ?_
    have I1 : Inv X pins σ H { s with heap := h' } := I.turned (t' := s.toks) (fun b o hb e => (sb.2 b hb).trans e) f0 f1 f3 f4 f5
    obtain ⟨o, e, c, d⟩ := id st'
    exact ⟨u, rfl, go_of (s := { s with heap := h' }) e c d (by decide) ⟨x, H, I1, ru, ⟨rfl, fun ys hy => by rw [I.list_inj hy hq]; exact hx⟩, st', fun b hb => (hf b hb).1⟩⟩
  done := by
    intro X hP hw hK hc i pins s σ H E I hf st hg
    subst hP hw hK
    obtain ⟨xs, hq, hx⟩ := hg
    obtain ⟨its, rv, p, hz⟩ := I.list hq
    obtain ⟨f0, f1, f2, f3, f4, f5⟩ := hf it (by simp)
    have hl := rv.length
    exact wpAny_pyNext_list_end (I.ok.hd hc) st p.isList (by simp; omega) fun h' eb => ⟨rfl, I.turned (t' := s.toks) (fun b o hb e => eb b o hb e) f0 f1 f3 f4 f5⟩
  self := fun _ _ _ _ _ st h => wpAny_pyIter_listiter st h
theorem turn_range {P : Program} {w : World} {K : PySem.W.Frag} {tg : Expr} (it : Addr) (lo : Int) (n : Nat) : Turn P w K tg (Itr lo n) [it] it (fun i h => IsRangeIter h it (lo + (i : Nat) * 1) ((n : Int) - (i : Nat)) 1) where
  mem := by simp
  obj := fun i h st b hb => by
    have e : b = it := by simpa using hb
    subst e
    exact ⟨_, st, fun v z => by
      have z' : Data.fields _ = Data.cell v := z
      cases z'⟩
  keep := fun i h h' st k => k it (by simp) _ st
  item := by
    intro X hP hw hK hc i pins s σ H E I hf st hg
    subst hP hw hK
    obtain ⟨f0, f1, f2, f3, f4, f5⟩ := hf it (by simp)
    have W := Walks.range (prog := X.prog) (w := X.w) (I.ok.hd hc) it lo 1 n
    refine W.item i s _ _ hg st fun v h' tk hv st' kk => ?_
    obtain ⟨t, rfl⟩ := hv
    have I1 : Inv X pins σ H { s with heap := h', toks := tk } := I.turned (fun b o hb e => kk b o (by simpa using hb) e) f0 f1 f3 f4 f5
    refine ⟨_, rfl, go_of (s := { s with heap := h', toks := tk }) (n := "range_iterator") st' rfl rfl (by decide) ⟨.int (lo + i), H, I1, ⟨t, ?_⟩, ⟨rfl, rfl⟩, st', fun b hb => (hf b hb).1⟩⟩
    rw [Int.mul_one]
  done := by
    intro X hP hw hK hc i pins s σ H E I hf st hg
    subst hP hw hK
    obtain ⟨f0, f1, f2, f3, f4, f5⟩ := hf it (by simp)
    exact wpAny_pyNext_range_end (I.ok.hd hc) st (by have : n ≤ i := hg; omega) fun h' eb => ⟨rfl, I.turned (t' := s.toks) (fun b o hb e => eb b o hb e) f0 f1 f3 f4 f5⟩
  self := fun _ _ _ _ _ st h => wpAny_pyIter_rangeiter st h
end L2

namespace L2
open PySem PySem.Spec PyProof.Rows
section
variable {X : Cx} {tg : Expr}
def iList (K : PySem.W.Frag) (tl : TE) : TI := fun σ H R => tl σ H fun x H1 => ∃ a, x = .ref a ∧ (∃ xs, SqL K H1 a xs) ∧ R (Itl K a) H1
def iTup (K : PySem.W.Frag) (tl : TE) : TI := fun σ H R => tl σ H fun x H1 => ∃ a, x = .ref a ∧ (∃ xs, SqT K H1 a xs) ∧ R (Itt K a) H1
theorem pi_list {l : Expr} {tl : TE} (hl : PE X l tl) : PI X tg l (iList X.K tl) := by
  intro pins s σ H R I h
  refine thn (hl pins s σ H _ I h) fun v s1 ⟨x, H1, I1, r1, q1⟩ => ?_
  obtain ⟨a, e, ⟨xs, hq⟩, q⟩ := q1
  subst e
  cases r1
  obtain ⟨its, rv, p, hz⟩ := I1.list hq
  refine wpAny_pyIter_list p.isList ?_
  refine ⟨s1.heap.objs.size, [s1.heap.objs.size], _, _, H1, rfl, I1.kept (t' := s1.toks) fun b o e => Heap.get?_push_of_some _ e, turn_list a _, ⟨_, Heap.get?_push_size _ rfl, rfl, rfl⟩, fun b hb => ?_, q⟩
  have e : b = s1.heap.objs.size := by simpa using hb
  subst e
  exact I1.fpOk (Nat.le_refl _) (I1.hok.fresh (Nat.le_refl _))
/-- a range object just made, walked -/
theorem range_it {pins : List (Addr × Obj)} {σ : St} {H : Hp} {s : Shared} {R : It → Hp → Prop} {E : Value → Shared → Prop} {lo hi : Int} {t u v : Tok} {tk : Nat} (I : Inv X pins σ H s) (h1 : -(2 ^ 62) ≤ lo) (h2 : lo < 2 ^ 62) (h3 : -(2 ^ 62) ≤ hi) (h4 : hi < 2 ^ 62)
    (q : R (Itr lo (hi - lo).toNat) H) : wpAny (model X.prog X.w) X.A (pyIter (.ref s.heap.objs.size)) (PIE X pins σ tg R) E { s with heap := s.heap.push { cls := .type "range", data := .fields #[.int lo t, .int hi u, .int 1 v] }, toks := tk } := by
  refine wpAny_pyIter_range (IsRange.new ..) (small_one h1 h2 h3 h4) ?_
  have I1 : Inv X pins σ H { s with heap := s.heap.push { cls := .type "range", data := .fields #[.int lo t, .int hi u, .int 1 v] }, toks := tk } := I.kept fun b o e => Heap.get?_push_of_some _ e
  refine ⟨(s.heap.push { cls := .type "range", data := .fields #[.int lo t, .int hi u, .int 1 v] }).objs.size, [(s.heap.push { cls := .type "range", data := .fields #[.int lo t, .int hi u, .int 1 v] }).objs.size], _, _, H, rfl,
    I1.kept (t' := tk) fun b o e => Heap.get?_push_of_some _ e, turn_range _ lo (hi - lo).toNat, ?_, fun b hb => ?_, q⟩
  · have e1 : lo + ((0 : Nat) : Int) * 1 = lo := by simp
    have e2 : (((hi - lo).toNat : Nat) : Int) - ((0 : Nat) : Int) = Builtin.Range.rangeSize lo hi 1 := by rw [rangeSize_one]; split <;> omega
    show IsRangeIter _ _ (lo + ((0 : Nat) : Int) * 1) ((((hi - lo).toNat : Nat) : Int) - ((0 : Nat) : Int)) 1
    rw [e1, e2]
    exact Heap.get?_push_size _ rfl
  · have e : b = (s.heap.push { cls := .type "range", data := .fields #[.int lo t, .int hi u, .int 1 v] }).objs.size := by simpa using hb
    subst e
    exact I1.fpOk (Nat.le_refl _) (I1.hok.fresh (Nat.le_refl _))
def iRng1 (ta : TA) : TI := fun σ H R => ta σ H fun vs H1 => ∃ j : Int, vs = [.int j] ∧ -(2 ^ 62) ≤ j ∧ j < 2 ^ 62 ∧ R (Itr 0 j.toNat) H1
def iRng2 (ta : TA) : TI := fun σ H R => ta σ H fun vs H1 => ∃ i j : Int, vs = [.int i, .int j] ∧ (-(2 ^ 62) ≤ i ∧ i < 2 ^ 62 ∧ -(2 ^ 62) ≤ j ∧ j < 2 ^ 62) ∧ R (Itr i (j - i).toNat) H1
theorem pi_range1 {a : Expr} {ta : TA} {p pos : Pos} (hg : Gl X "range") (hm : X.mg "range" = none) (ha : PA X [a] ta) (hs : starEach [a] X.env = [(false, eval a X.env)] := by rfl) : PI X tg (.Call (.Name "range" p) [a] [] pos) (iRng1 ta) := by
  intro pins s σ H R I h
  refine Call_ (ld_blt I hg hm boot_range (PyProof.Rows.callWith_type1 (thn (ha pos pins s σ H _ I h) fun us s1 ⟨vs, H1, I1, r1, q1⟩ => ?_) hs rfl))
  obtain ⟨j, e, q1, q2, q⟩ := q1
  subst e
  cases r1 with
  | cons r rr =>
    cases rr
    obtain ⟨t, rfl⟩ := r
    exact call_range_1 (range_it I1 (by omega) (by omega) q1 q2 (by simpa using q))
theorem pi_range2 {a b : Expr} {ta : TA} {p pos : Pos} (hg : Gl X "range") (hm : X.mg "range" = none) (ha : PA X [a, b] ta) (hs : starEach [a, b] X.env = [(false, eval a X.env), (false, eval b X.env)] := by rfl) (hs2 : starEach [b] X.env = [(false, eval b X.env)] := by rfl) :
    PI X tg (.Call (.Name "range" p) [a, b] [] pos) (iRng2 ta) := by
  intro pins s σ H R I h
  refine Call_ (ld_blt I hg hm boot_range (PyProof.Rows.callWith_type1 (thn (ha pos pins s σ H _ I h) fun us s1 ⟨vs, H1, I1, r1, q1⟩ => ?_) (by rw [hs, hs2]) (by rw [hs2]; rfl)))
  obtain ⟨i, j, e, ⟨q1, q2, q3, q4⟩, q⟩ := q1
  subst e
  cases r1 with
  | cons r rr =>
    cases rr with
    | cons r' rr =>
      cases rr
      obtain ⟨t, rfl⟩ := r
      obtain ⟨t', rfl⟩ := r'
      exact call_range_2 (range_it I1 q1 q2 q3 q4 q)

/-! ### for -/
/-- W: the invariant by the turn and a measure; N: what the body is to reach -/
def tFor (wi : TI) (g : TG) (tb : TS) : TS := fun D σ H => wi σ H fun J H1 => ∃ W : Nat → Nat → St → Hp → Prop, (∃ m, W 0 m σ H1) ∧ ∀ i m σ H, W i m σ H →
  (J.stop i H ∧ D.nx σ H) ∨ (J.go i H ∧ ∃ N : St → Hp → Prop, (∀ σ' H', N σ' H' → ∃ m', m' < m ∧ W (i + 1) m' σ' H') ∧ ∀ x H', J.yld i H x H' → g x σ H' fun σ2 H2 => tb { D with nx := N, ct := N, bk := D.nx } σ2 H2)
/-- the records at fp as they stand -/
def pinsAt (fp : List Addr) (h : Heap) : List (Addr × Obj) := fp.filterMap fun b => (h.get? b).map fun o => (b, o)
theorem mem_pinsAt {fp : List Addr} {h : Heap} {b : Addr} {o : Obj} (hb : b ∈ fp) (e : h.get? b = some o) : (b, o) ∈ pinsAt fp h := List.mem_filterMap.mpr ⟨b, hb, by rw [e]; rfl⟩
theorem of_pinsAt {fp : List Addr} {h : Heap} {p : Addr × Obj} (hp : p ∈ pinsAt fp h) : p.1 ∈ fp ∧ h.get? p.1 = some p.2 := by
  obtain ⟨b, hb, e⟩ := List.mem_filterMap.mp hp
  cases q : h.get? b with
  | none => rw [q] at e; cases e
  | some o =>
    rw [q] at e
    have e' : (b, o) = p := Option.some.inj e
    subst e'
    exact ⟨hb, q⟩
theorem Inv.pinned {pins : List (Addr × Obj)} {σ : St} {H : Hp} {s : Shared} {fp : List Addr} (I : Inv X pins σ H s) (hf : ∀ b ∈ fp, FpOk X pins H b) (ho : ∀ b ∈ fp, ∃ o, s.heap.get? b = some o ∧ ∀ v, o.data ≠ .cell v) : Inv X (pins ++ pinsAt fp s.heap) σ H s :=
  I.pins_of fun p hp => (List.mem_append.mp hp).elim (fun z => I.pin p (List.mem_append_right _ z)) fun z => by
    obtain ⟨hb, e⟩ := of_pinsAt z
    obtain ⟨f0, f1, f2, _⟩ := hf p.1 hb
    obtain ⟨o, e', d⟩ := ho p.1 hb
    rw [e] at e'; cases e'
    exact ⟨e, f0, f1, f2, d⟩
theorem Inv.unpinned {pins pl : List (Addr × Obj)} {σ : St} {H : Hp} {s : Shared} (I : Inv X (pins ++ pl) σ H s) : Inv X pins σ H s := I.pins_of fun p hp => I.pin p (List.mem_append_right _ (List.mem_append_left _ hp))
theorem ps_for {iter : Expr} {body : List Stmt} {wi : TI} {g : TG} {tb : TS} {pos : Pos} (hp : PassesOwn (model X.prog X.w) X.A X.env X.xe) (hc : X.calm = true) (hi : PI X tg iter wi) (hg : PG X tg g) (hb : PSs X body tb)
    (hs : ∀ x, foldedSetIterable iter X.env x = pure x := by intro _; rfl) : PS X (.For tg iter body [] pos) (tFor wi g tb) := by
  intro pins s σ H D I h
  refine wpAny_For (thn (hi pins s σ H _ I h) fun v s1 h1 => thn h1 fun itv s2 h2 => ?_) hs
  obtain ⟨it, fp, tn, J, H2, e, I2, T, st2, f2, W, ⟨m0, w0⟩, turn⟩ := h2
  subst e
  -- what stays true of the iterator's objects through the loop
  have stat : ∀ {H' : Hp}, (∀ b ∈ fp, H' b = none) → ∀ b ∈ fp, FpOk X pins H' b := fun hn b hb => ⟨hn b hb, (f2 b hb).2⟩
  refine codeAny_forLoop_any (fun n s' => ∃ i σ' H', Inv X pins σ' H' s' ∧ tn i s'.heap ∧ (∀ b ∈ fp, H' b = none) ∧ W i n σ' H') ?_ m0 ⟨0, σ, H2, I2, st2, fun b hb => (f2 b hb).1, w0⟩
  rintro n s3 ⟨i, σ3, H3, I3, st3, fr3, w3⟩
  rcases turn i n σ3 H3 w3 with ⟨stop, qn⟩ | ⟨go, N, hN, step⟩
  · refine wpAny_passesOwn hp (thn (T.done X rfl rfl rfl hc i pins s3 σ3 H3 X.xe I3 (stat fr3) st3 stop) fun r s4 ⟨hr, I4⟩ => ?_)
    subst hr
    exact wpAny_execs_nil ⟨σ3, H3, I4, qn⟩
  · refine wpAny_passesOwn hp (thn (T.item X rfl rfl rfl hc i pins s3 σ3 H3 X.xe I3 (stat fr3) st3 go) fun r s4 ⟨u, hr, h4⟩ => ?_)
    subst hr
    refine wpAny_passesOwn hp (thn h4 fun _ s5 ⟨x, H5, I5, r5, y5, st5, fr5⟩ => ?_)
    have I5' := I5.pinned (stat fr5) (T.obj _ _ st5)
    refine wpAny_passesOwn hp (thn (hg _ s5 σ3 H5 x u _ I5' r5 (step x H5 y5)) fun _ s6 ⟨σ6, H6, I6, q6⟩ => ?_)
    refine wpAny_passesOwn hp (thn (hb _ s6 σ6 H6 _ I6 q6) fun f s7 q7 => ?_)
    have again : ∀ {σ7 : St} {H7 : Hp}, Inv X (pins ++ pinsAt fp s5.heap) σ7 H7 s7 → N σ7 H7 → ∃ m, m < n ∧ ∃ i σ' H', Inv X pins σ' H' s7 ∧ tn i s7.heap ∧ (∀ b ∈ fp, H' b = none) ∧ W i m σ' H' := fun {σ7 H7} I7 n7 => by
      obtain ⟨m', hm, w7⟩ := hN σ7 H7 n7
      refine ⟨m', hm, i + 1, σ7, H7, I7.unpinned, T.keep _ _ _ st5 fun b hb o e => (I7.pin (b, o) (List.mem_append_right _ (List.mem_append_right _ (mem_pinsAt hb e)))).1, fun b hb => ?_, w7⟩
      obtain ⟨o, e, d⟩ := T.obj _ _ st5 b hb
      exact (I7.pin (b, o) (List.mem_append_right _ (List.mem_append_right _ (mem_pinsAt hb e)))).2.1
    cases f with
    | next => obtain ⟨σ7, H7, I7, n7⟩ := q7; exact again I7 n7
    | cont => obtain ⟨σ7, H7, I7, n7⟩ := q7; exact again I7 n7
    | brk => obtain ⟨σ7, H7, I7, q7⟩ := q7; exact ⟨σ7, H7, I7.unpinned, q7⟩
    | ret v => obtain ⟨x7, σ7, H7, I7, r7, q7⟩ := q7; exact ⟨x7, σ7, H7, I7.unpinned, r7, q7⟩
end

/-! ### the forms one uses -/
/-- over a list that the body leaves as it is -/
theorem for_list {K : PySem.W.Frag} {a : Addr} {xs : List V} {g : TG} {tb : TS} {D : Ends} {σ : St} {H : Hp} (Pv : Nat → St → Hp → Prop) (h0 : Pv 0 σ H) (hl : ∀ i σ H, i ≤ xs.length → Pv i σ H → SqL K H a xs)
    (hs : ∀ i x σ H, xs[i]? = some x → Pv i σ H → g x σ H fun σ2 H2 => tb { D with nx := Pv (i + 1), ct := Pv (i + 1), bk := D.nx } σ2 H2) (hd : ∀ σ H, Pv xs.length σ H → D.nx σ H) :
    ∃ W : Nat → Nat → St → Hp → Prop, (∃ m, W 0 m σ H) ∧ ∀ i m σ H, W i m σ H →
      ((Itl K a).stop i H ∧ D.nx σ H) ∨ ((Itl K a).go i H ∧ ∃ N : St → Hp → Prop, (∀ σ' H', N σ' H' → ∃ m', m' < m ∧ W (i + 1) m' σ' H') ∧ ∀ x H', (Itl K a).yld i H x H' → g x σ H' fun σ2 H2 => tb { D with nx := N, ct := N, bk := D.nx } σ2 H2) := by
  refine ⟨fun i m σ H => m = xs.length - i ∧ i ≤ xs.length ∧ Pv i σ H, ⟨xs.length, by simp, Nat.zero_le _, h0⟩, ?_⟩
  rintro i m σ H ⟨rfl, hi, p⟩
  have q := hl i σ H hi p
  by_cases hlt : i < xs.length
  · refine .inr ⟨⟨xs, xs[i], q, by simp [hlt]⟩, Pv (i + 1), fun σ' H' p' => ⟨xs.length - (i + 1), by omega, rfl, hlt, p'⟩, fun x H' y => ?_⟩
    obtain ⟨e, y⟩ := y
    subst e
    exact hs i x σ _ (y xs q) p
  · have e : i = xs.length := by omega
    subst e
    exact .inl ⟨⟨xs, q, Nat.le_refl _⟩, hd σ H p⟩
theorem for_range {lo : Int} {n : Nat} {g : TG} {tb : TS} {D : Ends} {σ : St} {H : Hp} (Pv : Nat → St → Hp → Prop) (h0 : Pv 0 σ H)
    (hs : ∀ i σ H, i < n → Pv i σ H → g (.int (lo + i)) σ H fun σ2 H2 => tb { D with nx := Pv (i + 1), ct := Pv (i + 1), bk := D.nx } σ2 H2) (hd : ∀ σ H, Pv n σ H → D.nx σ H) :
    ∃ W : Nat → Nat → St → Hp → Prop, (∃ m, W 0 m σ H) ∧ ∀ i m σ H, W i m σ H →
      ((Itr lo n).stop i H ∧ D.nx σ H) ∨ ((Itr lo n).go i H ∧ ∃ N : St → Hp → Prop, (∀ σ' H', N σ' H' → ∃ m', m' < m ∧ W (i + 1) m' σ' H') ∧ ∀ x H', (Itr lo n).yld i H x H' → g x σ H' fun σ2 H2 => tb { D with nx := N, ct := N, bk := D.nx } σ2 H2) := by
  refine ⟨fun i m σ H => m = n - i ∧ i ≤ n ∧ Pv i σ H, ⟨n, by simp, Nat.zero_le _, h0⟩, ?_⟩
  rintro i m σ H ⟨rfl, hi, p⟩
  by_cases hlt : i < n
  · refine .inr ⟨hlt, Pv (i + 1), fun σ' H' p' => ⟨n - (i + 1), by omega, rfl, hlt, p'⟩, fun x H' y => ?_⟩
    obtain ⟨e, y⟩ := y
    subst e y
    exact hs i σ _ hlt p
  · have e : i = n := by omega
    subst e
    exact .inl ⟨Nat.le_refl _, hd σ H p⟩
end L2

namespace L2
open PySem PySem.Spec PyProof.Rows

abbrev R2 := V → V → Hp → VK → Prop
/-- a two-place operation on values: f is binaryOp op, inplaceOp op or compareOp op -/
def OpR (X : Cx) (f : Value → Value → Sem Value) (r : R2) : Prop :=
  ∀ (pins : List (Addr × Obj)) (s : Shared) (σ : St) (H : Hp) (x y : V) (v u : Value) (Q : VK), Inv X pins σ H s → RelV x v → RelV y u → r x y H Q →
    wpAny (model X.prog X.w) X.A (f v u) (EP X pins σ Q) X.xe s
/-- a one-place operation -/
def UnR (X : Cx) (f : Value → Sem Value) (r : V → Hp → VK → Prop) : Prop :=
  ∀ (pins : List (Addr × Obj)) (s : Shared) (σ : St) (H : Hp) (x : V) (v : Value) (Q : VK), Inv X pins σ H s → RelV x v → r x H Q →
    wpAny (model X.prog X.w) X.A (f v) (EP X pins σ Q) X.xe s
/-- a call of a value that is known (a builtin, a type) with values -/
def CallR (X : Cx) (f : Value) (r : List V → Hp → VK → Prop) : Prop :=
  ∀ (pins : List (Addr × Obj)) (s : Shared) (σ : St) (H : Hp) (xs : List V) (us : List Value) (Q : VK), Inv X pins σ H s → Vals xs us → r xs H Q →
    wpAny (model X.prog X.w) X.A (call f us) (EP X pins σ Q) X.xe s
/-- a value's truth -/
def TruR (X : Cx) (r : V → Hp → (Bool → Hp → Prop) → Prop) : Prop :=
  ∀ (pins : List (Addr × Obj)) (s : Shared) (σ : St) (H : Hp) (x : V) (v : Value) (Q : Bool → Hp → Prop), Inv X pins σ H s → RelV x v → r x H Q →
    wpAny (model X.prog X.w) X.A (truthy v) (TP X pins σ Q) X.xe s

def tOp (r : R2) (ta tb : TE) : TE := fun σ H Q => ta σ H fun x H1 => tb σ H1 fun y H2 => r x y H2 Q
def tUn (r : V → Hp → VK → Prop) (ta : TE) : TE := fun σ H Q => ta σ H fun x H1 => r x H1 Q
/-- ints in, under C, and a value out -/
def rI (C : Int → Int → Prop) (g : Int → Int → V) : R2 := fun x y H Q => ∃ i j, x = .int i ∧ y = .int j ∧ C i j ∧ Q (g i j) H
def rI0 (g : Int → Int → V) : R2 := fun x y H Q => ∃ i j, x = .int i ∧ y = .int j ∧ Q (g i j) H
def rU (g : Int → V) : V → Hp → VK → Prop := fun x H Q => ∃ i, x = .int i ∧ Q (g i) H

section
variable {X : Cx} {a b c : Expr} {ta tb tc : TE} {pos : Pos}

theorem binT (ha : PE X a ta) (hb : PE X b tb) {pins : List (Addr × Obj)} {s : Shared} {σ : St} {H : Hp} {R : V → V → Hp → Prop} (I : Inv X pins σ H s)
    (h : ta σ H fun x H1 => tb σ H1 fun y H2 => R x y H2) {Q : Value → Shared → Prop} {f : Value → Value → Sem Value}
    (hf : ∀ v u s2 x y H2, Inv X pins σ H2 s2 → RelV x v → RelV y u → R x y H2 → wpAny (model X.prog X.w) X.A (f v u) Q X.xe s2) :
    wpAny (model X.prog X.w) X.A (eval a X.env) (fun v s₁ => wpAny (model X.prog X.w) X.A (eval b X.env) (fun u s₂ => wpAny (model X.prog X.w) X.A (f v u) Q X.xe s₂) X.xe s₁) X.xe s := by
  refine thn (ha pins s σ H _ I h) fun v s1 ⟨x, H1, I1, r1, q1⟩ => ?_
  refine thn (hb pins s1 σ H1 _ I1 q1) fun u s2 ⟨y, H2, I2, r2, q2⟩ => ?_
  exact hf v u s2 x y H2 I2 r1 r2 q2

theorem pe_op {op : Operator} {r : R2} (ho : OpR X (binaryOp op) r) (ha : PE X a ta) (hb : PE X b tb) : PE X (.BinOp a op b pos) (tOp r ta tb) := by
  intro pins s σ H Q I h
  exact wpAny_BinOp (binT ha hb I h fun v u s2 x y H2 I2 rx ry q => ho pins s2 σ H2 x y v u Q I2 rx ry q)
/-! ### ints -/
theorem opI {f : Value → Value → Sem Value} {C : Int → Int → Prop} {g : Int → Int → Int}
    (rule : ∀ (i j : Int) (t u : Tok) (s : Shared) (Q : Value → Shared → Prop) (E : Value → Shared → Prop), C i j → Q (.int (g i j) s.toks) { s with toks := s.toks + 1 } → wpAny (model X.prog X.w) X.A (f (.int i t) (.int j u)) Q E s) :
    OpR X f (rI C fun i j => .int (g i j)) := by
  intro pins s σ H x y v u Q I rx ry h
  obtain ⟨i, j, rfl, rfl, hc, q⟩ := h
  obtain ⟨t, rfl⟩ := rx
  obtain ⟨t', rfl⟩ := ry
  exact rule i j t t' s _ _ hc ⟨.int (g i j), H, I.tok _, ⟨_, rfl⟩, q⟩
theorem opI0 {f : Value → Value → Sem Value} {g : Int → Int → Int}
    (rule : ∀ (i j : Int) (t u : Tok) (s : Shared) (Q : Value → Shared → Prop) (E : Value → Shared → Prop), Q (.int (g i j) s.toks) { s with toks := s.toks + 1 } → wpAny (model X.prog X.w) X.A (f (.int i t) (.int j u)) Q E s) :
    OpR X f (rI0 fun i j => .int (g i j)) := by
  intro pins s σ H x y v u Q I rx ry h
  obtain ⟨i, j, rfl, rfl, q⟩ := h
  obtain ⟨t, rfl⟩ := rx
  obtain ⟨t', rfl⟩ := ry
  exact rule i j t t' s _ _ ⟨.int (g i j), H, I.tok _, ⟨_, rfl⟩, q⟩
theorem opB0 {f : Value → Value → Sem Value} {g : Int → Int → Bool}
    (rule : ∀ (i j : Int) (t u : Tok) (s : Shared) (Q : Value → Shared → Prop) (E : Value → Shared → Prop), Q (.bool (g i j)) s → wpAny (model X.prog X.w) X.A (f (.int i t) (.int j u)) Q E s) :
    OpR X f (rI0 fun i j => .bl (g i j)) := by
  intro pins s σ H x y v u Q I rx ry h
  obtain ⟨i, j, rfl, rfl, q⟩ := h
  obtain ⟨t, rfl⟩ := rx
  obtain ⟨t', rfl⟩ := ry
  exact rule i j t t' s _ _ ⟨.bl (g i j), H, I, rfl, q⟩

def CDiv (i j : Int) : Prop := 0 < j ∧ j < 1073741824
def CDivN (i j : Int) : Prop := j ≠ 0 ∧ j.natAbs < 1073741824
def CPow (i j : Int) : Prop := 0 ≤ j ∧ j ≤ 1000000 ∧ i.natAbs < 2 ^ 64
def CMul (i j : Int) : Prop := (-(2 ^ 64) < i ∧ i < 2 ^ 64) ∨ (-(2 ^ 64) < j ∧ j < 2 ^ 64)
theorem CMul.ok {i j : Int} (h : CMul i j) : IntMulOk i j := by
  rcases h with ⟨h1, h2⟩ | ⟨h1, h2⟩
  · exact .of_left (intBits_le_64 h1 h2)
  · exact .of_right (intBits_le_64 h1 h2)
theorem two_pow_nn (k : Nat) : (0 : Int) ≤ 2 ^ k := by
  rw [two_pow_cast]
  exact Int.natCast_nonneg _

theorem op_add : OpR X (binaryOp .Add) (rI0 fun i j => .int (i + j)) := opI0 fun _ _ _ _ _ _ _ q => add_int q
theorem op_sub : OpR X (binaryOp .Sub) (rI0 fun i j => .int (i - j)) := opI0 fun _ _ _ _ _ _ _ q => sub_int q
theorem op_mul : OpR X (binaryOp .Mult) (rI CMul fun i j => .int (i * j)) := opI fun _ _ _ _ _ _ _ hc q => mul_int q hc.ok
/-- % by a positive divisor of any size -/
theorem op_mod : OpR X (binaryOp .Mod) (rI (fun _ j => 0 < j) fun i j => .int (i % j)) := opI fun i j _ _ _ _ _ hc q => by
  have h1 : (0 : Int) < j := hc
  exact mod_int' (by omega) (by rw [Int.fmod_eq_emod_of_nonneg i (by omega)]; exact q)
theorem op_shr : OpR X (binaryOp .RShift) (rI (fun _ j => 0 ≤ j) fun i j => .int (i / 2 ^ j.toNat)) := opI fun i j _ _ _ _ _ hc q =>
  rshift_int hc (by rw [Int.fdiv_eq_ediv_of_nonneg i (two_pow_nn _)]; exact q)
/-! ### bools among ints: n += (a < b) -/
end

/-! ### comparisons -/
/-- the scalars that == tells apart as data does -/
def scal : V → V → Bool
  | .non, .non => true | .non, .int _ => true | .int _, .non => true | .non, .bl _ => true | .bl _, .non => true | .non, .str _ => true | .str _, .non => true
  | .int _, .int _ => true | .bl _, .bl _ => true | .str _, .str _ => true | .byt _, .byt _ => true
  | .int _, .str _ => true | .str _, .int _ => true | .bl _, .str _ => true | .str _, .bl _ => true
  | _, _ => false
def rEq : R2 := fun x y H Q => scal x y = true ∧ Q (.bl (decide (x = y))) H
def rNe : R2 := fun x y H Q => scal x y = true ∧ Q (.bl (!decide (x = y))) H

theorem dec_int {i j : Int} : decide (V.int i = V.int j) = (i == j) := by
  rw [Bool.eq_iff_iff]
  simp
theorem dec_bl {i j : Bool} : decide (V.bl i = V.bl j) = (i == j) := by
  rw [Bool.eq_iff_iff]
  simp
theorem dec_str {i j : Str} : decide (V.str i = V.str j) = (i == j) := by
  rw [Bool.eq_iff_iff]
  simp
theorem dec_byt {i j : Array UInt8} : decide (V.byt i = V.byt j) = (i.toList == j.toList) := by
  rw [Bool.eq_iff_iff]
  cases i
  cases j
  simp

section
variable {X : Cx} {a b c : Expr} {ta tb tc : TE} {pos : Pos}
theorem fin_bl {pins : List (Addr × Obj)} {σ : St} {H : Hp} {s : Shared} {Q : VK} {k k' : Bool} (I : Inv X pins σ H s) (q : Q (.bl k) H) (e : k = k') : EP X pins σ Q (.bool k') s := by
  subst e
  exact ⟨.bl k, H, I, rfl, q⟩
theorem op_eq : OpR X (compareOp .Eq) rEq := by
  intro pins s σ H x y v u Q I rx ry h
  obtain ⟨hs, q⟩ := h
  cases x with
  | non =>
    cases rx
    cases y with
    | non => cases ry; exact PySem.EqNone.eq_none_none (fin_bl I q (by simp))
    | bl j => cases ry; exact PySem.EqNone.eq_none_bool (fin_bl I q (by simp))
    | int j => obtain ⟨t', rfl⟩ := ry; exact PySem.EqNone.eq_none_int (fin_bl I q (by simp))
    | str j => obtain ⟨t', rfl⟩ := ry; exact PySem.EqNone.eq_none_str (fin_bl I q (by simp))
    | _ => exact absurd (show false = true from hs) Bool.false_ne_true
  | bl i =>
    cases rx
    cases y with
    | non => cases ry; exact PySem.EqNone.eq_bool_none (fin_bl I q (by simp))
    | bl j => cases ry; exact eq_bool (fin_bl I q dec_bl)
    | str j => obtain ⟨t', rfl⟩ := ry; exact PySem.EqMixed.eq_bool_str (fin_bl I q (by simp))
    | _ => exact absurd (show false = true from hs) Bool.false_ne_true
  | int i =>
    obtain ⟨t, rfl⟩ := rx
    cases y with
    | non => cases ry; exact PySem.EqNone.eq_int_none (fin_bl I q (by simp))
    | int j => obtain ⟨t', rfl⟩ := ry; exact eq_int (fin_bl I q dec_int)
    | str j => obtain ⟨t', rfl⟩ := ry; exact PySem.EqMixed.eq_int_str (fin_bl I q (by simp))
    | _ => exact absurd (show false = true from hs) Bool.false_ne_true
  | str i =>
    obtain ⟨t, rfl⟩ := rx
    cases y with
    | non => cases ry; exact PySem.EqNone.eq_str_none (fin_bl I q (by simp))
    | bl j => cases ry; exact PySem.EqMixed.eq_str_bool (fin_bl I q (by simp))
    | int j => obtain ⟨t', rfl⟩ := ry; exact PySem.EqMixed.eq_str_int (fin_bl I q (by simp))
    | str j => obtain ⟨t', rfl⟩ := ry; exact eq_str (fin_bl I q dec_str)
    | _ => exact absurd (show false = true from hs) Bool.false_ne_true
  | byt i =>
    obtain ⟨t, rfl⟩ := rx
    cases y with
    | byt j => obtain ⟨t', rfl⟩ := ry; exact PySem.W.eq_bytes (fin_bl I q dec_byt)
    | _ => exact absurd (show false = true from hs) Bool.false_ne_true
  | _ => cases y <;> exact absurd (show false = true from hs) Bool.false_ne_true
theorem op_ne : OpR X (compareOp .NotEq) rNe := by
  intro pins s σ H x y v u Q I rx ry h
  obtain ⟨hs, q⟩ := h
  cases x with
  | non =>
    cases rx
    cases y with
    | non => cases ry; exact PySem.EqNone.ne_none_none (fin_bl I q (by simp))
    | bl j => cases ry; exact PySem.EqNone.ne_none_bool (fin_bl I q (by simp))
    | int j => obtain ⟨t', rfl⟩ := ry; exact PySem.EqNone.ne_none_int (fin_bl I q (by simp))
    | str j => obtain ⟨t', rfl⟩ := ry; exact PySem.EqNone.ne_none_str (fin_bl I q (by simp))
    | _ => exact absurd (show false = true from hs) Bool.false_ne_true
  | bl i =>
    cases rx
    cases y with
    | non => cases ry; exact PySem.EqNone.ne_bool_none (fin_bl I q (by simp))
    | bl j => cases ry; exact ne_bool (fin_bl I q (congrArg not dec_bl))
    | str j => obtain ⟨t', rfl⟩ := ry; exact PySem.EqMixed.ne_bool_str (fin_bl I q (by simp))
    | _ => exact absurd (show false = true from hs) Bool.false_ne_true
  | int i =>
    obtain ⟨t, rfl⟩ := rx
    cases y with
    | non => cases ry; exact PySem.EqNone.ne_int_none (fin_bl I q (by simp))
    | int j => obtain ⟨t', rfl⟩ := ry; exact ne_int (fin_bl I q (congrArg not dec_int))
    | str j => obtain ⟨t', rfl⟩ := ry; exact PySem.EqMixed.ne_int_str (fin_bl I q (by simp))
    | _ => exact absurd (show false = true from hs) Bool.false_ne_true
  | str i =>
    obtain ⟨t, rfl⟩ := rx
    cases y with
    | non => cases ry; exact PySem.EqNone.ne_str_none (fin_bl I q (by simp))
    | bl j => cases ry; exact PySem.EqMixed.ne_str_bool (fin_bl I q (by simp))
    | int j => obtain ⟨t', rfl⟩ := ry; exact PySem.EqMixed.ne_str_int (fin_bl I q (by simp))
    | str j => obtain ⟨t', rfl⟩ := ry; exact ne_str (fin_bl I q (congrArg not dec_str))
    | _ => exact absurd (show false = true from hs) Bool.false_ne_true
  | byt i =>
    obtain ⟨t, rfl⟩ := rx
    cases y with
    | byt j => obtain ⟨t', rfl⟩ := ry; exact PySem.W.ne_bytes (fin_bl I q (congrArg not dec_byt))
    | _ => exact absurd (show false = true from hs) Bool.false_ne_true
  | _ => cases y <;> exact absurd (show false = true from hs) Bool.false_ne_true

theorem op_lt : OpR X (compareOp .Lt) (rI0 fun i j => .bl (decide (i < j))) := opB0 fun _ _ _ _ _ _ _ q => lt_int q
theorem op_le : OpR X (compareOp .LtE) (rI0 fun i j => .bl (decide (i ≤ j))) := opB0 fun _ _ _ _ _ _ _ q => le_int q
theorem op_gt : OpR X (compareOp .Gt) (rI0 fun i j => .bl (decide (j < i))) := opB0 fun _ _ _ _ _ _ _ q => gt_int q
theorem op_ge : OpR X (compareOp .GtE) (rI0 fun i j => .bl (decide (j ≤ i))) := opB0 fun _ _ _ _ _ _ _ q => ge_int q
/-- is None, is not None: the right side a value none -/
theorem op_isN : OpR X (compareOp .Is) (fun x y H Q => y = .non ∧ Q (.bl (decide (x = .non))) H) := by
  intro pins s σ H x y v u Q I rx ry h
  obtain ⟨rfl, q⟩ := h
  cases ry
  refine is_none_gen (fin_bl I q ?_)
  cases x <;> first
    | (cases rx; rfl)
    | (obtain ⟨t, rfl⟩ := rx; rfl)
/-- is, is not of two objects that are tracked lists or instances -/
def isObj : HO → Bool
  | .lst _ => true
  | .ins _ _ _ => true
  | _ => false
theorem nomark (b : Expr) {op : CmpOp} (h : op ≠ .In := by decide) (h2 : op ≠ .NotIn := by decide) : behindInMarks op b = false := by
  have e1 : (op == CmpOp.In) = false := by cases op <;> first | rfl | exact absurd rfl h
  have e2 : (op == CmpOp.NotIn) = false := by cases op <;> first | rfl | exact absurd rfl h2
  cases b <;> simp [behindInMarks, e1, e2]
/-- a comparison as a value; hm: nomark b, or (for in, not in) by with_unfolding_all rfl -/
theorem pe_cmpR {op : CmpOp} {r : R2} (ho : OpR X (compareOp op) r) (ha : PE X a ta) (hb : PE X b tb) (hm : behindInMarks op b = false) : PE X (.Compare a [op] [b] pos) (tOp r ta tb) := by
  intro pins s σ H Q I h
  exact wpAny_Compare1 (binT ha hb I h fun v u s2 x y H2 I2 rx ry q => ho pins s2 σ H2 x y v u Q I2 rx ry q) hm
/-- a reading of a value as a test -/
def tTest (t : TE) : TT := fun σ H Q => t σ H fun x H' => ∃ k, x = .bl k ∧ Q k H'
theorem pt_cmpR {op : CmpOp} {r : R2} (ho : OpR X (compareOp op) r) (ha : PE X a ta) (hb : PE X b tb) (hm : behindInMarks op b = false) : PT X (.Compare a [op] [b] pos) (tTest (tOp r ta tb)) := by
  intro pins s σ H Q I h
  refine wpAny_isTrue_Compare1 (thn (ha pins s σ H _ I h) fun v s1 ⟨x, H1, I1, r1, q1⟩ => thn (hb pins s1 σ H1 _ I1 q1) fun u s2 ⟨y, H2, I2, r2, q2⟩ =>
    thn (ho pins s2 σ H2 x y v u _ I2 r1 r2 q2) fun c s3 ⟨z, H3, I3, r3, k, e, q3⟩ => ?_) hm
  subst e
  cases r3
  exact wpAny_truthy_bool ⟨H3, I3, q3⟩
/-- a op1 b op2 c -/
def tChain (r r' : R2) (ta tb tc : TE) : TE := fun σ H Q => ta σ H fun x H1 => tb σ H1 fun y H2 => r x y H2 fun z H3 => ∃ k, z = .bl k ∧
  (if k = true then tc σ H3 fun w' H4 => r' y w' H4 Q else Q (.bl false) H3)
theorem pe_chain {op op' : CmpOp} {r r' : R2} (ho : OpR X (compareOp op) r) (ho' : OpR X (compareOp op') r') (ha : PE X a ta) (hb : PE X b tb) (hc : PE X c tc)
    (hm : lastMarks [op, op'] [b, c] = false := by with_unfolding_all rfl) : PE X (.Compare a [op, op'] [b, c] pos) (tChain r r' ta tb tc) := by
  intro pins s σ H Q I h
  refine Compare_chain (thn (ha pins s σ H _ I h) fun v s1 ⟨x, H1, I1, r1, q1⟩ => chain_link (thn (hb pins s1 σ H1 _ I1 q1) fun u s2 ⟨y, H2, I2, r2, q2⟩ =>
    thn (ho pins s2 σ H2 x y v u _ I2 r1 r2 q2) fun d s3 ⟨z, H3, I3, r3, k, e, q3⟩ => ?_)) hm
  subst e
  cases r3
  refine wpAny_truthy_bool ?_
  cases k with
  | false => exact ite_ff ⟨.bl false, H3, I3, rfl, q3⟩
  | true => exact ite_tt (chain_last (thn (hc pins s3 σ H3 _ I3 q3) fun w' s4 ⟨z', H4, I4, r4, q4⟩ => ho' pins s4 σ H4 y z' u w' Q I4 r2 r4 q4))
theorem pt_chain {op op' : CmpOp} {r r' : R2} (ho : OpR X (compareOp op) r) (ho' : OpR X (compareOp op') r') (ha : PE X a ta) (hb : PE X b tb) (hc : PE X c tc)
    (hm : lastMarks [op, op'] [b, c] = false := by with_unfolding_all rfl) : PT X (.Compare a [op, op'] [b, c] pos) (tTest (tChain r r' ta tb tc)) := by
  intro pins s σ H Q I h
  refine isTrue_chain (thn (ha pins s σ H _ I h) fun v s1 ⟨x, H1, I1, r1, q1⟩ => test_link (thn (hb pins s1 σ H1 _ I1 q1) fun u s2 ⟨y, H2, I2, r2, q2⟩ =>
    thn (ho pins s2 σ H2 x y v u _ I2 r1 r2 q2) fun d s3 ⟨z, H3, I3, r3, k, e, q3⟩ => ?_)) hm
  subst e
  cases r3
  refine wpAny_truthy_bool ?_
  cases k with
  | false =>
    obtain ⟨k', e', q'⟩ := q3
    cases e'
    exact ite_ff ⟨H3, I3, q'⟩
  | true =>
    refine ite_tt (test_last (thn (hc pins s3 σ H3 _ I3 q3) fun w' s4 ⟨z', H4, I4, r4, q4⟩ => thn (ho' pins s4 σ H4 y z' u w' _ I4 r2 r4 q4) fun d' s5 ⟨z2, H5, I5, r5, k2, e2, q5⟩ => ?_))
    subst e2
    cases r5
    exact wpAny_truthy_bool ⟨H5, I5, q5⟩

/-! ### truth -/
/-- a value's truth by the abstract heap -/
def TruV (K : PySem.W.Frag) (x : V) (H : Hp) (k : Bool) : Prop :=
  match x with
  | .non => k = false
  | .bl b => k = b
  | .int i => k = (i != 0)
  | .str y => y.length ≤ sizeLine ∧ k = ((y.length : Int) != 0)
  | .byt y => y.size ≤ sizeLine ∧ k = ((y.size : Int) != 0)
  | .ref p => (∃ xs, SqL K H p xs ∧ k = !xs.isEmpty) ∨ (∃ xs, SqT K H p xs ∧ k = !xs.isEmpty) ∨ ∃ kvs, H p = some (.dK kvs) ∧ k = !kvs.isEmpty
  | _ => False
theorem line63 : (sizeLine : Nat) < 2 ^ 63 := by rw [sizeLine_eq]; decide
/-! ### strs and bytes -/
def PlainIxT (b : Expr) : Prop := ∀ o i, subscripted b false o i = operate [o, i] (getItem o i)
/-! ### scalar builtins, by CallR -/
theorem vals1 {x : V} {us : List Value} (r : Vals [x] us) : ∃ u, us = [u] ∧ RelV x u := by
  cases r with
  | cons r1 r2 => cases r2; exact ⟨_, rfl, r1⟩
theorem vals2 {x y : V} {us : List Value} (r : Vals [x, y] us) : ∃ u w', us = [u, w'] ∧ RelV x u ∧ RelV y w' := by
  cases r with
  | cons r1 r2 =>
    cases r2 with
    | cons r3 r4 => cases r4; exact ⟨_, _, rfl, r1, r3⟩
theorem call_max2 (hc : X.calm = true) : CallR X (.builtin "max") (fun xs H Q => ∃ i j, xs = [.int i, .int j] ∧ Q (.int (if j > i then j else i)) H) := by
  intro pins s σ H xs us Q I r h
  obtain ⟨i, j, rfl, q⟩ := h
  obtain ⟨u, w', rfl, ⟨t, rfl⟩, ⟨t', rfl⟩⟩ := vals2 r
  refine max_two_ints (I.ok.hd hc) fun h' tk k => ⟨_, H, I.kept k, ?_, q⟩
  by_cases hj : j > i
  · rw [if_pos hj, if_pos hj]; exact ⟨_, rfl⟩
  · rw [if_neg hj, if_neg hj]; exact ⟨_, rfl⟩
theorem call_min2 (hc : X.calm = true) : CallR X (.builtin "min") (fun xs H Q => ∃ i j, xs = [.int i, .int j] ∧ Q (.int (if j < i then j else i)) H) := by
  intro pins s σ H xs us Q I r h
  obtain ⟨i, j, rfl, q⟩ := h
  obtain ⟨u, w', rfl, ⟨t, rfl⟩, ⟨t', rfl⟩⟩ := vals2 r
  refine min_two_ints (I.ok.hd hc) fun h' tk k => ⟨_, H, I.kept k, ?_, q⟩
  by_cases hj : j < i
  · rw [if_pos hj, if_pos hj]; exact ⟨_, rfl⟩
  · rw [if_neg hj, if_neg hj]; exact ⟨_, rfl⟩
theorem call_ord : CallR X (.builtin "ord") (fun xs H Q => ∃ x, xs = [.str x] ∧ x.length = 1 ∧ Q (.int (x.cps.getD 0 0 : Nat)) H) := by
  intro pins s σ H xs us Q I r h
  obtain ⟨x, rfl, hz, q⟩ := h
  obtain ⟨u, rfl, t, rfl⟩ := vals1 r
  exact ord_of_one hz ⟨.int _, H, I.tok _, ⟨_, rfl⟩, q⟩
/-- len of a str, a bytes, a list, a tuple -/
def LenV (K : PySem.W.Frag) (x : V) (H : Hp) (n : Nat) : Prop :=
  match x with
  | .str y => y.length ≤ sizeLine ∧ n = y.length
  | .byt y => y.size ≤ sizeLine ∧ n = y.size
  | .ref p => (∃ xs, SqL K H p xs ∧ n = xs.length) ∨ ∃ xs, SqT K H p xs ∧ n = xs.length
  | _ => False
end
end L2

namespace L2
open PySem PySem.Spec PyProof.Rows

/-! ### an instance, its attributes a map -/
structure ObjM (h : Heap) (x dx C : Addr) (mA : Str → Option Value) : Prop where
  obj : h.get? x = some (PySem.W.instObj C dx)
  ns : h.Ns1 dx mA
  ne : dx ≠ x

theorem lookIn_ns {h : Heap} {dx : Addr} {mA : Str → Option Value} (n : h.Ns1 dx mA) : ∃ od, h.get? dx = some od ∧ ∀ name, PySem.W.lookIn name od = some (mA name) := by
  obtain ⟨o, es, ep, ho, hd, hk, _, hm⟩ := n
  refine ⟨o, ho, fun name => ?_⟩
  have e := hm name
  unfold nsFind findBy at e
  rw [← Array.find?_toList] at e
  unfold PySem.W.lookIn
  rw [hd]
  dsimp only
  split
  · rename_i y q
    rw [q] at e
    exact congrArg some e
  · rename_i q
    rw [q] at e
    have a : es.toList.any (·.refKey) = false := by
      rw [List.any_eq_false]
      intro y hy
      obtain ⟨z, t, hkey⟩ := hk y (Array.mem_toList_iff.mp hy)
      simp [DictEntry.refKey, hkey]
    have a' : ¬ es.toList.any (·.refKey) = true := by rw [a]; exact Bool.false_ne_true
    rw [if_neg a']
    exact congrArg some e

theorem ObjM.look {h : Heap} {x dx C : Addr} {mA : Str → Option Value} (I : ObjM h x dx C mA) : ∃ od, PySem.W.InstAt h x (PySem.W.instObj C dx) C (some od) ∧ ∀ name, PySem.W.lookIn name od = some (mA name) :=
  let ⟨od, ho, hl⟩ := lookIn_ns I.ns
  ⟨od, ⟨I.obj, rfl, rfl, ho⟩, hl⟩

section
variable {prog : Program} {w : World} {A : Around} {E : Value → Shared → Prop} {s : Shared} {K : PySem.W.Frag} {x dx C f : Addr} {mA : Str → Option Value} {name : Str} {v : Value}

theorem get_map {expr : Bool} {Q : Value → Shared → Prop} (X : K.In s.heap) (I : ObjM s.heap x dx C mA) (hg : PySem.W.plainGet K C name = true) (hh : PySem.W.hasDictIn K C = true)
    (ha : PySem.W.findIn K (.ref C) name = some none) (hv : mA name = some v) (hv' : PySem.W.handedIn v = true) (h : Q v { s with toks := s.toks + 1 }) :
    wpAny (model prog w) A (getAttr (.ref x) name expr) Q E s := by
  obtain ⟨od, J, hl⟩ := I.look
  exact PySem.W.get_value X J (PySem.W.plainGet_of hg).1 (PySem.W.findObj_own hh ha rfl (by rw [hl, hv])) hv' h

theorem set_map {ns : List Str} {Q : Unit → Shared → Prop} (X : K.In s.heap) (I : ObjM s.heap x dx C mA)
    (hs : PySem.W.findIn K (.ref C) "__setattr__" = some (some (.builtin "object.__setattr__"))) (hp : PySem.W.plainOver K C = true) (ht : PySem.W.takerIn K C name = some none) (hh : PySem.W.hasDictIn K C = true)
    (hw : PySem.Within mA ns) (hsz : ns.length ≤ sizeLine)
    (h : ∀ h', ObjM h' x dx C (fun y => if y = name then some v else mA y) → Heap.SameBut dx s.heap h' → Q () { s with heap := h', toks := s.toks + 2 }) :
    wpAny (model prog w) A (setAttr (.ref x) name v) Q E s := by
  obtain ⟨od, J, hl⟩ := I.look
  refine PySem.W.set_plain X J hs (PySem.W.osa_open (s := { s with toks := s.toks + 1 }) (r := none) X J hp ht fun b => ?_)
  obtain ⟨cd, hc, hd'⟩ := PySem.W.any_some hh
  have hx : s.heap.get? x = some ⟨.ref C, some dx, .plain, #[]⟩ := I.obj
  refine wpAny_bind (wpAny_pure (wpAny_bind (wpAny_bind (wpAny_loadPart hx (wpAny_bind (PySem.W.Looks.here (s := { s with toks := s.toks + 1 }) (PySem.W.looks_clsIn X hc) ?_))))))
  rw [hd']
  refine wpAny_pure (a := some dx) (wpAny_bind (wpAny_pure (wpAny_bind ?_)))
  refine wpAny_nsSet1 (s := { s with toks := s.toks + 1 }) I.ns fun h' hn2 hs2 => ?_
  obtain ⟨oD, esD, epD, hoD, hdD, hcD⟩ := hn2.count (PySem.Within.cons name v hw)
  refine wpAny_bind (wpAny_lookBehind hoD (by rw [hdD]; exact pastItsLine_dict (Nat.le_trans hcD (by rw [List.length_cons]; omega))) ?_)
  exact wpAny_pure (h _ ⟨(hs2.2 _ (Ne.symm I.ne)).trans I.obj, hn2, I.ne⟩ hs2)

/-- C(..): the dict at the heap's end, the instance behind it; then its __init__ -/
theorem make_map {R : Result → Shared → Prop} {vs : List Value} {kw : List (Str × Value)} (X : K.In s.heap) (hm : PySem.W.makesIn K C = true)
    (hi : PySem.W.findIn K (.ref C) "__init__" = some (some (.ref f))) (hf : PySem.W.typeIn K (.ref f) = some (.type "function"))
    (h : codeAny (model prog w) (A.under (.builtin "type.__call__" ⟨.ref C :: vs, kw⟩)) (.call (.ref f) ⟨.ref (s.heap.objs.size + 1) :: vs, kw⟩) (PySem.W.InitBack (s.heap.objs.size + 1) R)
      { s with heap := (s.heap.push PySem.W.emptyDict).push (PySem.W.instObj C s.heap.objs.size) }) :
    codeAny (model prog w) A (.call (.ref C) ⟨vs, kw⟩) R s := by
  obtain ⟨hh, g, d, t, os⟩ := s
  exact PySem.W.make_core (PySem.W.makes_of X hm) (PySem.W.looks_findIn X hi) (fun self => PySem.W.bind_fn X self hf) (.inl rfl) h
end

/-! ### the attributes as a list of pairs -/
def putF (f : Str) (v : V) : List (Str × V) → List (Str × V)
  | [] => [(f, v)]
  | (g, x) :: r => if g = f then (g, v) :: r else (g, x) :: putF f v r
theorem lookup_putF (f g : Str) (v : V) : ∀ fs : List (Str × V), (putF f v fs).lookup g = if g = f then some v else fs.lookup g
  | [] => by
    show List.lookup g [(f, v)] = _
    by_cases h : g = f
    · have hb : (g == f) = true := beq_iff_eq.mpr h
      simp only [List.lookup, hb, if_pos h]
    · have hb : (g == f) = false := beq_eq_false_iff_ne.mpr h
      simp only [List.lookup, hb, if_neg h]
  | (k, x) :: r => by
    have ih := lookup_putF f g v r
    rw [show putF f v ((k, x) :: r) = (if k = f then (k, v) :: r else (k, x) :: putF f v r) from rfl]
    by_cases hk : k = f
    · rw [if_pos hk]
      by_cases h : g = k
      · have hb : (g == k) = true := beq_iff_eq.mpr h
        simp only [List.lookup, hb, if_pos (h.trans hk)]
      · have hb : (g == k) = false := beq_eq_false_iff_ne.mpr h
        simp only [List.lookup, hb, if_neg (fun e : g = f => h (e.trans hk.symm))]
    · rw [if_neg hk]
      by_cases h : g = k
      · have hb : (g == k) = true := beq_iff_eq.mpr h
        simp only [List.lookup, hb, if_neg (fun e : g = f => hk (h.symm.trans e))]
      · have hb : (g == k) = false := beq_eq_false_iff_ne.mpr h
        simp only [List.lookup, hb]
        exact ih
theorem keys_putF (f : Str) (v : V) : ∀ fs : List (Str × V), f ∈ (putF f v fs).map (·.1) ∧ ∀ g, g ∈ fs.map (·.1) → g ∈ (putF f v fs).map (·.1)
  | [] => ⟨by simp [putF], fun g h => by simp at h⟩
  | (k, x) :: r => by
    obtain ⟨i1, i2⟩ := keys_putF f v r
    rw [show putF f v ((k, x) :: r) = (if k = f then (k, v) :: r else (k, x) :: putF f v r) from rfl]
    by_cases hk : k = f
    · rw [if_pos hk]
      subst hk
      exact ⟨by simp, fun g h => by simpa using h⟩
    · rw [if_neg hk]
      refine ⟨?_, fun g h => ?_⟩
      · rw [List.map_cons]
        exact List.mem_cons_of_mem _ i1
      · rw [List.map_cons] at h ⊢
        rcases List.mem_cons.mp h with e | e
        · exact List.mem_cons.mpr (.inl e)
        · exact List.mem_cons_of_mem _ (i2 g e)
theorem length_putF (f : Str) (v : V) : ∀ fs : List (Str × V), (putF f v fs).length ≤ fs.length + 1
  | [] => by simp [putF]
  | (k, x) :: r => by
    have ih := length_putF f v r
    rw [show putF f v ((k, x) :: r) = (if k = f then (k, v) :: r else (k, x) :: putF f v r) from rfl]
    by_cases hk : k = f
    · rw [if_pos hk, List.length_cons, List.length_cons]; omega
    · rw [if_neg hk, List.length_cons, List.length_cons]; omega

theorem RelO.some_of {v : V} {o : Option Value} (r : RelO (some v) o) : ∃ u, o = some u ∧ RelV v u := by
  cases o with
  | none => exact (show False from r).elim
  | some u => exact ⟨u, rfl, r⟩
theorem handed_of {v : V} {u : Value} (r : RelV v u) : PySem.W.handedIn u = true := by
  cases v with
  | non => cases (show u = Value.none from r); rfl
  | bl b => cases (show u = Value.bool b from r); rfl
  | int i => obtain ⟨t, e⟩ := (show ∃ t, u = Value.int i t from r); cases e; rfl
  | str x => obtain ⟨t, e⟩ := (show ∃ t, u = Value.str x t from r); cases e; rfl
  | byt b => obtain ⟨t, e⟩ := (show ∃ t, u = Value.bytes b t from r); cases e; rfl
  | flt b => obtain ⟨t, e⟩ := (show ∃ t, u = Value.float b t from r); cases e; rfl
  | ref a => cases (show u = Value.ref a from r); rfl
  | ty n => cases (show u = Value.type n from r); rfl

section
variable {P : Program} {w : World} {H H' : Hp} {h h' : Heap} {a C dx : Addr} {fs fs' : List (Str × V)}
theorem ins_get (hok : HOk P w H h) (e : H a = some (.ins C dx fs)) : ∃ mA, ObjM h a dx C mA ∧ (∀ f, RelO (fs.lookup f) (mA f)) ∧ PySem.Within mA (fs.map (·.1)) ∧ fs.length ≤ 1000 ∧ H dx = some (.own a) := by
  obtain ⟨d, z, ne, ob, mA, n, r, q⟩ := (show ObjOk P w H h a (.ins C dx fs) from hok a _ e)
  exact ⟨mA, ⟨ob, n, ne⟩, r, q, z, d⟩
end

/-! ### what of the text a class must have -/
structure Cls (K : PySem.W.Frag) (C : Addr) : Prop where
  pg : PySem.W.plainGet K C Str.empty = true
  hd : PySem.W.hasDictIn K C = true
  po : PySem.W.plainOver K C = true
  sa : PySem.W.findIn K (.ref C) "__setattr__" = some (some (.builtin "object.__setattr__"))
theorem Cls.get {K : PySem.W.Frag} {C : Addr} (c : Cls K C) (f : Str) : PySem.W.plainGet K C f = true := c.pg
/-- no class of it has the name -/
def NoAttr (K : PySem.W.Frag) (C : Addr) (f : Str) : Prop := PySem.W.findIn K (.ref C) f = some none
theorem NoAttr.taker {K : PySem.W.Frag} {C : Addr} {f : Str} (n : NoAttr K C f) : PySem.W.takerIn K C f = some none := by
  unfold PySem.W.takerIn
  rw [show PySem.W.findIn K (.ref C) f = some none from n]
  rfl
/-- a constant of the class -/
structure Con (K : PySem.W.Frag) (C : Addr) (f : Str) (v : V) (u : Value) : Prop where
  at_ : PySem.W.findIn K (.ref C) f = some (some u)
  rel : RelV v u
  get : PySem.W.specialIn K u "__get__" = some none
  cp : PySem.W.copiedNames.contains f = false
/-- a method: a plain def of the class or of one above it -/
structure Meth (K : PySem.W.Frag) (C : Addr) (m : Str) (f : Addr) : Prop where
  at_ : PySem.W.findIn K (.ref C) m = some (some (.ref f))
  fn : PySem.W.isFn K (.ref f) = true
  kp : PySem.W.keepIn K (.ref f) = true

section
variable {X : Cx} {pins : List (Addr × Obj)} {σ : St} {H : Hp} {s : Shared} {a C dx : Addr} {fs : List (Str × V)} {f : Str} {v : V} {A : Around} {E : Value → Shared → Prop}

theorem getattr_ok {b : Bool} {Q : Value → Shared → Prop} (I : Inv X pins σ H s) (e : H a = some (.ins C dx fs)) (c : Cls X.K C) (n : NoAttr X.K C f) (l : fs.lookup f = some v)
    (h : ∀ u s', Inv X pins σ H s' → RelV v u → Q u s') : wpAny (model X.prog X.w) A (getAttr (.ref a) f b) Q E s := by
  obtain ⟨mA, O, r, _, _, _⟩ := ins_get I.hok e
  obtain ⟨u, hu, ru⟩ := RelO.some_of (v := v) (o := mA f) (by rw [← l]; exact r f)
  exact get_map I.kIn O (c.get f) c.hd n hu (handed_of ru) (h u _ (I.tok _) ru)

theorem setattr_ok {y : V} {u : Value} {Q : Unit → Shared → Prop} (I : Inv X pins σ H s) (e : H a = some (.ins C dx fs)) (c : Cls X.K C) (n : NoAttr X.K C f) (hl : fs.length < 1000) (ry : RelV y u)
    (h : ∀ s', Inv X pins σ (upd H a (.ins C dx (putF f y fs))) s' → Q () s') : wpAny (model X.prog X.w) A (setAttr (.ref a) f u) Q E s := by
  obtain ⟨mA, O, r, wi, _, ho⟩ := ins_get I.hok e
  have hz : (fs.map (·.1)).length ≤ sizeLine := by rw [List.length_map, sizeLine_eq]; omega
  refine set_map I.kIn O c.sa c.po n.taker c.hd wi hz fun h' O' sb => h _ ?_
  have hd : ∃ o, h'.get? dx = some o := let ⟨o, _, _, e', _⟩ := O'.ns; ⟨o, e'⟩
  refine I.write (x := a) (e := dx) (by rw [e]; exact True.intro) (.inr ho) (fun b q hb z => (sb.2 b hb).trans z) hd ?_
  refine ⟨by rw [upd_ne O.ne]; exact ho, ?_, O.ne, O'.obj, _, O'.ns, fun g => ?_, fun g hg => ?_⟩
  · have := length_putF f y fs; omega
  · show RelO ((putF f y fs).lookup g) (if g = f then some u else mA g)
    rw [lookup_putF]
    by_cases q : g = f
    · rw [if_pos q, if_pos q]; exact ry
    · rw [if_neg q, if_neg q]; exact r g
  · by_cases q : g = f
    · rw [q]; exact (keys_putF f y fs).1
    · refine (keys_putF f y fs).2 g (wi g fun z => hg ?_)
      show (if g = f then some u else mA g) = none
      rw [if_neg q]; exact z

/-- a new instance, tracked, without attributes -/
theorem Inv.made (I : Inv X pins σ H s) : Inv X pins σ (upd (upd H s.heap.objs.size (.own (s.heap.objs.size + 1))) (s.heap.objs.size + 1) (.ins C s.heap.objs.size []))
    { s with heap := (s.heap.push PySem.W.emptyDict).push (PySem.W.instObj C s.heap.objs.size) } := by
  have e1 : (s.heap.push PySem.W.emptyDict).get? s.heap.objs.size = some PySem.W.emptyDict := Heap.get?_push_size s.heap rfl
  have e2 : ((s.heap.push PySem.W.emptyDict).push (PySem.W.instObj C s.heap.objs.size)).get? (s.heap.objs.size + 1) = some (PySem.W.instObj C s.heap.objs.size) := by
    have := Heap.get?_push_size (s.heap.push PySem.W.emptyDict) (o := PySem.W.instObj C s.heap.objs.size) rfl
    rwa [Heap.size_push] at this
  have e3 : (s.heap.push PySem.W.emptyDict).Ns s.heap.objs.size (fun _ => none) := ⟨PySem.W.emptyDict, #[], _, e1, rfl, (fun e he => absurd he (by simp)), fun _ => rfl⟩
  have I1 := I.laid (a := s.heap.objs.size) (o := .own (s.heap.objs.size + 1)) (h' := s.heap.push PySem.W.emptyDict) (t' := s.toks) (fun b u q => Heap.get?_push_of_some _ q) (Nat.le_refl _) ⟨_, e1⟩
  refine I1.laid (a := s.heap.objs.size + 1) (o := .ins C s.heap.objs.size []) (t' := s.toks) (fun b u q => Heap.get?_push_of_some _ q) (Nat.le_of_eq (Heap.size_push _ _)) ?_
  have ne : s.heap.objs.size ≠ s.heap.objs.size + 1 := Nat.ne_of_lt (Nat.lt_succ_self _)
  refine ⟨by rw [upd_ne ne, upd_same], Nat.zero_le _, ne, e2, fun _ => none, (Heap.Ns1.of_empty e3).at fun o q => Heap.get?_push_of_some _ q, fun _ => True.intro, fun y hy => absurd rfl hy⟩

/-- e.f where nothing but the object is asked: through attributeBase (super) and the last hold -/
theorem attr_of {prog : Program} {w : World} {env : Env} {e : Expr} {f : Str} {pos : Pos} {s : Shared} {Q : Value → Shared → Prop} (hb : attributeBase e f env (eval e env) = eval e env)
    (h : wpAny (model prog w) A (eval e env) (fun o s₁ => wpAny (model prog w) A (getAttr o f true) Q E s₁) E s) : wpAny (model prog w) A (eval (.Attribute e f pos) env) Q E s :=
  Attribute_any_ h (by rw [arm_eval_Attribute, hb])
end

/-! ### readings and rules -/
/-- e.f, an attribute of the instance -/
def tFld (K : PySem.W.Frag) (ta : TE) (f : Str) : TE := fun σ H Q => ta σ H fun x H1 => ∃ a C dx fs v, x = .ref a ∧ H1 a = some (.ins C dx fs) ∧ Cls K C ∧ NoAttr K C f ∧ fs.lookup f = some v ∧ Q v H1
/-- e.f, a constant of the class -/
def tCon (K : PySem.W.Frag) (ta : TE) (f : Str) : TE := fun σ H Q => ta σ H fun x H1 => ∃ a C dx fs v u, x = .ref a ∧ H1 a = some (.ins C dx fs) ∧ Cls K C ∧ Con K C f v u ∧ fs.lookup f = none ∧ Q v H1
/-- e.f = value -/
def sFld (K : PySem.W.Frag) (ta tv : TE) (f : Str) : TS := fun D σ H => tv σ H fun y H1 => ta σ H1 fun x H2 => ∃ a C dx fs, x = .ref a ∧ H2 a = some (.ins C dx fs) ∧ Cls K C ∧ NoAttr K C f ∧ fs.length < 1000 ∧
  D.nx σ (upd H2 a (.ins C dx (putF f y fs)))
/-- an augmented operator on two values -/
def InOp (X : Cx) (op : Operator) (rd : V → V → Hp → VK → Prop) : Prop :=
  ∀ (pins : List (Addr × Obj)) (s : Shared) (σ : St) (H : Hp) (x y : V) (u v : Value) (Q : VK), Inv X pins σ H s → RelV x u → RelV y v → rd x y H Q → wpAny (model X.prog X.w) X.A (inplaceOp op u v) (EP X pins σ Q) X.xe s
/-- e.f op= value -/
def sFldAug (K : PySem.W.Frag) (ta tv : TE) (rd : V → V → Hp → VK → Prop) (f : Str) : TS := fun D σ H => ta σ H fun x H1 => ∃ a C dx fs v, x = .ref a ∧ H1 a = some (.ins C dx fs) ∧ Cls K C ∧ NoAttr K C f ∧ fs.lookup f = some v ∧
  tv σ H1 fun y H2 => rd v y H2 fun z H3 => ∃ dx' fs', H3 a = some (.ins C dx' fs') ∧ fs'.length < 1000 ∧ D.nx σ (upd H3 a (.ins C dx' (putF f z fs')))

section
variable {X : Cx} {o e value : Expr} {f : Str} {pos pos' tpos : Pos} {ta tv : TE}
theorem pe_fld (he : PE X e ta) (hb : attributeBase e f X.env (eval e X.env) = eval e X.env) : PE X (.Attribute e f pos) (tFld X.K ta f) := by
  intro pins s σ H Q I h
  refine attr_of hb (thn (he pins s σ H _ I h) fun u s1 ⟨x, H1, I1, rx, a, C, dx, fs, v, ex, ea, c, n, l, q⟩ => ?_)
  subst ex
  obtain rfl : u = Value.ref a := rx
  exact getattr_ok I1 ea c n l fun u' s2 I2 ru => ⟨v, H1, I2, ru, q⟩
theorem ps_fld (ha : PE X o ta) (hv : PE X value tv) (hs : swapsWith value (some (.Attribute o f pos')) pos.line X.env = pure false) : PS X (.Assign [.Attribute o f pos'] value pos) (sFld X.K ta tv f) := by
  intro pins s σ H D I h
  refine plainObj_wpAny_Assign_Attribute (thn (hv pins s σ H _ I h) fun u s1 ⟨y, H1, I1, ry, q⟩ => thn (ha pins s1 σ H1 _ I1 q) fun ov s2 ⟨x, H2, I2, rx, a, C, dx, fs, ex, ea, c, n, l, q2⟩ => ?_) hs
  subst ex
  obtain rfl : ov = Value.ref a := rx
  exact setattr_ok I2 ea c n l ry fun s3 I3 => ⟨σ, _, I3, q2⟩
def rAdd : V → V → Hp → VK → Prop := fun x y H Q => ∃ i j, x = .int i ∧ y = .int j ∧ Q (.int (i + j)) H
def rSub : V → V → Hp → VK → Prop := fun x y H Q => ∃ i j, x = .int i ∧ y = .int j ∧ Q (.int (i - j)) H
end

/-! ### isinstance -/
section
variable {X : Cx} {pins : List (Addr × Obj)} {σ : St} {H : Hp} {s : Shared} {A : Around} {E : Value → Shared → Prop} {Q : Value → Shared → Prop} {c : Value} {b : Bool}
/-- the type of a value, as the fragment's deciders take it; for an instance its class -/
inductive TyOf (K : PySem.W.Frag) (H : Hp) : V → Value → Prop where
  | non : TyOf K H .non (.type "NoneType")
  | bl (x : Bool) : TyOf K H (.bl x) (.type "bool")
  | int (i : Int) : TyOf K H (.int i) (.type "int")
  | str (x : Str) : TyOf K H (.str x) (.type "str")
  | flt (x : UInt64) : TyOf K H (.flt x) (.type "float")
  | lst {a : Addr} {xs : List V} (e : H a = some (.lst xs)) : TyOf K H (.ref a) (.type "list")
  | frz {a : Addr} {o : Obj} {xs : List V} (e : H a = some (.frz o (.lst xs))) : TyOf K H (.ref a) (.type "list")
  | tup {a : Addr} {xs : List V} (e : H a = some (.tup xs)) : TyOf K H (.ref a) (.type "tuple")
  | dK {a : Addr} {kvs : List (Key × V)} (e : H a = some (.dK kvs)) : TyOf K H (.ref a) (.type "dict")
  | dT {a : Addr} {kvs : List (List Key × V)} (e : H a = some (.dT kvs)) : TyOf K H (.ref a) (.type "dict")
  | ins {a C dx : Addr} {fs : List (Str × V)} (e : H a = some (.ins C dx fs)) (cl : Cls K C) (ha : PySem.W.findIn K (.ref C) "__class__" = some (some (.builtin "object.__class__")))
      (hn : PySem.W.specialIn K (.builtin "object.__class__") "__get__" = some (some (.builtin "getset_descriptor.__get__"))) (htk : PySem.W.takesIn K (.builtin "object.__class__") = some true)
      (hm : PySem.W.mroIn K C (.type "object") = some true) : TyOf K H (.ref a) (.ref C)
end
end L2

namespace L2
open PySem PySem.Spec PyProof.Rows

/-! ### room -/
structure Room (k : Nat) (A : Around) : Prop where
  hd : A.handled = none
  dp : A.depth + 3 * k + 5 < recursionLimit
  un : A.units + 16 * k + 200 < cLine
theorem Room.mono {j k : Nat} {A : Around} (r : Room k A) (h : j ≤ k) : Room j A := ⟨r.hd, by have := r.dp; omega, by have := r.un; omega⟩
theorem Room.deeper {k : Nat} {A : Around} (r : Room (k + 1) A) (env : Env) : Room k (A.deeper env) :=
  ⟨r.hd, by have := r.dp; show A.depth + 1 + 3 * k + 5 < _; omega, by have := r.un; show A.units + 3 + 16 * k + 200 < _; omega⟩
theorem make_depth {A : Around} {C : Addr} {us : List Value} {kw : List (Str × Value)} : (A.under (.builtin "type.__call__" ⟨.ref C :: us, kw⟩)).depth = A.depth + 1 := by
  first | rfl | simp [Around.under, Code.weight, Code.isCreation, Code.isGuard, Code.isCaller, Code.frames, Code.isFrame, guardIds]
theorem make_units {A : Around} {C : Addr} {us : List Value} {kw : List (Str × Value)} : (A.under (.builtin "type.__call__" ⟨.ref C :: us, kw⟩)).units = A.units + 1 := by
  first | rfl | simp [Around.under, Code.cUnits, Code.frames, Code.isFrame]
theorem Room.make {k : Nat} {A : Around} (r : Room (k + 1) A) (C : Addr) (us : List Value) (kw : List (Str × Value)) : Room k (A.under (.builtin "type.__call__" ⟨.ref C :: us, kw⟩)) :=
  ⟨r.hd, by have := r.dp; rw [make_depth]; omega, by have := r.un; rw [make_units]; omega⟩
theorem Room.depth {k : Nat} {A : Around} (r : Room k A) : A.depth < recursionLimit := by have := r.dp; omega
theorem Room.units {k : Nat} {A : Around} (r : Room k A) : A.units + 64 < cLine := by have := r.un; omega
/-! ### argument lists and displays -/
def tNil : TA := fun _ H Q => Q [] H
def tCons (ta : TE) (tr : TA) : TA := fun σ H Q => ta σ H fun x H1 => tr σ H1 fun xs H2 => Q (x :: xs) H2
section
variable {X : Cx} {e : Expr} {es : List Expr} {te : TE} {t : TA} {pos : Pos}
theorem pa_nil : PA X [] tNil := fun _ _ _ _ H Q I h => Calls.spliced_nil ⟨[], H, I, .nil, h⟩
theorem pa_cons (ha : PE X e te) (hr : PA X es t) (hs : starEach (e :: es) X.env = (false, eval e X.env) :: starEach es X.env := by rfl) : PA X (e :: es) (tCons te t) := by
  intro pos pins s σ H Q I h
  rw [hs]
  show wpAny _ _ (spliced ((false, eval e X.env) :: backTo pos (starEach es X.env))) _ _ s
  refine Calls.spliced_cons (thn (ha pins s σ H _ I h) fun u s1 ⟨x, H1, I1, r1, q1⟩ => ?_)
  exact thn (hr pos pins s1 σ H1 _ I1 q1) fun us s2 ⟨xs, H2, I2, r2, q2⟩ => ⟨x :: xs, H2, I2, .cons r1 r2, q2⟩

/-- a tuple, a list of written items -/
def tTup (t : TA) : TE := fun σ H Q => t σ H fun xs H1 => xs.length ≤ sizeLine ∧ ∀ p, H1 p = none → Q (.ref p) (upd H1 p (.tup xs))
def tLst (t : TA) : TE := fun σ H Q => t σ H fun xs H1 => xs.length ≤ sizeLine ∧ ∀ p, H1 p = none → Q (.ref p) (upd H1 p (.lst xs))
theorem pe_tup {x1} (h : PA X es t) : PE X (.Tuple es x1 pos) (tTup t) := by
  intro pins s σ H Q I hq
  refine wpAny_Tuple_spliced (thn (h pos pins s σ H _ I hq) fun us s1 ⟨xs, H1, I1, r, z, q⟩ => ⟨by rw [← r.length]; exact z, ?_⟩)
  have hf : H1 s1.heap.objs.size = none := I1.hok.fresh (Nat.le_refl _)
  refine ⟨.ref s1.heap.objs.size, upd H1 s1.heap.objs.size (.tup xs), I1.laid (t' := s1.toks) (fun b u e => Heap.get?_push_of_some _ e) (Nat.le_refl _) ?_, rfl, q _ hf⟩
  exact ⟨z, us, r, ⟨_, Heap.get?_push_size _ rfl, rfl, _, rfl⟩⟩
theorem pe_lst (h : PA X es t) : PE X (.List es pos) (tLst t) := by
  intro pins s σ H Q I hq
  refine wpAny_List_spliced (thn (h pos pins s σ H _ I hq) fun us s1 ⟨xs, H1, I1, r, z, q⟩ => ⟨by rw [← r.length]; exact z, ?_⟩)
  have hf : H1 s1.heap.objs.size = none := I1.hok.fresh (Nat.le_refl _)
  refine ⟨.ref s1.heap.objs.size, upd H1 s1.heap.objs.size (.lst xs), I1.laid (t' := s1.toks) (fun b u e => Heap.get?_push_of_some _ e) (Nat.le_refl _) ?_, rfl, q _ hf⟩
  exact ⟨z, us, 0, r, Heap.get?_push_size _ rfl⟩
end

/-! ### what a def promises -/
/-- a def's promise: the bound arguments in the parameters' order, the heap, the wanted end, the wanted exception -/
abbrev Sp := List V → Hp → VK → XK → Prop
/-- how an exception lies behind a call (file 08 gives it): the callers' frames, abstract heap and state ahead of the call, the wish, the exception, the state -/
abbrev CXT := List Env → Hp → Shared → XK → Value → Shared → Prop

/-- the state at a call -/
structure Env0 (P : Program) (w : World) (K : PySem.W.Frag) (mg : Str → Option Value) (base : Heap) (A : Around) (outer : List Env) (s : Shared) (H : Hp) : Prop where
  frames : A.frames = some outer
  mod : Mod K mg base
  bs : ∀ b o, base.get? b = some o → s.heap.get? b = some o ∧ H b = none
  bsz : base.objs.size ≤ s.heap.objs.size
  funs : s.heap.FunFrames base outer
  frf : ∀ b ∈ frs outer, H b = none
  hok : HOk P w H s.heap
  bare : AllBare s.gens
/-- a call's end -/
def CE (outer : List Env) (P : Program) (w : World) (H : Hp) (s : Shared) (Q : VK) (u : Value) (s' : Shared) : Prop :=
  ∃ v H', s'.os = s.os ∧ AllBare s'.gens ∧ Un (frs outer) [] H H' s.heap s'.heap ∧ HOk P w H' s'.heap ∧ RelV v u ∧ Q v H'
def CR (CX : CXT) (outer : List Env) (P : Program) (w : World) (H : Hp) (s : Shared) (Q : VK) (E : XK) (r : Result) (s' : Shared) : Prop :=
  match r with
  | .ok (.ret u) => CE outer P w H s Q u s'
  | .ok _ => False
  | .error e => CX outer H s E e s'
structure FnOk (P : Program) (w : World) (K : PySem.W.Frag) (mg : Str → Option Value) (base : Heap) (CX : CXT) (k : Nat) (f : Addr) (fd : FuncData) (ps : List Str) (sp : Sp) : Prop where
  len : ∀ vs H Q E, sp vs H Q E → vs.length = ps.length
  run : ∀ (A : Around) (outer : List Env) (s : Shared) (H : Hp) (args : Args) (us : List Value) (vs : List V) (Q : VK) (E : XK), Room k A → Env0 P w K mg base A outer s H → BindsTo s fd args (ps.zip us) → Vals vs us → sp vs H Q E →
    codeAny (model P w) A (.call (.ref f) args) (CR CX outer P w H s Q E) s
theorem Env0.make {P : Program} {w : World} {K : PySem.W.Frag} {mg : Str → Option Value} {base : Heap} {A : Around} {outer : List Env} {s : Shared} {H : Hp} (e : Env0 P w K mg base A outer s H) (C : Addr) (us : List Value) (kw : List (Str × Value)) :
    Env0 P w K mg base (A.under (.builtin "type.__call__" ⟨.ref C :: us, kw⟩)) outer s H := ⟨by first | exact e.frames | (simpa [Around.under, Code.envs, Code.isFrame, pushEnvs] using e.frames), e.mod, e.bs, e.bsz, e.funs, e.frf, e.hok, e.bare⟩
section
variable {X : Cx} {pins : List (Addr × Obj)} {σ : St} {H : Hp} {s s' : Shared}
/-- from a body: what a callee wants -/
theorem Inv.env0 (I : Inv X pins σ H s) : Env0 X.prog X.w X.K X.mg X.base X.A X.stack s H :=
  ⟨I.ok.frames, I.ok.mod, I.bs, Nat.le_trans I.ok.bsz I.sz, I.stack, I.stkFree, I.hok, I.bare⟩
/-- behind a call -/
theorem Inv.after {Q : VK} {u : Value} (I : Inv X pins σ H s) (h : CE X.stack X.prog X.w H s Q u s') : EP X pins σ Q u s' := by
  obtain ⟨v, H', os, bare, un, hok, r, q⟩ := h
  obtain ⟨hh, g, d, t, os'⟩ := s'
  obtain rfl : os' = s.os := os
  exact ⟨v, H', I.call (h' := hh) (g' := g) (d' := d) (t' := t) (ch := []) un hok bare (fun b z => absurd z (by simp)), r, q⟩
end

/-! ### calls -/
/-- f(..): the written arguments, then the defaults dvs; E: what is wanted of an exception -/
def tCall (sp : Sp) (dvs : List V) (E : XK) (t : TA) : TE := fun σ H Q => t σ H fun vs H1 => sp (vs ++ dvs) H1 Q E
/-- o.m(..) of an instance of the class at C -/
def tMeth (C : Addr) (m : Str) (sp : Sp) (dvs : List V) (E : XK) (ta : TE) (t : TA) : TE := fun σ H Q => ta σ H fun x H1 => ∃ a dx fs, x = .ref a ∧ H1 a = some (.ins C dx fs) ∧ fs.lookup m = none ∧
  t σ H1 fun vs H2 => sp (x :: (vs ++ dvs)) H2 Q E
/-- C(..): a new instance and its dict, then __init__ -/
def tMake (C : Addr) (sp : Sp) (dvs : List V) (E : XK) (t : TA) : TE := fun σ H Q => t σ H fun vs H1 => ∀ x dx, H1 x = none → H1 dx = none → dx ≠ x →
  sp (.ref x :: (vs ++ dvs)) (upd (upd H1 dx (.own x)) x (.ins C dx [])) (fun v H2 => v = .non ∧ Q (.ref x) H2) E

/-- how the parameters are bound: us the positional arguments, kw the keywords' values by name, ds the defaults that fill up -/
def Binds (K : PySem.W.Frag) (fd : FuncData) (ps : List Str) (ds : List Value) : Prop :=
  ∀ (s : Shared) (us : List Value), K.In s.heap → (us ++ ds).length = ps.length → BindsTo s fd ⟨us, []⟩ (ps.zip (us ++ ds))
/-- every parameter is given -/
theorem Binds.all {K : PySem.W.Frag} {fd : FuncData} {ps : List Str} (h : ∀ us : List Value, us.length = ps.length → bindArgs fd ⟨us, []⟩ = pure (ps.zip us)) : Binds K fd ps [] := fun s us _ hl => by
  rw [List.append_nil] at hl ⊢
  exact .of_eq (h us hl)

/-- an exception of a callee reaches what this body wants of exceptions -/
def Passes (CX : CXT) (X : Cx) (E : XK) : Prop := ∀ (pins : List (Addr × Obj)) (σ : St) (H : Hp) (s : Shared) (e : Value) (s' : Shared), Inv X pins σ H s → CX X.stack H s E e s' → X.xe e s'

section
variable {X : Cx} {CX : CXT} {k : Nat} {f C : Addr} {fd : FuncData} {ps : List Str} {sp : Sp} {dvs : List V} {ds : List Value} {E : XK} {x m : Str} {p pos apos : Pos} {e o : Expr} {es : List Expr} {ta : TE} {t : TA}

/-- the callee runs -/
theorem run_fn {pins : List (Addr × Obj)} {σ : St} {H : Hp} {s : Shared} {Q : VK} {us : List Value} {vs : List V} (F : FnOk X.prog X.w X.K X.mg X.base CX k f fd ps sp) (hr : Room k X.A) (hb : Binds X.K fd ps ds) (hd : Vals dvs ds) (hx : Passes CX X E)
    (I : Inv X pins σ H s) (r : Vals vs us) (h : sp (vs ++ dvs) H Q E) : wpAny (model X.prog X.w) X.A (call (.ref f) us) (EP X pins σ Q) X.xe s := by
  have r2 : Vals (vs ++ dvs) (us ++ ds) := r.append hd
  have hl : (us ++ ds).length = ps.length := by rw [← r2.length]; exact F.len _ _ _ _ h
  refine wpAny_call (codeAny_mono (F.run X.A X.stack s H ⟨us, []⟩ (us ++ ds) (vs ++ dvs) Q E hr I.env0 (hb s us I.kIn hl) r2 h) fun r s' hq => ?_)
  cases r with
  | error e => exact hx pins σ H s e s' I hq
  | ok fl =>
    cases fl with
    | ret u => exact I.after hq
    | next => exact False.elim hq
    | brk => exact False.elim hq
    | cont => exact False.elim hq

theorem pe_call (F : FnOk X.prog X.w X.K X.mg X.base CX k f fd ps sp) (hr : Room k X.A) (hg : Gl X x) (hm : X.mg x = some (.ref f)) (hk : PySem.W.keepIn X.K (.ref f) = true) (hb : Binds X.K fd ps ds) (hd : Vals dvs ds) (hx : Passes CX X E)
    (ha : PA X (e :: es) t) (hdb : (x == ("__debug__" : Str)) = false := by decide) (he : starEach (e :: es) X.env = (false, eval e X.env) :: starEach es X.env := by rfl) (hpl : (backTo pos (starEach es X.env)).any (·.1) = false := by rfl) :
    PE X (.Call (.Name x p) (e :: es) [] pos) (tCall sp dvs E t) := by
  intro pins s σ H Q I h
  refine wpAny_Call_Name_kw (ld_glob I hg hm ?_ hdb)
  refine PySem.W.callWith_K (h₀ := X.base) I.ok.mod.kin hk (thn (ha pos pins s σ H _ I h) fun us s1 ⟨vs, H1, I1, r, q⟩ => ⟨I1.kIn, ?_⟩) he hpl
  exact run_fn F hr hb hd hx I1 r q
/-- what a class must have to be made -/
structure Mk (K : PySem.W.Frag) (C f : Addr) : Prop where
  makes : PySem.W.makesIn K C = true
  init : PySem.W.findIn K (.ref C) "__init__" = some (some (.ref f))
  fn : PySem.W.isFn K (.ref f) = true
  kp : PySem.W.keepIn K (.ref C) = true

theorem run_make {pins : List (Addr × Obj)} {σ : St} {H : Hp} {s : Shared} {Q : VK} {us : List Value} {vs : List V} (M : Mk X.K C f) (F : FnOk X.prog X.w X.K X.mg X.base CX k f fd ps sp) (hr : Room (k + 1) X.A) (hb : Binds X.K fd ps ds) (hd : Vals dvs ds)
    (hx : Passes CX X E) (I : Inv X pins σ H s) (r : Vals vs us)
    (h : ∀ x dx, H x = none → H dx = none → dx ≠ x → sp (.ref x :: (vs ++ dvs)) (upd (upd H dx (.own x)) x (.ins C dx [])) (fun v H2 => v = .non ∧ Q (.ref x) H2) E) :
    wpAny (model X.prog X.w) X.A (call (.ref C) us) (EP X pins σ Q) X.xe s := by
  have hq := h (s.heap.objs.size + 1) s.heap.objs.size (I.hok.fresh (Nat.le_succ _)) (I.hok.fresh (Nat.le_refl _)) (Nat.ne_of_lt (Nat.lt_succ_self _))
  have I2 := Inv.made (C := C) I
  have r2 : Vals (V.ref (s.heap.objs.size + 1) :: (vs ++ dvs)) (Value.ref (s.heap.objs.size + 1) :: (us ++ ds)) := .cons rfl (r.append hd)
  have hl : (Value.ref (s.heap.objs.size + 1) :: us ++ ds).length = ps.length := by
    have e := r2.length
    rw [F.len _ _ _ _ hq] at e
    exact e.symm
  refine wpAny_call (make_map (f := f) I.kIn M.makes M.init (beq_iff_eq.mp M.fn) (codeAny_mono (F.run _ X.stack _ _ ⟨Value.ref (s.heap.objs.size + 1) :: us, []⟩ (Value.ref (s.heap.objs.size + 1) :: (us ++ ds)) _ _ E (hr.make C us [])
    (I2.env0.make C us []) (hb _ (Value.ref (s.heap.objs.size + 1) :: us) I2.kIn hl) r2 hq) fun r s' hq' => ?_))
  cases r with
  | error e => exact hx pins σ _ _ e s' I2 hq'
  | ok fl =>
    cases fl with
    | ret u =>
      obtain ⟨v, H', I3, rv, ev, q3⟩ := I2.after hq'
      subst ev
      exact ⟨rv, ⟨V.ref (s.heap.objs.size + 1), H', I3, rfl, q3⟩⟩
    | next => exact False.elim hq'
    | brk => exact False.elim hq'
    | cont => exact False.elim hq'
theorem pe_make (M : Mk X.K C f) (F : FnOk X.prog X.w X.K X.mg X.base CX k f fd ps sp) (hr : Room (k + 1) X.A) (hg : Gl X x) (hm : X.mg x = some (.ref C)) (hb : Binds X.K fd ps ds) (hd : Vals dvs ds) (hx : Passes CX X E)
    (ha : PA X (e :: es) t) (hdb : (x == ("__debug__" : Str)) = false := by decide) (he : starEach (e :: es) X.env = (false, eval e X.env) :: starEach es X.env := by rfl) (hpl : (backTo pos (starEach es X.env)).any (·.1) = false := by rfl) :
    PE X (.Call (.Name x p) (e :: es) [] pos) (tMake C sp dvs E t) := by
  intro pins s σ H Q I h
  refine wpAny_Call_Name_kw (ld_glob I hg hm ?_ hdb)
  refine PySem.W.callWith_K (h₀ := X.base) I.ok.mod.kin M.kp (thn (ha pos pins s σ H _ I h) fun us s1 ⟨vs, H1, I1, r, q⟩ => ⟨I1.kIn, ?_⟩) he hpl
  exact run_make M F hr hb hd hx I1 r q
end

/-! ### keywords -/
/-- the values of the keywords, from the left -/
def PK (X : Cx) (kws : List Keyword) (t : TA) : Prop :=
  ∀ (pos : Pos) (pins : List (Addr × Obj)) (s : Shared) (σ : St) (H : Hp) (Q : List V → Hp → Prop), Inv X pins σ H s → t σ H Q → wpAny (model X.prog X.w) X.A (evalAll ((backToKw pos (keywordEach kws X.env)).map (·.2))) (AP X pins σ Q) X.xe s
section
variable {X : Cx} {CX : CXT} {k : Nat} {f C : Addr} {fd : FuncData} {ps ks : List Str} {sp : Sp} {E : XK} {x m : Str} {p pos apos kpos : Pos} {e o : Expr} {es : List Expr} {kws : List Keyword} {te ta : TE} {t tk : TA} {nm : Option Str}
/-- how a call with keywords binds: g puts the positional values us and the keywords' values ws (names ks) in the parameters' order, defaults among them -/
structure KBinds (K : PySem.W.Frag) (fd : FuncData) (ps ks : List Str) (g : List Value → List Value → List Value) (gV : List V → List V → List V) : Prop where
  to : ∀ (s : Shared) (us ws : List Value), K.In s.heap → (g us ws).length = ps.length → BindsTo s fd ⟨us, ks.zip ws⟩ (ps.zip (g us ws))
  rel : ∀ {vs : List V} {us : List Value} {zs : List V} {ws : List Value}, Vals vs us → Vals zs ws → Vals (gV vs zs) (g us ws)
def tCallK (sp : Sp) (gV : List V → List V → List V) (E : XK) (t tk : TA) : TE := fun σ H Q => t σ H fun vs H1 => tk σ H1 fun zs H2 => sp (gV vs zs) H2 Q E
variable {g : List Value → List Value → List Value} {gV : List V → List V → List V}
end

/-! ### a def's body keeps its promise -/
/-- names: the parameters first -/
structure FnScope (N P : List Str) (sc : Scope) : Prop where
  kind : sc.kind = .function
  co : sc.isCoroutine = false
  gen : sc.isGenerator = false
  nd : N.Nodup
  pre : N.take P.length = P
  par : ∀ x ∈ P, sc.names.lookup x = some .local ∨ sc.names.lookup x = some .cell
  nofree : ∀ y ∈ sc.names, y.2 ≠ .free

theorem bindL_out {kindOf : Str → Option NameKind} {x : Str} : ∀ {binds : List (Str × Value)} {m : Str → Option Value}, (∀ v, (x, v) ∉ binds) → bindL kindOf binds m x = m x
  | [], _, _ => rfl
  | (n, v) :: r, m, h => by
    unfold bindL
    rw [bindL_out fun w hw => h w (List.mem_cons_of_mem _ hw)]
    split
    · have : x ≠ n := by rintro rfl; exact h v List.mem_cons_self
      simp [this]
    · rfl
theorem bindC_out {kindOf : Str → Option NameKind} {x : Str} : ∀ {binds : List (Str × Value)} {m : Str → Option Value}, (∀ v, (x, v) ∉ binds) → bindC kindOf binds m x = m x
  | [], _, _ => rfl
  | (n, v) :: r, m, h => by
    unfold bindC
    rw [bindC_out fun w hw => h w (List.mem_cons_of_mem _ hw)]
    split
    · rfl
    · have : x ≠ n := by rintro rfl; exact h v List.mem_cons_self
      simp [this]
theorem bindL_get {kindOf : Str → Option NameKind} {x : Str} {v : Value} : ∀ {P : List Str} {vs : List Value} {i : Nat} {m : Str → Option Value}, P.Nodup → P[i]? = some x → vs[i]? = some v → kindOf x = some .local →
    bindL kindOf (P.zip vs) m x = some v
  | [], _, _, _, _, h, _, _ => by simp at h
  | _ :: _, [], _, _, _, _, h, _ => by simp at h
  | p :: P, w :: vs, 0, m, nd, h1, h2, hk => by
    simp at h1 h2; subst h1; subst h2
    show bindL kindOf ((p, w) :: P.zip vs) m p = _
    unfold bindL
    rw [bindL_out fun v hv => (List.nodup_cons.mp nd).1 (List.of_mem_zip hv).1, if_pos hk]
    simp
  | p :: P, w :: vs, i + 1, m, nd, h1, h2, hk => by
    show bindL kindOf ((p, w) :: P.zip vs) m x = _
    unfold bindL
    exact bindL_get (i := i) (List.nodup_cons.mp nd).2 (by simpa using h1) (by simpa using h2) hk
theorem bindC_get {kindOf : Str → Option NameKind} {x : Str} {v : Value} : ∀ {P : List Str} {vs : List Value} {i : Nat} {m : Str → Option Value}, P.Nodup → P[i]? = some x → vs[i]? = some v → kindOf x ≠ some .local →
    bindC kindOf (P.zip vs) m x = some v
  | [], _, _, _, _, h, _, _ => by simp at h
  | _ :: _, [], _, _, _, _, h, _ => by simp at h
  | p :: P, w :: vs, 0, m, nd, h1, h2, hk => by
    simp at h1 h2; subst h1; subst h2
    show bindC kindOf ((p, w) :: P.zip vs) m p = _
    unfold bindC
    rw [bindC_out fun v hv => (List.nodup_cons.mp nd).1 (List.of_mem_zip hv).1, if_neg hk]
    simp
  | p :: P, w :: vs, i + 1, m, nd, h1, h2, hk => by
    show bindC kindOf ((p, w) :: P.zip vs) m x = _
    unfold bindC
    exact bindC_get (i := i) (List.nodup_cons.mp nd).2 (by simpa using h1) (by simpa using h2) hk

/-- the names' values at the entry -/
def start (N : List Str) (vs : List V) : St := vs.map some ++ List.replicate (N.length - vs.length) none

/-- the context of a def's body, at its entry; an exception leaves the frame, then lies as CX says -/
def cxOf (CX : CXT) (P : Program) (w : World) (K : PySem.W.Frag) (mg : Str → Option Value) (base : Heap) (N : List Str) (qual : Str) (scope : Scope) (f : Addr) (cd : Value) (A : Around) (outer : List Env) (s : Shared) (H : Hp) (E : XK) : Cx where
  prog := P
  w := w
  K := K
  mg := mg
  base := base
  A := A.deeper (envOfC qual scope s.heap.objs.size f cd)
  N := N
  s_0 := s
  H_0 := H
  env := envOfC qual scope s.heap.objs.size f cd
  outer := outer
  stack := envOfC qual scope s.heap.objs.size f cd :: outer
  ex := []
  calm := true
  fn := fun _ => true
  pn := []
  xe := fun e s' => wpAny (model P w) (A.deeper (envOfC qual scope s.heap.objs.size f cd)) (leaving (envOfC qual scope s.heap.objs.size f cd) e) (fun _ s'' => CX outer H s E e s'') (fun e' s'' => CX outer H s E e' s'') s'

theorem cell_has {sc : Scope} {n : Nat} {x : Str} (h : sc.names.lookup x = some .cell) : ∃ c, (cellsFrom n sc.names []).lookup x = some c := by
  have q := PySem.W.cellsFrom_some sc.names n [] (.inl h)
  exact Option.isSome_iff_exists.mp q

theorem inv_start {CX : CXT} {P : Program} {w : World} {K : PySem.W.Frag} {mg : Str → Option Value} {base : Heap} {N ps : List Str} {qual : Str} {scope : Scope} {f : Addr} {cd : Value} {A : Around} {outer : List Env} {s s1 : Shared} {H : Hp} {E : XK} {us : List Value} {vs : List V}
    (S : FnScope N ps scope) (hd : A.handled = none) (e0 : Env0 P w K mg base A outer s H) (hl : vs.length = ps.length) (r : Vals vs us)
    (x : InCallC s s.heap.objs.size (bindL (envOfC qual scope s.heap.objs.size f cd).kindOf (ps.zip us) fun _ => none) (cellsFrom (s.heap.objs.size + 1) scope.names []) (bindC (envOfC qual scope s.heap.objs.size f cd).kindOf (ps.zip us) fun _ => none) s1) :
    Inv (cxOf CX P w K mg base N qual scope f cd A outer s H E) [] (start N vs) H s1 := by
  have hpl : ps.length ≤ N.length := by have := congrArg List.length S.pre; rw [List.length_take] at this; omega
  obtain ⟨h1, tk, rfl, hk⟩ := x.done
  have noA : ∀ b : Addr, b ∉ (cxOf CX P w K mg base N qual scope f cd A outer s H E).ex := fun b z => absurd (show b ∈ ([] : List Addr) from z) (by simp)
  refine ⟨⟨e0.mod, S.kind, rfl, rfl, Nat.le_refl _, fun y z c h1 h2 => ?_, fun y hy => ?_, fun y c _ h => ?_, fun _ => hd, Around.frames_deeper e0.frames, .inr ⟨rfl, rfl⟩, fun b z => absurd z (noA b), e0.bs, e0.bsz, fun b _ _ => noA b, fun b z => absurd z (noA b), e0.funs, e0.frf⟩,
    rfl, e0.bare, Un.kept hk, ⟨_, x.toInCall.ns, fun i y v h1 h2 h3 => ?_⟩, fun y c h => ⟨_, x.cell y c h⟩, e0.hok.fresh (Nat.le_refl _), fun y c h => ?_, fun p hp => absurd (show p ∈ ([] : List (Addr × Obj)) from hp) (by simp), e0.hok.kept hk, ?_⟩
  · exact name_of_addr x.apart (PySem.mem_of_lookup h1) (PySem.mem_of_lookup h2)
  · have hy : scope.names.lookup y = some .cell ∨ scope.names.lookup y = some .free := hy
    rcases hy with hy | hy
    · exact cell_has hy
    · exact absurd rfl (S.nofree _ (PySem.mem_of_lookup hy))
  · exact Nat.le_of_lt (x.above y c (PySem.mem_of_lookup h))
  · have hi : i < vs.length := by
      unfold start at h2
      by_cases hi : i < vs.length
      · exact hi
      · rw [List.getElem?_append_right (by simpa using hi)] at h2
        rw [List.getElem?_replicate] at h2
        split at h2 <;> cases h2
    have ha : vs[i]? = some v := by
      unfold start at h2
      rw [List.getElem?_append_left (by simpa using hi), List.getElem?_map] at h2
      cases e : vs[i]? with
      | none => rw [e] at h2; cases h2
      | some a => rw [e] at h2; cases h2; rfl
    obtain ⟨u, hu, rv⟩ := r.get ha
    have hp : ps[i]? = some y := by
      rw [← S.pre, List.getElem?_take_of_lt (by omega)]; exact h1
    have ndP : ps.Nodup := by rw [← S.pre]; exact S.nd.sublist (List.take_sublist _ _)
    refine ⟨u, rv, ?_⟩
    rcases S.par y (List.mem_of_getElem? hp) with k | k
    · exact .inl ⟨k, bindL_get ndP hp hu k⟩
    · obtain ⟨c, e⟩ := cell_has (n := s.heap.objs.size + 1) k
      refine .inr ⟨.inl k, c, e, ?_⟩
      have q := x.cell y c e
      rw [bindC_get ndP hp hu (by show scope.names.lookup y ≠ _; rw [k]; decide)] at q
      exact q
  · exact e0.hok.fresh (Nat.le_of_lt (x.above y c (PySem.mem_of_lookup h)))
  · unfold start
    show _ = N.length
    rw [List.length_append, List.length_map, List.length_replicate]
    omega

/-- THE RULE: a def (or a method) of the text, by its body. The body's reading t is chosen for each entry; it is run at the parameters' values -/
theorem fn_of {CX : CXT} {P : Program} {w : World} {K : PySem.W.Frag} {mg : Str → Option Value} {base : Heap} {k : Nat} {f : Addr} {name qual : Str} {params : Arguments} {body : List Stmt} {scope : Scope} {dV kV doc pm cdv ct oc : Value} {an od : Option Addr}
    {osl : Array (Option Value)} {N ps : List Str} {sp : Sp} (lk : K.lookup f = some ⟨oc, od, .func (PySem.W.fnOf name qual params body scope dV kV doc pm an cdv ct), osl⟩) (hcd : PySem.W.codeIn K cdv qual = true) (S : FnScope N ps scope)
    (len : ∀ vs H Q E, sp vs H Q E → vs.length = ps.length)
    (hbody : ∀ (A : Around) (outer : List Env) (s : Shared) (H : Hp) (vs : List V) (Q : VK) (E : XK), Room k (A.deeper (envOfC qual scope s.heap.objs.size f cdv)) → sp vs H Q E →
      ∃ t, PSs (cxOf CX P w K mg base N qual scope f cdv A outer s H E) body t ∧ t { nx := fun _ H' => Q .non H', rt := Q } (start N vs) H) :
    FnOk P w K mg base CX (k + 1) f (PySem.W.fnOf name qual params body scope dV kV doc pm an cdv ct) ps sp := by
  refine ⟨len, fun A outer s H args us vs Q E hr e0 hb r hsp => ?_⟩
  have hl := len _ _ _ _ hsp
  have KX : K.In s.heap := e0.mod.kin.keeps fun b o e => (e0.bs b o e).1
  have lim : s.heap.NoLimit := e0.mod.nolimit.keeps fun b o e => (e0.bs b o e).1
  have hkind : ∀ y ∈ ps.zip us, scope.names.lookup y.1 = some .local ∨ (scope.names.lookup y.1 = some .cell ∧ ((cellsFrom (s.heap.objs.size + 1) scope.names []).lookup y.1).isSome = true) := fun ⟨n, v⟩ hy => by
    rcases S.par n (List.of_mem_zip hy).1 with q | q
    · exact .inl q
    · exact .inr ⟨q, PySem.W.cellsFrom_some _ _ _ (.inl q)⟩
  refine codeAny_call_function hr.depth (KX _ _ lk) rfl S.co S.gen rfl (PySem.W.codeRec_of KX hcd) (hb _ _ _ _ ?_)
  refine wpAny_newFunctionEnv_cells S.kind hkind fun env he s1 x => ?_
  subst he
  refine ⟨lim.keeps x.toInCall.keep, codeAny_func ?_⟩
  obtain ⟨t, ht, hq⟩ := hbody A outer s H vs Q E (hr.deeper _) hsp
  have I : Inv (cxOf CX P w K mg base N qual scope f cdv A outer s H E) [] (start N vs) H s1 := inv_start S hr.hd e0 hl r x
  refine wpAny_mono (ht [] s1 (start N vs) H _ I hq) (fun fl s' hs => ?_) fun e s' hs => hs
  have fin : ∀ {σ' : St} {H' : Hp} {v : V} {u : Value}, Inv (cxOf CX P w K mg base N qual scope f cdv A outer s H E) [] σ' H' s' → RelV v u → Q v H' → CE outer P w H s Q u s' :=
    fun {σ' H' v u} J rv q => ⟨v, H', J.os, J.bare, J.base, J.hok, rv, q⟩
  cases fl with
  | ret u =>
    obtain ⟨v, σ', H', J, rv, q⟩ := hs
    exact fin J rv q
  | next =>
    obtain ⟨σ', H', J, q⟩ := hs
    exact fin (v := V.non) (u := Value.none) J rfl q
  | brk =>
    obtain ⟨_, _, _, q⟩ := hs
    exact False.elim q
  | cont =>
    obtain ⟨_, _, _, q⟩ := hs
    exact False.elim q
end L2

namespace L2
open PySem PySem.Spec PyProof.Rows
section
variable {X : Cx} {x : Str} {p pos : Pos} {e : Expr} {es : List Expr} {t : TA} {id T : String} {r : List V → Hp → VK → Prop}

def tCB (r : List V → Hp → VK → Prop) (t : TA) : TE := fun σ H Q => t σ H fun vs H1 => r vs H1 Q
/-- f(e, ..), f a built-in function -/
theorem pe_callB (hc : CallR X (.builtin id) r) (hg : Gl X x) (hm : X.mg x = none) (hv : bootBuiltins x = some (.builtin id)) (ha : PA X (e :: es) t) (hn : x ≠ "__name__" := by decide) (hdb : (x == ("__debug__" : Str)) = false := by decide)
    (he : starEach (e :: es) X.env = (false, eval e X.env) :: starEach es X.env := by rfl) (hpl : (backTo pos (starEach es X.env)).any (·.1) = false := by rfl) : PE X (.Call (.Name x p) (e :: es) [] pos) (tCB r t) := by
  intro pins s σ H Q I h
  refine wpAny_Call_Name_kw (ld_blt I hg hm hv ?_ hn hdb)
  exact PyProof.Rows.callWith_builtin1 (thn (ha pos pins s σ H _ I h) fun us s1 ⟨vs, H1, I1, r1, q1⟩ => hc pins s1 σ H1 vs us Q I1 r1 q1) he hpl
end
end L2

namespace HT
open PySem PyProof.Rows

/-- t < u of tuples of ints -/
def lexLt : List Int → List Int → Bool
  | [], [] => false
  | [], _ :: _ => true
  | _ :: _, [] => false
  | x :: xs, y :: ys => if x = y then lexLt xs ys else decide (x < y)
section
open PySem.SeqAt
open PySem.AutoSeq1 (wpAny_loadPart')
open PySem.MeetsSeq PySem.MeetsSeq2 PySem.MeetsSeq3

end

section
variable {prog : Program} {w : World} {A : Around} {E : Value → Shared → Prop} {s : Shared}

/-! ### t[a:b], not the whole -/
/-- a slice's bound as a place among n (d where it is left out) -/
def sIx (n d : Nat) : Option Int → Nat
  | none => d
  | some v => if v < 0 then (v + (n : Int)).toNat else min v.toNat n
theorem sIx_nat (n d k : Nat) : sIx n d (some (k : Int)) = min k n := by
  show (if (k : Int) < 0 then ((k : Int) + (n : Int)).toNat else min (k : Int).toNat n) = min k n
  rw [if_neg (by omega), Int.toNat_natCast]
end
end HT

namespace L2
open PySem PySem.Spec PyProof.Rows

/-! ### the parts of a slice -/
abbrev TO := St → Hp → (Option Int → Hp → Prop) → Prop
/-- a slice's part (left out, or an int) -/
def PO (X : Cx) (e : Option Expr) (t : TO) : Prop :=
  ∀ (pins : List (Addr × Obj)) (s : Shared) (σ : St) (H : Hp) (Q : Option Int → Hp → Prop), Inv X pins σ H s → t σ H Q →
    wpAny (model X.prog X.w) X.A (evalPart e X.env) (fun u s' => ∃ o H', Inv X pins σ H' s' ∧ IsPart u o ∧ Q o H') X.xe s
def tNoPart : TO := fun _ H Q => Q none H
def tPart (t : TE) : TO := fun σ H Q => t σ H fun x H1 => ∃ i, x = .int i ∧ Q (some i) H1

section
variable {X : Cx} {e : Expr} {te : TE} {lo hi : Option Expr} {tl th : TO} {pos p2 : Pos}

theorem po_none : PO X none tNoPart := by
  intro pins s σ H Q I h
  rw [evalPart_none]
  exact wpAny_pure ⟨none, H, I, .none, h⟩
theorem po_some (h : PE X e te) : PO X (some e) (tPart te) := by
  intro pins s σ H Q I hw
  rw [evalPart_some]
  refine thn (h pins s σ H _ I hw) fun u s1 ⟨x, H1, I1, r1, q1⟩ => ?_
  obtain ⟨i, rfl, q⟩ := q1
  obtain ⟨t, rfl⟩ := r1
  exact ⟨some i, H1, I1, .int i t, q⟩

/-- what a slice of a value is, by values: the slice object stands at sl -/
def SlR (X : Cx) (r : V → Option Int → Option Int → Hp → VK → Prop) : Prop :=
  ∀ (pins : List (Addr × Obj)) (s : Shared) (σ : St) (H : Hp) (x : V) (v vl vu : Value) (lo hi : Option Int) (sl : Addr) (Q : VK), Inv X pins σ H s → RelV x v → s.heap.IsSliceOf sl vl vu .none → IsPart vl lo → IsPart vu hi → r x lo hi H Q →
    ∃ T id, typeLookup (.type T) "__getitem__" = pure (some (.builtin id)) ∧ s.TypeIs v T ∧ wpAny (model X.prog X.w) X.A (getItem v (.ref sl)) (EP X pins σ Q) X.xe s
def tSl (r : V → Option Int → Option Int → Hp → VK → Prop) (te : TE) (tl th : TO) : TE := fun σ H Q => te σ H fun x H1 => tl σ H1 fun l H2 => th σ H2 fun u H3 => r x l u H3 Q
/-- a[lo:hi], any a -/
theorem pe_slice {r : V → Option Int → Option Int → Hp → VK → Prop} (hr : SlR X r) (he : PE X e te) (hl : PO X lo tl) (hu : PO X hi th) : PE X (.Subscript e (.Slice lo hi none p2) pos) (tSl r te tl th) := by
  intro pins s σ H Q I h
  refine Subscript_ (thn (he pins s σ H _ I h) fun v s1 ⟨x, H1, I1, r1, q1⟩ => ?_)
  refine wpAny_Slice (thn (hl pins s1 σ H1 _ I1 q1) fun vl s2 ⟨l, H2, I2, pl, q2⟩ => thn (hu pins s2 σ H2 _ I2 q2) fun vu s3 ⟨u, H3, I3, pu, q3⟩ => ?_)
  rw [evalPart_none]
  refine wpAny_pure ?_
  have I4 : Inv X pins σ H3 { s3 with heap := s3.heap.push { cls := .type "slice", data := .fields #[vl, vu, .none] } } := I3.kept (t' := s3.toks) fun b ob q => Heap.get?_push_of_some _ q
  obtain ⟨T, id, hT, ht, hg⟩ := hr pins { s3 with heap := s3.heap.push { cls := .type "slice", data := .fields #[vl, vu, .none] } } σ H3 x v vl vu l u s3.heap.objs.size Q I4 r1 (Heap.IsSliceOf.new ..) pl pu q3
  show wpAny (model X.prog X.w) X.A (subscriptTail e (.Slice lo hi none p2) v (.ref s3.heap.objs.size)) (EP X pins σ Q) X.xe { s3 with heap := s3.heap.push { cls := .type "slice", data := .fields #[vl, vu, .none] } }
  exact tail_any (ops := [.ref s3.heap.objs.size, v]) ht hT hg (by with_unfolding_all rfl)

/-- the items of xs[lo:hi] -/
def cutV (xs : List V) (lo hi : Option Int) : List V := (xs.drop (HT.sIx xs.length 0 lo)).take (HT.sIx xs.length xs.length hi - HT.sIx xs.length 0 lo)
theorem cutV_length (xs : List V) (lo hi : Option Int) : (cutV xs lo hi).length ≤ xs.length := by
  unfold cutV
  rw [List.length_take, List.length_drop]
  omega
/-- t[lo:hi], not the whole of it (the whole would be t itself) -/
def rSlT (K : PySem.W.Frag) : V → Option Int → Option Int → Hp → VK → Prop := fun x lo hi H Q => ∃ a xs, x = .ref a ∧ SqT K H a xs ∧
  ¬ (HT.sIx xs.length 0 lo = 0 ∧ HT.sIx xs.length xs.length hi = xs.length) ∧ ∀ p, H p = none → Q (.ref p) (upd H p (.tup (cutV xs lo hi)))
/-! ### t < u, t + u -/
def rLtT (K : PySem.W.Frag) : R2 := fun x y H Q => ∃ a b ns ms, x = .ref a ∧ y = .ref b ∧ SqT K H a (ns.map V.int) ∧ SqT K H b (ms.map V.int) ∧ Q (.bl (HT.lexLt ns ms)) H
/-- t + u, t not empty: u empty gives t itself -/
def rCatT (K : PySem.W.Frag) : R2 := fun x y H Q => ∃ a b xs ys, x = .ref a ∧ y = .ref b ∧ SqT K H a xs ∧ SqT K H b ys ∧ xs ≠ [] ∧ xs.length + ys.length ≤ sizeLine ∧
  (ys = [] → Q (.ref a) H) ∧ (ys ≠ [] → ∀ p, H p = none → Q (.ref p) (upd H p (.tup (xs ++ ys))))
end
end L2

namespace L2
open PySem PySem.Spec PyProof.Rows

/-! ### places -/
/-- the place that an index of any sign means -/
def ixN (n : Nat) (i : Int) : Option Nat := if 0 ≤ i then (if i < n then some i.toNat else none) else if -(n : Int) ≤ i then some (i + n).toNat else none
def atI {α : Type} (xs : List α) (i : Int) : Option α := (ixN xs.length i).bind fun j => xs[j]?
theorem ixN_seq {n : Nat} {i : Int} {j : Nat} (h : ixN n i = some j) : seqIndex? i n = some j ∧ j < n ∧ -(n : Int) ≤ i ∧ i < n := by
  unfold ixN at h
  by_cases h0 : 0 ≤ i
  · rw [if_pos h0] at h
    by_cases h1 : i < n
    · rw [if_pos h1] at h
      have e : i.toNat = j := Option.some.inj h
      exact ⟨by rw [seqIndex_of h0 h1, e], by omega, by omega, h1⟩
    · rw [if_neg h1] at h; cases h
  · rw [if_neg h0] at h
    by_cases h1 : -(n : Int) ≤ i
    · rw [if_pos h1] at h
      have e : (i + n).toNat = j := Option.some.inj h
      exact ⟨by rw [seqIndex_neg (by omega) h1, e], by omega, h1, by omega⟩
    · rw [if_neg h1] at h; cases h
theorem atI_get {α : Type} {xs : List α} {i : Int} {v : α} (h : atI xs i = some v) : ∃ j, seqIndex? i xs.length = some j ∧ xs[j]? = some v ∧ j < xs.length ∧ -(xs.length : Int) ≤ i ∧ i < xs.length := by
  unfold atI at h
  cases e : ixN xs.length i with
  | none => rw [e] at h; cases h
  | some j =>
    rw [e] at h
    obtain ⟨h1, h2, h3, h4⟩ := ixN_seq e
    exact ⟨j, h1, h, h2, h3, h4⟩
theorem atI_nat {α : Type} {xs : List α} {j : Nat} {v : α} (h : xs[j]? = some v) : atI xs (j : Int) = some v := by
  have hj : j < xs.length := (List.getElem?_eq_some_iff.mp h).1
  have e : ixN xs.length (j : Int) = some j := by
    unfold ixN
    rw [if_pos (by omega), if_pos (by omega)]; simp
  unfold atI; rw [e]; exact h
/-! ### what may be subscripted -/
/-- what stands as an index of a plain subscript -/
def PlainIx (b : Expr) : Prop := ∀ o i, subscripted b false o i = operate [o, i] (getItem o i)
/-- a subscript by values -/
def IxR (X : Cx) (r : R2) : Prop :=
  ∀ (value slice : Expr) (pins : List (Addr × Obj)) (s : Shared) (σ : St) (H : Hp) (x y : V) (v u : Value) (Q : VK), Inv X pins σ H s → RelV x v → RelV y u → r x y H Q →
    subscripted slice false v u = operate [v, u] (getItem v u) → wpAny (model X.prog X.w) X.A (subscriptTail value slice v u) (EP X pins σ Q) X.xe s
/-- a call of a builtin's method by values: the receiver, the arguments -/
def MtR (X : Cx) (id : String) (r : V → List V → Hp → VK → Prop) : Prop :=
  ∀ (pins : List (Addr × Obj)) (s : Shared) (σ : St) (H : Hp) (x : V) (xs : List V) (v : Value) (us : List Value) (Q : VK), Inv X pins σ H s → RelV x v → Vals xs us → r x xs H Q →
    wpAny (model X.prog X.w) X.A (call (.builtin id) (v :: us)) (EP X pins σ Q) X.xe s
section
variable {X : Cx} {a b : Expr} {ta tb : TE} {pos : Pos}
/-- a[b] -/
theorem pe_ix {r : R2} (hr : IxR X r) (ha : PE X a ta) (hb : PE X b tb) (hs : PlainIx b) : PE X (.Subscript a b pos) (tOp r ta tb) := by
  intro pins s σ H Q I h
  exact Subscript_ (binT ha hb I h fun v u s2 x y H2 I2 rx ry q => hr a b pins s2 σ H2 x y v u Q I2 rx ry q (hs _ _))

def rIxL (K : PySem.W.Frag) : R2 := fun x y H Q => ∃ p xs i v, x = .ref p ∧ y = .int i ∧ SqL K H p xs ∧ atI xs i = some v ∧ Q v H
def rIxT (K : PySem.W.Frag) : R2 := fun x y H Q => ∃ p xs i v, x = .ref p ∧ y = .int i ∧ SqT K H p xs ∧ atI xs i = some v ∧ Q v H
def rIxS : R2 := fun x y H Q => ∃ z i c, x = .str z ∧ y = .int i ∧ z.length ≤ sizeLine ∧ atI z.cps.toList i = some c ∧ Q (.str ⟨#[c]⟩) H
theorem ix_list : IxR X (rIxL X.K) := by
  intro value slice pins s σ H x y v u Q I rx ry h hs
  obtain ⟨p, xs, i, z, rfl, rfl, hq, he, q⟩ := h
  cases rx
  obtain ⟨t, rfl⟩ := ry
  obtain ⟨its, r, pl, hz⟩ := I.list hq
  obtain ⟨j, h1, h2, h3, h4, h5⟩ := atI_get he
  obtain ⟨w, ew, rw'⟩ := r.get h2
  have hl := r.length
  have hn := line63
  have fin : EP X pins σ Q w s := ⟨z, H, I, rw', q⟩
  by_cases h0 : 0 ≤ i
  · have hj : i.toNat = j := by
      rw [seqIndex_of h0 h5] at h1
      exact Option.some.inj h1
    exact item_listR pl.isList h0 (by omega) (by rw [hj]; simpa using ew) fin hs
  · have hj : (i + (its.toArray.size : Int)).toNat = j := by
      rw [seqIndex_neg (by omega) h4] at h1
      rw [List.size_toArray, ← hl]
      exact Option.some.inj h1
    exact subscriptTail_builtinR (x := w) pl.isList.typeIs slot_list_getitem.lookup
      (wpAny_getItem_list_neg (Q := fun r s' => r = w ∧ EP X pins σ Q r s') pl.isList (by omega) (by rw [List.size_toArray] <;> omega) (by omega) (by rw [hj]; simpa using ew) ⟨rfl, fin⟩) hs
theorem ix_tup : IxR X (rIxT X.K) := by
  intro value slice pins s σ H x y v u Q I rx ry h hs
  obtain ⟨p, xs, i, z, rfl, rfl, hq, he, q⟩ := h
  cases rx
  obtain ⟨t, rfl⟩ := ry
  obtain ⟨its, r, pl, hz⟩ := I.tuple hq
  obtain ⟨j, h1, h2, h3, h4, h5⟩ := atI_get he
  obtain ⟨w, ew, rw'⟩ := r.get h2
  have hl := r.length
  have hn := line63
  have fin : EP X pins σ Q w s := ⟨z, H, I, rw', q⟩
  exact subscriptTail_builtinR (x := w) pl.typeIs slot_tuple_getitem.lookup
    (getItem_tuple (j := j) (Q := fun r s' => r = w ∧ EP X pins σ Q r s') pl (by omega) (by omega) (by rw [List.size_toArray, ← hl]; exact h1) (by simpa using ew) ⟨rfl, fin⟩) hs
/-- list, tuple or str -/
def rIx (K : PySem.W.Frag) : R2 := fun x y H Q => rIxL K x y H Q ∨ rIxT K x y H Q ∨ rIxS x y H Q
/-! ### xs[i] = v, any sign -/
def rSetL : V → V → V → Hp → (Hp → Prop) → Prop := fun o i v H Q => ∃ p xs k j, o = .ref p ∧ i = .int k ∧ H p = some (.lst xs) ∧ ixN xs.length k = some j ∧ Q (upd H p (.lst (xs.set j v)))
/-! ### slices -/
theorem slice_bounds (lo hi : Option Int) (n : Nat) : (sliceBounds lo hi none n).1 = ((HT.sIx n 0 lo : Nat) : Int) ∧ (sliceBounds lo hi none n).2.1 = ((HT.sIx n n hi : Nat) : Int) ∧ (sliceBounds lo hi none n).2.2 = 1 := by
  refine ⟨?_, ?_, rfl⟩
  · cases lo with
    | none => simp [sliceBounds, HT.sIx]
    | some i =>
      simp only [sliceBounds, HT.sIx, Option.getD_none, show (1 : Int) > 0 by decide, if_true]
      by_cases h : i < 0
      · simp only [h, if_true] <;> omega
      · simp only [h, if_false] <;> omega
  · cases hi with
    | none => simp [sliceBounds, HT.sIx]
    | some i =>
      simp only [sliceBounds, HT.sIx, Option.getD_none, show (1 : Int) > 0 by decide, if_true]
      by_cases h : i < 0
      · simp only [h, if_true] <;> omega
      · simp only [h, if_false] <;> omega
theorem slicePick_cut (its : List Value) (lo hi : Option Int) : slicePick its.toArray lo hi none = ((its.drop (HT.sIx its.length 0 lo)).take (HT.sIx its.length its.length hi - HT.sIx its.length 0 lo)).toArray := by
  obtain ⟨h1, h2, h3⟩ := slice_bounds lo hi its.toArray.size
  unfold slicePick
  rw [h1, h2, h3]
  simp only [sliceRange_one, pick_run, List.size_toArray] <;> rfl
/-- xs[lo:hi] of a list: a new list -/
def rSlL (K : PySem.W.Frag) : V → Option Int → Option Int → Hp → VK → Prop := fun x lo hi H Q => ∃ a xs, x = .ref a ∧ SqL K H a xs ∧ ∀ p, H p = none → Q (.ref p) (upd H p (.lst (cutV xs lo hi)))
theorem sl_list : SlR X (rSlL X.K) := by
  intro pins s σ H x v vl vu lo hi sl Q I rx hs pl pu h
  obtain ⟨a, xs, rfl, hx, q⟩ := h
  cases rx
  obtain ⟨its, r, ht, hz⟩ := I.list hx
  have hlen := r.length
  refine ⟨"list", _, slot_list_getitem.lookup, ht.isList.typeIs, ?_⟩
  refine wpAny_getItem_list_slice ht.isList hs pl pu .none (by simp) ?_ (by rw [List.size_toArray] <;> omega)
  rw [slicePick_cut, ← hlen]
  refine ⟨.ref s.heap.objs.size, _, I.laid (t' := s.toks) (o := .lst (cutV xs lo hi)) (fun b ob q => Heap.get?_push_of_some _ q) (Nat.le_refl _) ?_, rfl, q _ (I.hok.fresh (Nat.le_refl _))⟩
  exact ⟨Nat.le_trans (cutV_length xs lo hi) hz, _, 0, (r.drop (HT.sIx xs.length 0 lo)).take (HT.sIx xs.length xs.length hi - HT.sIx xs.length 0 lo), Heap.get?_push_size _ rfl⟩

/-! ### in, not in: flat items -/
def flatV : V → Bool
  | .non => true
  | .bl _ => true
  | .int _ => true
  | .str _ => true
  | _ => false
/-- == of flat values -/
def eqV : V → V → Bool
  | .non, .non => true
  | .bl a, .bl b => a == b
  | .bl a, .int b => (if a then 1 else 0) == b
  | .int a, .bl b => a == (if b then 1 else 0)
  | .int a, .int b => a == b
  | .str a, .str b => a == b
  | _, _ => false
/-- the items' answers, read off the values (a value's own answer does not lean on its token) -/
def eqU (x : V) (u : Value) : Bool := match u with
  | .none => eqV .non x
  | .bool b => eqV (.bl b) x
  | .int i _ => eqV (.int i) x
  | .str z _ => eqV (.str z) x
  | _ => false
def inV (x : V) (xs : List V) : Bool := xs.any fun y => eqV y x
/-- x in a list or tuple of flat items -/
def rIn (K : PySem.W.Frag) (neg : Bool) : R2 := fun x y H Q => ∃ p xs, y = .ref p ∧ (SqL K H p xs ∨ SqT K H p xs) ∧ flatV x = true ∧ xs.all flatV = true ∧ Q (.bl (if neg then !inV x xs else inV x xs)) H
/-! ### len, list(x), tuple(x) of any list or tuple that is read -/
theorem call_len_seq : CallR X (.builtin "len") (fun xs H Q => ∃ p ys, xs = [.ref p] ∧ (SqL X.K H p ys ∨ SqT X.K H p ys) ∧ Q (.int ys.length) H) := by
  intro pins s σ H xs us Q I r h
  obtain ⟨p, ys, rfl, hq, q⟩ := h
  obtain ⟨u, rfl, rx⟩ := vals1 r
  cases rx
  have hn := line63
  rcases hq with hq | hq
  · obtain ⟨its, r', pl, hz⟩ := I.list hq
    have hlen := r'.length
    exact Calls.call_len_list pl.isList (by simp only [List.size_toArray] <;> omega) ⟨.int ys.length, H, I.tok _, ⟨s.toks + 1, by rw [List.size_toArray, hlen]⟩, q⟩
  · obtain ⟨its, r', pl, hz⟩ := I.tuple hq
    have hlen := r'.length
    exact len_tuple pl (by simp only [List.size_toArray] <;> omega) ⟨.int ys.length, H, I.tok _, ⟨s.toks + 1, by rw [List.size_toArray, hlen]⟩, q⟩
/-! ### the call of a builtin's method: o.m(..) -/
/-- the value is of that builtin type -/
def tyV (K : PySem.W.Frag) (T : String) (x : V) (H : Hp) : Prop := match x with
  | .str _ => T = "str"
  | .int _ => T = "int"
  | .ref p => (T = "list" ∧ ∃ xs, SqL K H p xs) ∨ (T = "tuple" ∧ ∃ o, K.lookup p = some o ∧ o.cls = .type "tuple" ∧ o.dict = none) ∨
      (T = "dict" ∧ ((∃ kvs, H p = some (.dK kvs)) ∨ ∃ kvs, H p = some (.dT kvs))) ∨ (T = "set" ∧ ∃ S n, H p = some (.set S n))
  | _ => False
theorem tyV_is {pins : List (Addr × Obj)} {σ : St} {H : Hp} {s : Shared} {T : String} {x : V} {v : Value} (I : Inv X pins σ H s) (r : RelV x v) (ty : tyV X.K T x H) :
    s.TypeIs v T ∧ ∀ a, v = .ref a → ∃ ob, s.heap.get? a = some ob ∧ ob.dict = none := by
  cases x with
  | str z =>
    obtain ⟨t, rfl⟩ := r
    cases (show T = "str" from ty)
    exact ⟨typeIs_str s z t, fun _ e => nomatch e⟩
  | int i =>
    obtain ⟨t, rfl⟩ := r
    cases (show T = "int" from ty)
    exact ⟨typeIs_int s i t, fun _ e => nomatch e⟩
  | ref p =>
    cases r
    rcases ty with ⟨rfl, xs, hq⟩ | ⟨rfl, o, hk, hc, hd⟩ | ⟨rfl, hk⟩ | ⟨rfl, S, n, hk⟩
    · obtain ⟨its, _, pl, _⟩ := I.list hq
      refine ⟨pl.isList.typeIs, fun a e => ?_⟩
      cases e
      obtain ⟨o, n, e, c, hd, _⟩ := pl
      exact ⟨o, e, hd⟩
    · refine ⟨⟨o, I.kIn p o hk, hc⟩, fun a e => ?_⟩
      cases e
      exact ⟨o, I.kIn _ o hk, hd⟩
    · have z : ∃ o, s.heap.get? p = some o ∧ o.ExactDict := by
        rcases hk with ⟨kvs, hk⟩ | ⟨kvs, hk⟩
        · obtain ⟨_, _, _, _, o, _, _, e, ex, _⟩ := I.hok p _ hk
          exact ⟨o, e, ex⟩
        · obtain ⟨_, _, _, _, o, _, _, e, ex, _⟩ := I.hok p _ hk
          exact ⟨o, e, ex⟩
      obtain ⟨o, e, ex⟩ := z
      refine ⟨⟨o, e, ex.1⟩, fun a e2 => ?_⟩
      cases e2
      exact ⟨o, e, ex.2.1⟩
    · obtain ⟨o, _, _, _, e, ex, _⟩ := I.hok p _ hk
      refine ⟨⟨o, e, ex.1⟩, fun a e2 => ?_⟩
      cases e2
      exact ⟨o, e, ex.2.1⟩
  | _ => exact False.elim ty
def tBM0 (K : PySem.W.Frag) (T : String) (r : V → List V → Hp → VK → Prop) (to : TE) : TE := fun σ H Q => to σ H fun x H1 => tyV K T x H1 ∧ r x [] H1 Q
def tBM (K : PySem.W.Frag) (T : String) (r : V → List V → Hp → VK → Prop) (to : TE) (t : TA) : TE := fun σ H Q => to σ H fun x H1 => tyV K T x H1 ∧ t σ H1 fun xs H2 => r x xs H2 Q
variable {o e : Expr} {es : List Expr} {to : TE} {t : TA} {name : Str} {apos cpos : Pos} {T id : String} {r : V → List V → Hp → VK → Prop}
theorem pe_bm (pa : PlainAttrs T) (slot : Slot T name id) (hty : typeOf (.builtin id) = pure (.type "method_descriptor")) (hm : MtR X id r) (ho : PE X o to) (ha : PA X (e :: es) t)
    (hbase : attributeBase o name X.env (eval o X.env) = eval o X.env := by rfl)
    (hfew : ((backTo cpos (starEach (e :: es) X.env)).all (fun x => !x.1) && (backToKw cpos (keywordEach [] X.env)).all (fun x => x.1.isSome)
      && decide ((e :: es).length + ([] : List Keyword).length + (if ([] : List Keyword).isEmpty then 0 else 1) < 30)) = true := by rfl)
    (hline : (apos.endLine == cpos.line) = true := by rfl) (hs : starEach (e :: es) X.env = (false, eval e X.env) :: starEach es X.env := by rfl) (hplain : (backTo cpos (starEach es X.env)).any (·.1) = false := by rfl) :
    PE X (.Call (.Attribute o name apos) (e :: es) [] cpos) (tBM X.K T r to t) := by
  intro pins s σ H Q I h
  refine wpAny_Call_method_late hbase hfew hline rfl (thn (ho pins s σ H _ I h) fun v s1 ⟨x, H1, I1, r1, ty, q1⟩ => ?_)
  obtain ⟨h1, h2⟩ := tyV_is I1 r1 ty
  refine ⟨T, id, pa, slot, hty, h1, h2, ?_⟩
  have hA := ha cpos pins s1 σ H1 _ I1 q1
  rw [hs] at hA ⊢
  refine Calls.callWith_builtin (by show (false || (backTo cpos (starEach es X.env)).any (·.1)) = false; rw [hplain] <;> rfl) (Calls.evalArgs_plain ?_)
  exact thn hA fun us s2 ⟨vs, H2, I2, r2, q2⟩ => hm pins s2 σ H2 x vs v us Q I2 r1 r2 q2
/- xs.append(e), list.index on a module's tuple .. are MtR facts of 06m -/
end
end L2

namespace L2
open PySem PySem.Spec PyProof.Rows

def MtM (X : Cx) (id : String) (r : V → List V → Hp → VK → Prop) : Prop :=
  ∀ (pins : List (Addr × Obj)) (s : Shared) (σ : St) (H : Hp) (x : V) (xs : List V) (v : Value) (us : List Value) (Q : VK), Inv X pins σ H s → RelV x v → Vals xs us → r x xs H Q →
    wpAny (model X.prog X.w) X.A (call (.builtin id) (v :: us)) (EP X pins σ Q) X.xe s

/-! ### lists of values -/
theorem Vals.one : ∀ {x : V} {us : List Value}, Vals [x] us → ∃ u, us = [u] ∧ RelV x u
  | _, _, .cons r .nil => ⟨_, rfl, r⟩
section
variable {X : Cx} {pins : List (Addr × Obj)} {σ : St} {H : Hp} {s : Shared} {l b : Addr} {xs ys zs : List V}

/-! ### the two steps: a tracked list is rewritten, a new list is laid -/
theorem Inv.lset {its its' : List Value} {n : Nat} {f : Array Value → Array Value} {t' : Nat} (I : Inv X pins σ H s) (hH : H l = some (.lst xs))
    (e : s.heap.get? l = some { cls := .type "list", data := .seq its.toArray n }) (hf : f its.toArray = its'.toArray) (hv : Vals ys its') (hz : ys.length ≤ sizeLine) :
    Inv X pins σ (upd H l (.lst ys)) { s with heap := s.heap.update l (Obj.mapSeq f), toks := t' } := by
  have q := PySem.IsL.update e f
  rw [hf] at q
  refine I.write (x := l) (e := l) (by rw [hH]; exact trivial) (.inl rfl) (fun b' u hb hu => (Heap.get?_update_other s.heap (Obj.mapSeq f) (Ne.symm hb)).trans hu) ⟨_, q⟩ ?_
  exact ⟨hz, its', _, hv, q⟩
theorem Inv.lnew {its : List Value} {t' : Nat} (I : Inv X pins σ H s) (hv : Vals ys its) (hz : ys.length ≤ sizeLine) :
    Inv X pins σ (upd H s.heap.objs.size (.lst ys)) { s with heap := s.heap.push { cls := .type "list", data := .seq its.toArray }, toks := t' } :=
  I.laid (fun _ _ q => Heap.get?_push_of_some _ q) (Nat.le_refl _) ⟨hz, its, 0, hv, Heap.get?_push_size _ rfl⟩
theorem Inv.fresh (I : Inv X pins σ H s) : H s.heap.objs.size = none := I.hok.fresh (Nat.le_refl _)
theorem Inv.lstM (I : Inv X pins σ H s) (hH : H l = some (.lst xs)) : xs.length ≤ sizeLine ∧ ∃ (its : List Value) (n : Nat), Vals xs its ∧ xs.length = its.length ∧ s.heap.get? l = some { cls := .type "list", data := .seq its.toArray n } := by
  obtain ⟨z, its, n, r, e⟩ := I.hok l _ hH
  exact ⟨z, its, n, r, r.length, e⟩

theorem notLongL {n : Nat} (h : n ≤ sizeLine) : Builtin.List.listTooLong n = false := by
  unfold Builtin.List.listTooLong
  exact decide_eq_false (by omega)
end

section
variable {X : Cx}

/-! ### methods -/
def rAppend : V → List V → Hp → VK → Prop := fun x vs H Q => ∃ l xs y, x = .ref l ∧ vs = [y] ∧ H l = some (.lst xs) ∧ xs.length < sizeLine ∧ Q .non (upd H l (.lst (xs ++ [y])))
theorem mt_append : MtM X "list.append" rAppend := by
  intro pins s σ H x vs v us Q I rx rv h
  obtain ⟨l, xs, y, rfl, rfl, hH, hz, q⟩ := h
  cases rx
  obtain ⟨u, rfl, ru⟩ := rv.one
  obtain ⟨z, its, n, r, hl, e⟩ := I.lstM hH
  refine call_meets F.slot_list_append ⟨_, e, rfl⟩ F.entry_list_append (F.args_list_append_2 _ _) (PySem.list_append l its.toArray n u (by rw [List.size_toArray]; omega)) ⟨e, ?_⟩
  refine ⟨.non, _, I.lset (its' := its ++ [u]) hH e (by simp) (r.append (.cons ru .nil)) ?_, rfl, q⟩
  rw [List.length_append, List.length_singleton]
  omega

def rExtend : V → List V → Hp → VK → Prop := fun x vs H Q => ∃ l b xs zs, x = .ref l ∧ vs = [.ref b] ∧ H l = some (.lst xs) ∧ H b = some (.lst zs) ∧ xs.length + zs.length ≤ sizeLine ∧ Q .non (upd H l (.lst (xs ++ zs)))
theorem mt_extend : MtM X "list.extend" rExtend := by
  intro pins s σ H x vs v us Q I rx rv h
  obtain ⟨l, b, xs, zs, rfl, rfl, hH, hB, hz, q⟩ := h
  cases rx
  obtain ⟨u, rfl, ru⟩ := rv.one
  cases ru
  obtain ⟨z, its, n, r, hl, e⟩ := I.lstM hH
  obtain ⟨z2, its2, n2, r2, hl2, e2⟩ := I.lstM hB
  have hsz : its.toArray.size + its2.toArray.size ≤ sizeLine := by rw [List.size_toArray, List.size_toArray]; omega
  have hlong : ¬ (!its.toArray.isEmpty && Builtin.List.listTooLong (its.toArray.size + its2.toArray.size)) = true := by
    rw [notLongL hsz, Bool.and_false]
    exact Bool.false_ne_true
  refine call_meets F.slot_list_extend ⟨_, e, rfl⟩ F.entry_list_extend (F.args_list_extend_2 _ _)
    (AutoSeq1.list_extend_list_list_0 l its.toArray n b its2.toArray n2 hlong (by rw [List.size_toArray]; omega) (by omega)) ⟨e, e2, ?_⟩
  refine ⟨.non, _, I.lset (its' := its ++ its2) hH e (by simp) (r.append r2) ?_, rfl, q⟩
  rw [List.length_append]
  omega

def rPop : V → List V → Hp → VK → Prop := fun x vs H Q => ∃ l xs y, x = .ref l ∧ vs = [] ∧ H l = some (.lst xs) ∧ xs[xs.length - 1]? = some y ∧ Q y (upd H l (.lst xs.dropLast))
def rPopAt : V → List V → Hp → VK → Prop := fun x vs H Q => ∃ l xs i k y, x = .ref l ∧ vs = [.int i] ∧ H l = some (.lst xs) ∧ -(2 ^ 63) ≤ i ∧ i < 2 ^ 63 ∧ seqIndex? i xs.length = some k ∧ xs[k]? = some y ∧ Q y (upd H l (.lst (xs.eraseIdx k)))
def rReverse : V → List V → Hp → VK → Prop := fun x vs H Q => ∃ l xs, x = .ref l ∧ vs = [] ∧ H l = some (.lst xs) ∧ Q .non (upd H l (.lst xs.reverse))
def rClear : V → List V → Hp → VK → Prop := fun x vs H Q => ∃ l xs, x = .ref l ∧ vs = [] ∧ H l = some (.lst xs) ∧ Q .non (upd H l (.lst []))
/-! ### list + list, list += list, list * int -/
def rCat : R2 := fun x y H Q => ∃ l b xs zs, x = .ref l ∧ y = .ref b ∧ H l = some (.lst xs) ∧ H b = some (.lst zs) ∧ xs.length + zs.length ≤ sizeLine ∧ ∀ p, H p = none → Q (.ref p) (upd H p (.lst (xs ++ zs)))
theorem op_cat : OpR X (binaryOp .Add) rCat := by
  intro pins s σ H x y v u Q I rx ry h
  obtain ⟨l, b, xs, zs, rfl, rfl, hH, hB, hz, q⟩ := h
  cases rx
  cases ry
  obtain ⟨z, its, n, r, hl, e⟩ := I.lstM hH
  obtain ⟨z2, its2, n2, r2, hl2, e2⟩ := I.lstM hB
  refine PySem.P.add_list e e2 ?_ (by rw [List.size_toArray, List.size_toArray]; omega)
  have ea : its.toArray ++ its2.toArray = (its ++ its2).toArray := by simp
  rw [ea]
  exact ⟨.ref _, _, I.lnew (t' := s.toks) (r.append r2) (by rw [List.length_append]; omega), rfl, q _ I.fresh⟩
/-- a list times an int (a negative one is nothing) -/
def rRep : R2 := fun x y H Q => ∃ l k xs, x = .ref l ∧ y = .int k ∧ H l = some (.lst xs) ∧ -(2 ^ 63) ≤ k ∧ k < 2 ^ 63 ∧ xs.length * k.toNat ≤ sizeLine ∧
  ∀ p, H p = none → Q (.ref p) (upd H p (.lst (List.replicate k.toNat xs).flatten))
/-! ### del xs[i] -/
end

/-! ### xs[a:b] = ys -/
section
variable {prog : Program} {w : World} {A : Around} {E : Value → Shared → Prop} {s : Shared}
end

section
variable {X : Cx}
end
end L2

namespace L2
open PySem PySem.Spec PyProof.Rows

theorem Vals.bls : ∀ {bs : List Bool} {us : List Value}, Vals (bs.map V.bl) us → us = bs.map Value.bool
  | [], us, h => by
    rw [List.map_nil] at h
    cases h
    rfl
  | b :: bs, us, h => by
    rw [List.map_cons] at h
    cases h with
    | cons r t =>
      cases r
      rw [Vals.bls t, List.map_cons]
theorem Vals.ref1 {a : Addr} {us : List Value} (r : Vals [V.ref a] us) : us = [Value.ref a] := by
  cases r with
  | cons r t =>
    cases t
    cases r
    rfl
/-! ### the library's walks over a list of ints, kept objects alone -/
section
variable {prog : Program} {w : World} {A : Around} {E : Value → Shared → Prop} {s : Shared} {l : Addr} {its : List Value} {ns : List Int} {Q : Value → Shared → Prop}
end

/-! ### the calls, by values (CallR of 03t; MtR of 06l) -/
section
variable {X : Cx}
/-- sum(xs) of a list of ints -/
def rSum (K : PySem.W.Frag) : List V → Hp → VK → Prop := fun vs H Q => ∃ (a : Addr) (ns : List Int), vs = [V.ref a] ∧ SqL K H a (ns.map V.int) ∧ Q (.int ns.sum) H
/-- max(xs), min(xs) of a list of ints -/
def rMax (K : PySem.W.Frag) : List V → Hp → VK → Prop := fun vs H Q => ∃ (a : Addr) (ns : List Int), vs = [V.ref a] ∧ SqL K H a (ns.map V.int) ∧ 0 < ns.length ∧ ∀ m, m ∈ ns → (∀ y, y ∈ ns → y ≤ m) → Q (.int m) H
def rMin (K : PySem.W.Frag) : List V → Hp → VK → Prop := fun vs H Q => ∃ (a : Addr) (ns : List Int), vs = [V.ref a] ∧ SqL K H a (ns.map V.int) ∧ 0 < ns.length ∧ ∀ m, m ∈ ns → (∀ y, y ∈ ns → m ≤ y) → Q (.int m) H
/-! sorted, sort (fewer than 64 items: the library's own bound) -/
def rSorted (K : PySem.W.Frag) : List V → Hp → VK → Prop := fun vs H Q => ∃ (a : Addr) (ns : List Int), vs = [V.ref a] ∧ SqL K H a (ns.map V.int) ∧ ns.length < 64 ∧
  ∀ (ns' : List Int) (p : Addr), ns'.Perm ns → ns'.Pairwise (· ≤ ·) → H p = none → Q (.ref p) (upd H p (.lst (ns'.map V.int)))
def rSortedS (K : PySem.W.Frag) : List V → Hp → VK → Prop := fun vs H Q => ∃ (a : Addr) (xs : List Str), vs = [V.ref a] ∧ SqL K H a (xs.map V.str) ∧ xs.length < 64 ∧
  ∀ (ys : List Str) (p : Addr), ys.Perm xs → sortedS ys = true → H p = none → Q (.ref p) (upd H p (.lst (ys.map V.str)))
/-- xs.sort(), ints -/
def rSort : V → List V → Hp → VK → Prop := fun x xs H Q => ∃ (a : Addr) (ns : List Int), x = V.ref a ∧ xs = [] ∧ H a = some (.lst (ns.map V.int)) ∧ ns.length < 64 ∧
  ∀ ns' : List Int, ns'.Perm ns → ns'.Pairwise (· ≤ ·) → Q .non (upd H a (.lst (ns'.map V.int)))
end

/-! ### list.index, flat items -/
section
variable {X : Cx}
def rIndex (K : PySem.W.Frag) : V → List V → Hp → VK → Prop := fun x xs H Q => ∃ (a : Addr) (ys : List V) (y : V) (j : Nat) (z : V), x = V.ref a ∧ xs = [y] ∧ SqL K H a ys ∧ flatV y = true ∧ ys.all flatV = true ∧ ys[j]? = some z ∧ eqV z y = true ∧
  (∀ (m : Nat) (z' : V), m < j → ys[m]? = some z' → eqV z' y = false) ∧ Q (.int (j : Nat)) H
end

/-! ### type(x) of an own instance; is, is not of a module's class -/
section
variable {X : Cx}
end

/-! ### any(xs), all(xs) of a list of bools -/
theorem iter_any {prog : Program} {w : World} {A : Around} {E : Value → Shared → Prop} {s : Shared} {l : Addr} {items : Array Value} {Q : Value → Shared → Prop} (hl : s.heap.IsList l items)
    (h : ∀ s₂ : Shared, s₂ = { s with heap := s.heap.push { cls := .type "list_iterator", data := .fields #[.ref l, .int 0 0] } } →
      (s₂.heap.IsListIter s.heap.objs.size l 0 ∧ s₂.heap.IsList l items) → l ≠ s.heap.objs.size → Q (.ref s.heap.objs.size) s₂) : wpAny (model prog w) A (pyIter (.ref l)) Q E s := by
  have hlt : l < s.heap.objs.size := by obtain ⟨_, e, _⟩ := hl; exact Heap.lt_size e
  exact wpAny_pyIter_list hl (h _ rfl ⟨⟨_, Heap.get?_push_size _ rfl, rfl, rfl⟩, hl.push _⟩ (Nat.ne_of_lt hlt))
theorem truth_bools {prog : Program} {w : World} {A : Around} {bs : List Bool} {its : List Value} (e : its = bs.map Value.bool) :
    TruthOf prog w A (fun i v => its.toArray[i]? = some v) (fun i => bs.getD i false) := fun i v s Q E hv hq => by
  have hv' : its[i]? = some v := by simpa using hv
  rw [e, List.getElem?_map] at hv'
  obtain ⟨b, hb, rfl⟩ := Option.map_eq_some_iff.mp hv'
  have hg : bs.getD i false = b := by rw [List.getD_eq_getElem?_getD, hb] <;> rfl
  have hq' : Q (bs.getD i false) s := hq
  rw [hg] at hq'
  exact wpAny_truthy_bool hq'
theorem any_range : ∀ bs : List Bool, (List.range bs.length).any (fun i => bs.getD i false) = bs.any id
  | [] => rfl
  | b :: bs => by
    rw [List.length_cons, List.range_succ_eq_map, List.any_cons, List.any_map, List.any_cons, ← any_range bs]
    all_goals rfl
theorem all_range : ∀ bs : List Bool, (List.range bs.length).all (fun i => bs.getD i false) = bs.all id
  | [] => rfl
  | b :: bs => by
    rw [List.length_cons, List.range_succ_eq_map, List.all_cons, List.all_map, List.all_cons, ← all_range bs]
    all_goals rfl
section
variable {X : Cx}
def rAny (K : PySem.W.Frag) : List V → Hp → VK → Prop := fun vs H Q => ∃ (a : Addr) (bs : List Bool), vs = [V.ref a] ∧ SqL K H a (bs.map V.bl) ∧ Q (.bl (bs.any id)) H
def rAll (K : PySem.W.Frag) : List V → Hp → VK → Prop := fun vs H Q => ∃ (a : Addr) (bs : List Bool), vs = [V.ref a] ∧ SqL K H a (bs.map V.bl) ∧ Q (.bl (bs.all id)) H
theorem cr_any (hc : X.calm = true) : CallR X (.builtin "any") (rAny X.K) := by
  intro pins s σ H vs us Q I r h
  obtain ⟨a, bs, rfl, hs, q⟩ := h
  obtain ⟨its, rv, hl, _⟩ := I.list hs
  rw [Vals.ref1 r]
  have hb := rv.bls
  refine call_any_walk (iter_any hl.isList fun s₂ e2 st hne => ?_)
  subst e2
  refine ⟨_, _, _, _, _, _, _, rfl, Walks.list (A := X.A.in1) (I.ok.hd hc) _ a hne its.toArray, st, truth_bools hb, fun h' tk hk => ?_⟩
  refine ⟨.bl _, H, I.kept fun b o eo => hk b o (fun hmem => ?_) (Heap.get?_push_of_some _ eo), ?_, q⟩
  · rcases List.mem_cons.mp hmem with e1 | hmem
    · exact absurd (e1 ▸ Heap.lt_size eo) (Nat.lt_irrefl _)
    · cases hmem
  · show Value.bool _ = Value.bool _
    rw [← any_range, hb, List.size_toArray, List.length_map]
theorem cr_all (hc : X.calm = true) : CallR X (.builtin "all") (rAll X.K) := by
  intro pins s σ H vs us Q I r h
  obtain ⟨a, bs, rfl, hs, q⟩ := h
  obtain ⟨its, rv, hl, _⟩ := I.list hs
  rw [Vals.ref1 r]
  have hb := rv.bls
  refine call_all_walk (iter_any hl.isList fun s₂ e2 st hne => ?_)
  subst e2
  refine ⟨_, _, _, _, _, _, _, rfl, Walks.list (A := X.A.in1) (I.ok.hd hc) _ a hne its.toArray, st, truth_bools hb, fun h' tk hk => ?_⟩
  refine ⟨.bl _, H, I.kept fun b o eo => hk b o (fun hmem => ?_) (Heap.get?_push_of_some _ eo), ?_, q⟩
  · rcases List.mem_cons.mp hmem with e1 | hmem
    · exact absurd (e1 ▸ Heap.lt_size eo) (Nat.lt_irrefl _)
    · cases hmem
  · show Value.bool _ = Value.bool _
    rw [← all_range, hb, List.size_toArray, List.length_map]
end

/-! ### == and != of data at any depth: none, bools, ints, texts, lists, tuples -/
mutual
inductive Dp (K : PySem.W.Frag) (H : Hp) : V → PyData → Prop
  | non : Dp K H .non .none
  | bl (b : Bool) : Dp K H (.bl b) (.bool b)
  | int (i : Int) : Dp K H (.int i) (.int i)
  | str (x : Str) : Dp K H (.str x) (.str x)
  | lst {a : Addr} {xs : List V} {ds : List PyData} : SqL K H a xs → DpAll K H xs ds → Dp K H (.ref a) (.list ds)
  | tup {a : Addr} {xs : List V} {ds : List PyData} : SqT K H a xs → DpAll K H xs ds → Dp K H (.ref a) (.tuple ds)
inductive DpAll (K : PySem.W.Frag) (H : Hp) : List V → List PyData → Prop
  | nil : DpAll K H [] []
  | cons {v : V} {vs : List V} {d : PyData} {ds : List PyData} : Dp K H v d → DpAll K H vs ds → DpAll K H (v :: vs) (d :: ds)
end
section
variable {X : Cx} {pins : List (Addr × Obj)} {σ : St} {H : Hp} {s : Shared}
mutual
theorem Dp.reads (I : Inv X pins σ H s) : ∀ (d : PyData) (v : V) (u : Value), Dp X.K H v d → RelV v u → ∃ as, Reads s.heap u d as
  | .none, _, _, h, r => by
    cases h
    cases r
    exact ⟨_, Reads.none⟩
  | .bool b, _, _, h, r => by
    cases h
    cases r
    exact ⟨_, Reads.bool b⟩
  | .int i, _, _, h, r => by
    cases h
    obtain ⟨t, rfl⟩ := r
    exact ⟨_, Reads.int i t⟩
  | .str x, _, _, h, r => by
    cases h
    obtain ⟨t, rfl⟩ := r
    exact ⟨_, Reads.str x t⟩
  | .list ds, _, _, h, r => by
    cases h with
    | lst hs ha =>
      cases r
      obtain ⟨its, rv, ⟨o, n, ho, hc, _, hd⟩, _⟩ := I.list hs
      obtain ⟨as, hr⟩ := Dp.readsAll I ds _ its ha rv
      exact ⟨_, Reads.list ho hc hd hr⟩
  | .tuple ds, _, _, h, r => by
    cases h with
    | tup hs ha =>
      cases r
      obtain ⟨its, rv, ⟨o, ho, hc, n, hd⟩, _⟩ := I.tuple hs
      obtain ⟨as, hr⟩ := Dp.readsAll I ds _ its ha rv
      exact ⟨_, Reads.tuple ho hc hd hr⟩
  | .dict _, _, _, h, _ => by cases h
theorem Dp.readsAll (I : Inv X pins σ H s) : ∀ (ds : List PyData) (vs : List V) (us : List Value), DpAll X.K H vs ds → Vals vs us → ∃ as, ReadsAll s.heap us ds as
  | [], _, _, h, r => by
    cases h
    cases r
    exact ⟨_, ReadsAll.nil⟩
  | d :: ds, _, _, h, r => by
    cases h with
    | cons h1 h2 =>
      cases r with
      | cons r1 r2 =>
        obtain ⟨as, q1⟩ := Dp.reads I d _ _ h1 r1
        obtain ⟨bs, q2⟩ := Dp.readsAll I ds _ _ h2 r2
        exact ⟨_, ReadsAll.cons q1 q2⟩
end
end
section
variable {X : Cx}
def rEqD (K : PySem.W.Frag) : R2 := fun x y H Q => ∃ d e, Dp K H x d ∧ Dp K H y e ∧ SeqAt.shaped d = true ∧ SeqAt.shaped e = true ∧ Q (.bl (PyData.eqv d e)) H
def rNeD (K : PySem.W.Frag) : R2 := fun x y H Q => ∃ d e, Dp K H x d ∧ Dp K H y e ∧ SeqAt.shaped d = true ∧ SeqAt.shaped e = true ∧ Q (.bl (!PyData.eqv d e)) H
theorem op_eqD (hu : X.A.units + 64 < cLine) : OpR X (compareOp .Eq) (rEqD X.K) := by
  intro pins s σ H x y v u Q I rx ry h
  obtain ⟨d, e, hd, he, sd, se, q⟩ := h
  obtain ⟨as, r1⟩ := Dp.reads I d x v hd rx
  obtain ⟨bs, r2⟩ := Dp.reads I e y u he ry
  exact SeqAt.compareEq_shaped r1 r2 sd se hu ⟨.bl _, H, I, rfl, q⟩
theorem op_neD (hu : X.A.units + 64 < cLine) : OpR X (compareOp .NotEq) (rNeD X.K) := by
  intro pins s σ H x y v u Q I rx ry h
  obtain ⟨d, e, hd, he, sd, se, q⟩ := h
  obtain ⟨as, r1⟩ := Dp.reads I d x v hd rx
  obtain ⟨bs, r2⟩ := Dp.reads I e y u he ry
  exact SeqAt.compareNe_shaped r1 r2 sd se hu ⟨.bl _, H, I, rfl, q⟩
end
end L2

namespace L2
open PySem PySem.Spec PyProof.Rows
abbrev CellAt (h : Heap) (c : Addr) (v : Option Value) : Prop := h.IsCell c v
def relS (scope sc : Scope) : Scope :=
  { scope with names := scope.names.map fun (n, k) => if (k == .free && sc.kind == .function && sc.names.lookup n == some .cell) then (n, .cell) else (n, k) }

def cloFrom (cells : List (Str × Addr)) : List (Str × NameKind) → List (Str × Addr) → List (Str × Addr)
  | [], acc => acc
  | (n, k) :: r, acc => if k == .free then cloFrom cells r ((n, (cells.lookup n).getD 0) :: acc) else cloFrom cells r acc

theorem closure_loop (env : Env) (f : Str × NameKind → List (Str × Addr) → Sem (ForInStep (List (Str × Addr))))
    (hf : ∀ n k c, f (n, k) c = if k == .free then (do let a ← cellOf env n; pure (.yield ((n, a) :: c))) else pure (.yield c)) :
    ∀ (names : List (Str × NameKind)) (acc : List (Str × Addr)), (∀ y ∈ names, y.2 = .free → ∃ c, env.cells.lookup y.1 = some c) → forIn names acc f = pure (cloFrom env.cells names acc)
  | [], acc, _ => by rw [List.forIn_nil]; rfl
  | (n, k) :: r, acc, h => by
    rw [List.forIn_cons, hf]
    have ih := fun acc => closure_loop env f hf r acc fun y hy => h y (List.mem_cons_of_mem _ hy)
    unfold cloFrom
    by_cases hk : (k == NameKind.free) = true
    · rw [if_pos hk, if_pos hk]
      obtain ⟨c, hc⟩ := h (n, k) List.mem_cons_self (by simpa using hk)
      have e : cellOf env n = pure c := by unfold cellOf; rw [hc]
      rw [e]
      have e2 : (env.cells.lookup n).getD 0 = c := by rw [hc]; rfl
      rw [e2]
      exact ih _
    · rw [if_neg hk, if_neg hk]
      exact ih _
theorem closure_ok {scope : Scope} {env : Env} (h : ∀ y ∈ scope.names, y.2 = .free → ∃ c, env.cells.lookup y.1 = some c) : closureFor scope env = pure (cloFrom env.cells scope.names []) := by
  simp only [closureFor]
  rw [closure_loop env _ (fun n k c => rfl) scope.names [] h]
  rfl

theorem mem_lookup {α : Type} : ∀ {l : List (Str × α)} {n : Str} {c : α}, (n, c) ∈ l → ∃ c', l.lookup n = some c'
  | (k, v) :: r, n, c, h => by
    rw [List.lookup_cons]
    cases hb : n == k with
    | true => exact ⟨_, rfl⟩
    | false =>
      rcases List.mem_cons.mp h with e | h
      · cases e; simp at hb
      · exact mem_lookup h

theorem cloFrom_mem {cells : List (Str × Addr)} : ∀ {names : List (Str × NameKind)} {acc : List (Str × Addr)} {n : Str} {c : Addr}, (n, c) ∈ cloFrom cells names acc → (n, c) ∈ acc ∨ ((n, .free) ∈ names ∧ c = (cells.lookup n).getD 0)
  | [], _, _, _, h => .inl h
  | (m, k) :: r, acc, n, c, h => by
    unfold cloFrom at h
    split at h
    · rename_i hk
      have hk : k = .free := by simpa using hk
      rcases cloFrom_mem h with h | ⟨h1, h2⟩
      · rcases List.mem_cons.mp h with e | h
        · cases e; exact .inr ⟨hk ▸ List.mem_cons_self, rfl⟩
        · exact .inl h
      · exact .inr ⟨List.mem_cons_of_mem _ h1, h2⟩
    · rcases cloFrom_mem h with h | ⟨h1, h2⟩
      · exact .inl h
      · exact .inr ⟨List.mem_cons_of_mem _ h1, h2⟩
theorem cloFrom_acc {cells : List (Str × Addr)} : ∀ {names : List (Str × NameKind)} {acc : List (Str × Addr)} {p : Str × Addr}, p ∈ acc → p ∈ cloFrom cells names acc
  | [], _, _, h => h
  | (m, k) :: r, acc, p, h => by
    unfold cloFrom
    split
    · exact cloFrom_acc (List.mem_cons_of_mem _ h)
    · exact cloFrom_acc h
theorem cloFrom_has {cells : List (Str × Addr)} : ∀ {names : List (Str × NameKind)} {acc : List (Str × Addr)} {n : Str}, (n, .free) ∈ names → (n, (cells.lookup n).getD 0) ∈ cloFrom cells names acc
  | (m, k) :: r, acc, n, h => by
    unfold cloFrom
    rcases List.mem_cons.mp h with e | h
    · cases e
      exact cloFrom_acc List.mem_cons_self
    · split
      · exact cloFrom_has h
      · exact cloFrom_has h

theorem cells_mem : ∀ {names : List (Str × NameKind)} {h : Heap} {acc : List (Str × Addr)} {x : Str} {c : Addr}, (x, c) ∈ cellsFrom h.objs.size names acc →
    (x, c) ∈ acc ∨ ((x, .cell) ∈ names ∧ h.objs.size ≤ c ∧ CellAt (pushCells h names) c none)
  | [], _, _, _, _, h => .inl h
  | (n, k) :: r, h, acc, x, c, hm => by
    unfold cellsFrom at hm
    unfold pushCells
    split at hm
    · rename_i hk
      rw [if_pos hk]
      have hk : k = .cell := by simpa using hk
      rw [← Heap.size_push h { cls := .type "cell", data := .cell none }] at hm
      rcases cells_mem hm with hm | ⟨h1, h2, h3⟩
      · rcases List.mem_cons.mp hm with e | hm
        · cases e
          exact .inr ⟨hk ▸ List.mem_cons_self, Nat.le_refl _, _, pushCells_keeps r _ _ _ (Heap.get?_push_size _ rfl), rfl⟩
        · exact .inl hm
      · rw [Heap.size_push] at h2
        exact .inr ⟨List.mem_cons_of_mem _ h1, Nat.le_of_succ_le h2, h3⟩
    · rename_i hk
      rw [if_neg hk]
      rcases cells_mem hm with hm | ⟨h1, h2, h3⟩
      · exact .inl hm
      · exact .inr ⟨List.mem_cons_of_mem _ h1, h2, h3⟩
theorem cells_acc : ∀ {names : List (Str × NameKind)} {n : Nat} {acc : List (Str × Addr)} {p : Str × Addr}, p ∈ acc → p ∈ cellsFrom n names acc
  | [], _, _, _, h => h
  | (m, k) :: r, n, acc, p, h => by
    unfold cellsFrom
    split
    · exact cells_acc (List.mem_cons_of_mem _ h)
    · exact cells_acc h
theorem cells_has : ∀ {names : List (Str × NameKind)} {n : Nat} {acc : List (Str × Addr)} {x : Str}, (x, .cell) ∈ names → ∃ c, (x, c) ∈ cellsFrom n names acc
  | (m, k) :: r, n, acc, x, h => by
    unfold cellsFrom
    rcases List.mem_cons.mp h with e | h
    · cases e
      exact ⟨n, cells_acc List.mem_cons_self⟩
    · split
      · exact cells_has h
      · exact cells_has h
theorem cells_inj : ∀ {names : List (Str × NameKind)} {h : Heap} {acc : List (Str × Addr)} {x y : Str} {c : Addr}, (∀ p ∈ acc, p.2 < h.objs.size) → (∀ x y c, (x, c) ∈ acc → (y, c) ∈ acc → x = y) →
    (x, c) ∈ cellsFrom h.objs.size names acc → (y, c) ∈ cellsFrom h.objs.size names acc → x = y
  | [], _, _, _, _, _, _, hi, h1, h2 => hi _ _ _ h1 h2
  | (n, k) :: r, h, acc, x, y, c, hl, hi, h1, h2 => by
    unfold cellsFrom at h1 h2
    split at h1
    · rename_i hk
      rw [if_pos hk] at h2
      rw [← Heap.size_push h { cls := .type "cell", data := .cell none }] at h1 h2
      refine cells_inj (h := h.push _) (fun p hp => ?_) (fun x y c a b => ?_) h1 h2
      · rw [Heap.size_push]
        rcases List.mem_cons.mp hp with rfl | hp
        · exact Nat.lt_succ_self _
        · exact Nat.lt_succ_of_lt (hl p hp)
      · rcases List.mem_cons.mp a with e | a <;> rcases List.mem_cons.mp b with e' | b
        · cases e; cases e'; rfl
        · cases e; exact absurd (hl _ b) (Nat.lt_irrefl _)
        · cases e'; exact absurd (hl _ a) (Nat.lt_irrefl _)
        · exact hi _ _ _ a b
    · rename_i hk
      rw [if_neg hk] at h2
      exact cells_inj hl hi h1 h2

theorem newEnv_comp {M : Model} {A : Around} {E : Value → Shared → Prop} {s : Shared} {scope : Scope} {globals : Addr} {closure : List (Str × Addr)} {qual : Str} {func : Option Addr} {code : Value} {around : Env} {builtins : Addr} {Q : Env → Shared → Prop}
    (h : Q (newEnv scope s.heap.objs.size globals (cellsFrom (s.heap.objs.size + 1) scope.names closure) qual func code (some around) builtins)
      { s with heap := pushCells (s.heap.push { cls := .type "dict", data := .dict #[] }) scope.names }) :
    wpAny M A (newFunctionEnv scope globals closure [] qual func code (some around) builtins) Q E s := by
  simp only [newFunctionEnv, Option.isSome_some, if_true]
  refine wpAny_bind (wpAny_alloc ?_)
  refine wpAny_bind (wpAny_layCells _ (fun n k c => rfl) scope.names closure _ _ ?_)
  rw [show ({ s with heap := s.heap.push { cls := .type "dict", data := .dict #[] } } : Shared).heap.objs.size = s.heap.objs.size + 1 from Heap.size_push ..]
  rw [List.forIn_nil]
  exact wpAny_bind (wpAny_pure (wpAny_pure h))

/-- every name of the written scope, in the scope that runs -/
theorem lookup_relS {sc : Scope} : ∀ {names : List (Str × NameKind)} {x : Str} {k : NameKind},
    (names.map fun (n, k) => if (k == NameKind.free && sc.kind == .function && sc.names.lookup n == some .cell) then (n, NameKind.cell) else (n, k)).lookup x = some k →
    ∃ k', names.lookup x = some k' ∧ (k = k' ∨ (k' = .free ∧ k = .cell))
  | [], _, _, h => by simp at h
  | (n, k₀) :: r, x, k, h => by
    have ih := @lookup_relS sc r x k
    have h' : List.lookup x ((if (k₀ == NameKind.free && sc.kind == .function && sc.names.lookup n == some .cell) = true then (n, NameKind.cell) else (n, k₀)) :: (r.map _)) = some k := h
    cases hx : x == n with
    | true =>
      simp only [List.lookup_cons, hx]
      by_cases hc : (k₀ == NameKind.free && sc.kind == .function && sc.names.lookup n == some .cell) = true
      · rw [if_pos hc] at h'
        simp only [List.lookup_cons, hx] at h'
        cases h'
        simp only [Bool.and_eq_true, beq_iff_eq] at hc
        exact ⟨k₀, rfl, .inr ⟨hc.1.1, rfl⟩⟩
      · rw [if_neg hc] at h'
        simp only [List.lookup_cons, hx] at h'
        cases h'
        exact ⟨_, rfl, .inl rfl⟩
    | false =>
      simp only [List.lookup_cons, hx]
      by_cases hc : (k₀ == NameKind.free && sc.kind == .function && sc.names.lookup n == some .cell) = true
      · rw [if_pos hc] at h'
        simp only [List.lookup_cons, hx] at h'
        exact ih h'
      · rw [if_neg hc] at h'
        simp only [List.lookup_cons, hx] at h'
        exact ih h'
/-- the names of a comprehension's block: its own (with their places in N), or captured -/
structure BlkOk (N : List Str) (sc scope : Scope) (own : List (Str × Nat)) : Prop where
  kind : scope.kind = .function
  uniq : ∀ y ∈ scope.names, scope.names.lookup y.1 = some y.2
  ix : ∀ p ∈ own, N[p.2]? = some p.1
  free : ∀ y ∈ scope.names, y.2 = .free → sc.names.lookup y.1 = some .cell ∨ sc.names.lookup y.1 = some .free
  own : ∀ y ∈ scope.names, y.2 = .local ∨ y.2 = .cell → y.1 ∈ own.map (·.1) ∨ y.1 ∉ N
/-- the slots of the block's own names forgotten -/
def wipe (σ : St) : List Nat → St
  | [] => σ
  | v :: vs => (wipe σ vs).set v none
theorem wipe_length (σ : St) : ∀ vs : List Nat, (wipe σ vs).length = σ.length
  | [] => rfl
  | v :: vs => by unfold wipe; rw [List.length_set, wipe_length σ vs]
theorem wipe_some {σ : St} {i : Nat} {x : V} : ∀ {vs : List Nat}, (wipe σ vs)[i]? = some (some x) → σ[i]? = some (some x) ∧ i ∉ vs
  | [], h => ⟨h, by simp⟩
  | v :: vs, h => by
    unfold wipe at h
    by_cases hi : v = i
    · subst hi
      by_cases hv : v < (wipe σ vs).length
      · rw [List.getElem?_set_self hv] at h; cases h
      · rw [List.getElem?_eq_none (by simpa using hv)] at h; cases h
    · rw [List.getElem?_set_ne hi] at h
      obtain ⟨h1, h2⟩ := wipe_some h
      exact ⟨h1, by simp only [List.mem_cons, not_or]; exact ⟨fun e => hi e.symm, h2⟩⟩

/-- the context of a block that starts at s, its iterator's objects at fp -/
abbrev Cx.blk (X : Cx) (s : Shared) (H : Hp) (scope : Scope) (cenv : Env) (fp : List Addr) : Cx := { X with s_0 := s, H_0 := H, env := cenv, outer := X.stack, ex := fp, fn := fun x => scope.names.lookup x == some .cell, pn := [], xe := fun _ _ => False }
section
variable {X : Cx} {pins : List (Addr × Obj)} {σ : St} {H : Hp} {s : Shared}
theorem block_start {scope : Scope} {own : List (Str × Nat)} {fp : List Addr} (I : Inv X pins σ H s) (ok : BlkOk X.N X.env.scope scope own) (hN : X.N.Nodup) (hfp : ∀ b ∈ fp, FpOk X pins H b ∧ b < s.heap.objs.size) :
    Inv (X.blk s H scope (compEnvC scope (cellsFrom (s.heap.objs.size + 1) scope.names (cloFrom X.env.cells scope.names [])) s.heap.objs.size X.env) fp) [] (wipe σ (own.map (·.2))) H { s with heap := pushCells (s.heap.push { cls := .type "dict", data := .dict #[] }) scope.names } := by
  have hfree : ∀ y ∈ scope.names, y.2 = .free → ∃ c, X.env.cells.lookup y.1 = some c := fun y hy e => by
    rcases ok.free y hy e with k | k
    · exact I.ok.has _ (.inl k)
    · exact I.ok.has _ (.inr k)
  generalize hcenv : compEnvC scope (cellsFrom (s.heap.objs.size + 1) scope.names (cloFrom X.env.cells scope.names [])) s.heap.objs.size X.env = cenv
  have kp : ∀ b o, s.heap.get? b = some o → (pushCells (s.heap.push { cls := .type "dict", data := .dict #[] }) scope.names).get? b = some o := fun b o e => pushCells_keeps _ _ _ _ (Heap.get?_push_of_some _ e)
  have hL : cenv.locals = s.heap.objs.size := by rw [← hcenv]; rfl
  have hcl : cenv.cells = cellsFrom (s.heap.objs.size + 1) scope.names (cloFrom X.env.cells scope.names []) := by rw [← hcenv]; rfl
  have hsc : cenv.scope = relS scope X.env.scope := by rw [← hcenv]; rfl
  rw [← Heap.size_push s.heap { cls := .type "dict", data := .dict #[] }] at hcl
  have cm : ∀ {y c}, (y, c) ∈ cloFrom X.env.cells scope.names [] → X.env.cells.lookup y = some c ∧ c < s.heap.objs.size := fun {y c} hm => by
    rcases cloFrom_mem hm with hm | ⟨h1, rfl⟩
    · cases hm
    · obtain ⟨c, hc⟩ := hfree _ h1 rfl
      rw [hc]
      obtain ⟨w, z⟩ := I.cell _ _ hc
      exact ⟨rfl, z.lt⟩
  have mem : ∀ {y c}, cenv.cells.lookup y = some c → (X.env.cells.lookup y = some c ∧ c < s.heap.objs.size) ∨ (s.heap.objs.size + 1 ≤ c ∧ CellAt (pushCells (s.heap.push { cls := .type "dict", data := .dict #[] }) scope.names) c none) := fun {y c} e => by
    rw [hcl] at e
    rcases cells_mem (PySem.mem_of_lookup e) with hm | ⟨_, h2, h3⟩
    · exact .inl (cm hm)
    · rw [Heap.size_push] at h2; exact .inr ⟨h2, h3⟩
  have look : ∀ {y}, scope.names.lookup y = some .free → ∃ c, cenv.cells.lookup y = some c ∧ X.env.cells.lookup y = some c := fun {y} hl => by
    have hy : (y, NameKind.free) ∈ scope.names := PySem.mem_of_lookup hl
    obtain ⟨c', e'⟩ := mem_lookup (cells_acc (names := scope.names) (n := (s.heap.push { cls := .type "dict", data := .dict #[] }).objs.size) (cloFrom_has (cells := X.env.cells) (acc := []) hy))
    rw [← hcl] at e'
    refine ⟨c', e', ?_⟩
    rw [hcl] at e'
    rcases cells_mem (PySem.mem_of_lookup e') with hm | ⟨h1, _, _⟩
    · exact (cm hm).1
    · have := ok.uniq _ h1
      rw [hl] at this; cases this
  have okB : (X.blk s H scope cenv fp).Ok := by
    refine ⟨I.ok.mod, by show cenv.scope.kind = _; rw [hsc]; exact ok.kind, by show cenv.globals = _; rw [← hcenv]; exact I.ok.glob, by show cenv.builtins = _; rw [← hcenv]; exact I.ok.blt, by show s.heap.objs.size ≤ cenv.locals; rw [hL]; exact Nat.le_refl _,
      fun y z c e1 e2 => ?_, fun y hy => ?_, fun y c z e => ?_, I.ok.hd, I.ok.frames, .inl rfl, fun b hb => ⟨?_, fun y c e z => ?_⟩, I.bs, Nat.le_trans I.ok.bsz I.sz, fun b o e hb => ?_, fun b hb z => ?_, I.stack, I.stkFree⟩
    · have e1 : cenv.cells.lookup y = some c := e1
      have e2 : cenv.cells.lookup z = some c := e2
      rw [hcl] at e1 e2
      refine cells_inj (fun p hp => ?_) (fun y z c a b => I.ok.inj y z c (cm a).1 (cm b).1) (PySem.mem_of_lookup e1) (PySem.mem_of_lookup e2)
      rw [Heap.size_push]
      exact Nat.lt_succ_of_lt (cm (y := p.1) (c := p.2) hp).2
    · show ∃ c, cenv.cells.lookup y = some c
      have key : ∀ k, cenv.kindOf y = some k → (k = .cell ∨ k = .free) → ∃ c, cenv.cells.lookup y = some c := fun k hk hk' => by
        unfold Env.kindOf at hk
        rw [hsc] at hk
        obtain ⟨k', e, r⟩ := lookup_relS hk
        have : k' = .cell ∨ k' = .free := by
          rcases r with rfl | ⟨rfl, _⟩
          · exact hk'
          · exact .inr rfl
        rcases this with rfl | rfl
        · obtain ⟨c, hm⟩ := cells_has (n := (s.heap.push { cls := .type "dict", data := .dict #[] }).objs.size) (acc := cloFrom X.env.cells scope.names []) (PySem.mem_of_lookup e)
          obtain ⟨c', e'⟩ := mem_lookup hm
          exact ⟨c', by rw [hcl]; exact e'⟩
        · obtain ⟨c, h1, _⟩ := look e
          exact ⟨c, h1⟩
      rcases hy with hy | hy
      · exact key _ hy (.inl rfl)
      · exact key _ hy (.inr rfl)
    · have z : (scope.names.lookup y == some NameKind.cell) = true := z
      have z : scope.names.lookup y = some .cell := by simpa using z
      have e : cenv.cells.lookup y = some c := e
      rw [hcl] at e
      rcases cells_mem (PySem.mem_of_lookup e) with hm | ⟨_, h2, _⟩
      · rcases cloFrom_mem hm with hm | ⟨h1, _⟩
        · cases hm
        · have q := ok.uniq _ h1
          rw [z] at q; cases q
      · rw [Heap.size_push] at h2
        exact Nat.le_of_succ_le h2
    · show b ≠ cenv.locals
      rw [hL]; exact Nat.ne_of_lt (hfp b hb).2
    · have e : cenv.cells.lookup y = some c := e
      rcases mem e with ⟨h1, _⟩ | ⟨h1, _⟩
      · exact (hfp b hb).1.2.2.2.2.1 y c h1 z
      · have h2 : s.heap.objs.size + 1 ≤ b := by rw [← z]; exact h1
        exact absurd (Nat.lt_of_lt_of_le (hfp b hb).2 (Nat.le_of_succ_le h2)) (Nat.lt_irrefl _)
    · rcases (hfp b hb).1.2.2.2.1 with z | z
      · exact I.ok.noex b o e z
      · exact absurd (Nat.lt_of_lt_of_le (Heap.lt_size e) (Nat.le_trans I.ok.bsz z)) (Nat.lt_irrefl _)
    · rcases List.mem_cons.mp (I.stkSub b z) with z | z
      · exact (hfp b hb).1.2.1 z
      · exact (hfp b hb).1.2.2.1 z
  refine ⟨okB, rfl, I.bare, Un.kept kp, ⟨fun _ => none, ?_, fun i y av e1 e2 e3 => ?_⟩, fun y c e => ?_, ?_, fun y c e => ?_, fun p hp => ?_, I.hok.kept kp, by rw [wipe_length]; exact I.len⟩
  · show Heap.Ns _ cenv.locals _
    rw [hL]
    exact Heap.Ns.keeps (Heap.Ns.new ..) fun b o e => pushCells_keeps _ _ _ _ e
  · obtain ⟨e2, hne⟩ := wipe_some e2
    have hfr : scope.names.lookup y = some .free ∧ (cenv.kindOf y = some .cell ∨ cenv.kindOf y = some .free) := by
      have key : ∀ k, cenv.scope.names.lookup y = some k → k = .local ∨ k = .cell ∨ k = .free → scope.names.lookup y = some .free ∧ (cenv.kindOf y = some .cell ∨ cenv.kindOf y = some .free) := fun k hk hk' => by
        have hk0 := hk
        rw [hsc] at hk
        obtain ⟨k', e, r⟩ := lookup_relS hk
        have no : ¬ (k' = .local ∨ k' = .cell) := fun hh => by
          rcases ok.own _ (PySem.mem_of_lookup e) hh with e' | e'
          · obtain ⟨p, hp, hpy⟩ := List.mem_map.mp e'
            have e3 := ok.ix p hp
            have : p.1 = y := hpy
            rw [this] at e3
            exact hne (List.mem_map.mpr ⟨p, hp, nodup_ix hN e3 e1⟩)
          · exact e' (List.mem_of_getElem? e1)
        rcases r with rfl | ⟨rfl, rfl⟩
        · rcases hk' with rfl | rfl | rfl
          · exact absurd (.inl rfl) no
          · exact absurd (.inr rfl) no
          · exact ⟨e, .inr hk0⟩
        · exact ⟨e, .inl hk0⟩
      have e3 : Vis cenv.scope y := e3
      rcases e3 with e3 | e3 | e3
      · exact key _ e3 (.inl rfl)
      · exact key _ e3 (.inr (.inl rfl))
      · exact key _ e3 (.inr (.inr rfl))
    obtain ⟨m, hn, hl⟩ := I.loc
    have hvis : Vis X.env.scope y := (ok.free _ (PySem.mem_of_lookup hfr.1) rfl).elim (fun k => .inr (.inl k)) (fun k => .inr (.inr k))
    obtain ⟨w, r, q⟩ := hl i y av e1 e2 hvis
    refine ⟨w, r, .inr ⟨hfr.2, ?_⟩⟩
    obtain ⟨c, h1, h2⟩ := look hfr.1
    rcases q with ⟨k, _⟩ | ⟨_, c', e', z⟩
    · have k : X.env.scope.names.lookup y = some .local := k
      rcases ok.free _ (PySem.mem_of_lookup hfr.1) rfl with k' | k' <;> rw [show X.env.scope.names.lookup y = _ from k'] at k <;> cases k
    · rw [h2] at e'; cases e'
      exact ⟨c, h1, z.keeps kp⟩
  · have e : cenv.cells.lookup y = some c := e
    rcases mem e with ⟨h1, _⟩ | ⟨_, z⟩
    · obtain ⟨w, z⟩ := I.cell y c h1
      exact ⟨w, z.keeps kp⟩
    · exact ⟨_, z⟩
  · show H cenv.locals = none
    rw [hL]; exact I.hok.fresh (Nat.le_refl _)
  · have e : cenv.cells.lookup y = some c := e
    rcases mem e with ⟨h1, _⟩ | ⟨h1, _⟩
    · exact I.freeC y c h1
    · exact I.hok.fresh (Nat.le_of_succ_le h1)
  · exact absurd (show p ∈ ([] : List (Addr × Obj)) ++ [] from hp) (by simp)

/-- an item appended to a tracked list -/
theorem app_ok {E : Value → Shared → Prop} {D : Addr} {xs : List V} {y : V} {v : Value} {Q : Value → Shared → Prop} (I : Inv X pins σ H s) (hD : H D = some (.lst xs)) (hz : xs.length < sizeLine) (r : RelV y v)
    (h : ∀ s', Inv X pins σ (upd H D (.lst (xs ++ [y]))) s' → Q .none s') : wpAny (model X.prog X.w) X.A (call (.builtin "list.append") [.ref D, v]) Q E s := by
  obtain ⟨hz', its, n, ri, e⟩ := I.hok D _ hD
  have hl := ri.length
  refine append_at (hsz := by rw [List.size_toArray]; omega) e fun h' sb ho' => ?_
  refine h { s with heap := h' } (I.write (t' := s.toks) (by rw [hD]; trivial) (.inl rfl) (fun b u hb q => (sb.2 b hb).trans q) ⟨_, ho'⟩ ⟨by rw [List.length_append]; exact hz, its ++ [v], n + 1, ri.append (.cons r .nil), ?_⟩)
  rw [ho']
  simp

/-- a clause's tests -/
def PTs (X : Cx) (ifs : List Expr) (t : TT) : Prop :=
  ∀ (pins : List (Addr × Obj)) (s : Shared) (σ : St) (H : Hp) (Q : Bool → Hp → Prop), Inv X pins σ H s → t σ H Q →
    wpAny (model X.prog X.w) X.A (forIn ifs true fun c r => if r = true then do let ok ← isTrue c X.env (eval c X.env); pure (ForInStep.yield ok) else pure (ForInStep.yield r)) (TP X pins σ Q) X.xe s
def tYes : TT := fun _ H Q => Q true H
theorem pts_nil : PTs X [] tYes := fun _ _ _ H _ I h => wpAny_tests_nil ⟨H, I, h⟩
theorem pts_one {c : Expr} {t : TT} (h : PT X c t) : PTs X [c] t := fun pins s σ H Q I hw => wpAny_tests_one (h pins s σ H Q I hw)
end

theorem thnF {α : Type} {t : Sem α} {Q Q' : α → Shared → Prop} {M : Model} {A : Around} {E : Value → Shared → Prop} {s : Shared} (h : wpAny M A t Q (fun _ _ => False) s) (hQ : ∀ a s, Q a s → Q' a s) : wpAny M A t Q' E s := wpAny_mono h hQ fun _ _ z => False.elim z

/-- the loop of a list comprehension's block, the target of any form (codeAny_compLoop_tests asks a target that no tuple goes to; statement and proof follow it, PyProof/CompMap.lean:41-61, with the step letOwnedTupleGo kept) -/
theorem compLoop_any {prog : Program} {w : World} {A : Around} {R : Result → Shared → Prop} {s : Shared} {elt target iter : Expr} {ifs : List Expr} {scope : Scope} {pos : Pos} {it acc : Value} {env : Env} (I : Nat → Shared → Prop)
    (turn : ∀ n s, I n s → wpAny (model prog w) A (pyNext it) (fun r s₁ => match r with
      | none => R (.ok .next) s₁
      | some v => wpAny (model prog w) A (letOwnedTupleGo target it v) (fun _ s₁' => wpAny (model prog w) A (assign target env v) (fun _ s₂ =>
          wpAny (model prog w) A (forIn ifs true fun c r => if r = true then do let ok ← isTrue c env (eval c env); pure (ForInStep.yield ok) else pure (ForInStep.yield r)) (fun ok s₃ =>
            if ok = true then wpAny (model prog w) A (eval elt env) (fun x s₄ =>
              wpAny (model prog w) A (call (.builtin "list.append") [acc, x]) (fun _ s₅ => ∃ m, m < n ∧ I m s₅) (notedBy (model prog w) A env fun e s' => R (.error e) s') s₄) (notedBy (model prog w) A env fun e s' => R (.error e) s') s₃
            else ∃ m, m < n ∧ I m s₃) (notedBy (model prog w) A env fun e s' => R (.error e) s') s₂) (notedBy (model prog w) A env fun e s' => R (.error e) s') s₁') (notedBy (model prog w) A env fun e s' => R (.error e) s') s₁) (notedBy (model prog w) A env fun e s' => R (.error e) s') s)
    (n : Nat) (h : I n s) :
    codeAny (model prog w) A (.compLoop (.ListComp elt [⟨target, iter, ifs, 0⟩] scope pos) 0 it acc env) R s := by
  refine codeAny_loop rfl I (fun n s hI => ?_) n h
  show wpAny _ A ((compTurn (.ListComp elt [⟨target, iter, ifs, 0⟩] scope pos) 0 it acc env).onRaise (fun x => do noteFrame x env; theTreesLotGoes x)) _ _ s
  refine wpAny_noted ?_
  rw [compTurn_list]
  refine wpAny_bind (wpAny_standAt (wpAny_bind (wpAny_mono (turn n s hI) (fun r s₁ h₁ => ?_) fun _ _ h' => h')))
  cases r with
  | none => exact wpAny_pure h₁
  | some v =>
    refine wpAny_bind (wpAny_mono h₁ (fun _ s₁' h₁' => ?_) fun _ _ h' => h')
    refine wpAny_bind (wpAny_mono h₁' (fun _ s₂ h₂ => wpAny_bind (wpAny_mono h₂ (fun ok s₃ h₃ => ?_) fun _ _ h' => h')) fun _ _ h' => h')
    cases ok with
    | false => exact wpAny_pure ⟨rfl, h₃⟩
    | true =>
      exact wpAny_bind (wpAny_bind (wpAny_mono h₃ (fun x s₄ h₄ => wpAny_bind (wpAny_mono h₄ (fun _ s₅ h₅ => wpAny_pure (wpAny_pure ⟨rfl, h₅⟩)) fun _ _ h' => h')) fun _ _ h' => h'))

section
variable {X : Cx}
/-- [elt for target in iter if ..]: D the new list; W by the turn and a measure, Nx what a turn is to reach -/
def tLc (wi : TI) (g : TG) (tt : TT) (te : TE) (vs : List Nat) : TE := fun σ H Q => wi σ H fun J H1 => ∀ D, H1 D = none → ∃ W : Nat → Nat → Hp → Prop, (∃ m, W 0 m (upd H1 D (.lst []))) ∧ ∀ i m H, W i m H →
  (J.stop i H ∧ Q (.ref D) H) ∨ (J.go i H ∧ ∃ Nx : Hp → Prop, (∀ H', Nx H' → ∃ m', m' < m ∧ W (i + 1) m' H') ∧ ∀ x H', J.yld i H x H' → g x (wipe σ vs) H' fun σ2 H2 => wipe σ2 vs = wipe σ vs ∧ tt σ2 H2 fun b H3 =>
    if b = true then te σ2 H3 fun y H4 => ∃ acc, H4 D = some (.lst acc) ∧ acc.length < sizeLine ∧ Nx (upd H4 D (.lst (acc ++ [y]))) else Nx H3)
theorem lc_core {pins : List (Addr × Obj)} {s : Shared} {σ : St} {H : Hp} {Q : VK} {elt tg iter : Expr} {ifs : List Expr} {scope : Scope} {own : List (Str × Nat)} {pos pos' : Pos} {wi : TI} {g : TG} {tt : TT} {te : TE} {use : Option (Value → Sem Unit)} {Qf : Value → Shared → Prop}
    (hc : X.calm = true) (hN : X.N.Nodup) (I : Inv X pins σ H s) (hi : PI X tg iter wi) (ok : BlkOk X.N X.env.scope scope own)
    (hg : ∀ (s : Shared) (H : Hp) (C : Addr) (cl : List (Str × Addr)) (fp : List Addr), PG (X.blk s H scope (compEnvC scope cl C X.env) fp) tg g) (ht : ∀ (s : Shared) (H : Hp) (C : Addr) (cl : List (Str × Addr)) (fp : List Addr), PTs (X.blk s H scope (compEnvC scope cl C X.env) fp) ifs tt)
    (he : ∀ (s : Shared) (H : Hp) (C : Addr) (cl : List (Str × Addr)) (fp : List Addr), PE (X.blk s H scope (compEnvC scope cl C X.env) fp) elt te) (hs : ∀ x, foldedSetIterable iter X.env x = pure x)
    (h : tLc wi g tt te (own.map (·.2)) σ H Q)
    (hRR : ∀ D C s' m H', Inv X pins σ H' s' → Q (.ref D) H' → s'.heap.Ns C m → FpOk X pins H' C → compPost (model X.prog X.w) X.A X.xe use Qf (.ref D) C (.ok .next) s') :
    wpAny (model X.prog X.w) X.A (comprehension (.ListComp elt [⟨tg, iter, ifs, 0⟩] scope pos) scope X.env pos' (newList []) false (eval iter X.env) use) Qf X.xe s := by
  have hfree : ∀ y ∈ scope.names, y.2 = .free → ∃ c, X.env.cells.lookup y.1 = some c := fun y hy e => by
    rcases ok.free y hy e with k | k
    · exact I.ok.has _ (.inl k)
    · exact I.ok.has _ (.inr k)
  refine wpAny_comprehension_free (use := use) rfl hs (closure_ok hfree) ok.kind (fun y hy e => by rw [ok.uniq y hy, e])
    (thn (hi pins s σ H _ I h) fun xv s1 hx => thn hx fun itv s2 h2 => ?_)
  obtain ⟨it, fp, tn, J, H2, e, I2, T, st2, f2, q⟩ := h2
  subst e
  refine wpAny_newObj_type (newEnv_comp ?_) (by show 0 ≤ sizeLine; decide)
  generalize hD : s2.heap.objs.size = D
  have hDn : H2 D = none := I2.hok.fresh (Nat.le_of_eq hD)
  obtain ⟨W, ⟨m0, w0⟩, turn⟩ := q D hDn
  -- the new list
  generalize hs3 : ({ s2 with heap := s2.heap.push { cls := .type "list", data := .seq ([] : List Value).toArray } } : Shared) = s3
  have I3 : Inv X pins σ (upd H2 D (.lst [])) s3 := by
    rw [← hs3]
    refine I2.laid (t' := s2.toks) (fun b o e => Heap.get?_push_of_some _ e) (Nat.le_of_eq hD) ⟨Nat.zero_le _, [], 0, .nil, ?_⟩
    rw [← hD]
    exact Heap.get?_push_size _ rfl
  have h3 : s3.heap = s2.heap.push { cls := .type "list", data := .seq ([] : List Value).toArray } := by rw [← hs3]
  have sz : ∀ b ∈ fp, b < s2.heap.objs.size := fun b hb => by
    obtain ⟨o, e, _⟩ := T.obj _ _ st2 b hb
    exact Heap.lt_size e
  have f3 : ∀ b ∈ fp, FpOk X pins (upd H2 D (.lst [])) b ∧ b < s3.heap.objs.size := fun b hb => by
    have hlt := sz b hb
    refine ⟨⟨?_, (f2 b hb).2⟩, by rw [h3, Heap.size_push]; exact Nat.lt_succ_of_lt hlt⟩
    rw [upd_ne (by rw [← hD]; exact Nat.ne_of_lt hlt)]
    exact (f2 b hb).1
  have st3 : tn 0 s3.heap := T.keep _ _ _ st2 fun b _ o e => by rw [h3]; exact Heap.get?_push_of_some _ e
  have I4 := block_start I3 ok hN f3
  have pg := hg s3 (upd H2 D (.lst [])) s3.heap.objs.size (cellsFrom (s3.heap.objs.size + 1) scope.names (cloFrom X.env.cells scope.names [])) fp
  have pt := ht s3 (upd H2 D (.lst [])) s3.heap.objs.size (cellsFrom (s3.heap.objs.size + 1) scope.names (cloFrom X.env.cells scope.names [])) fp
  have pe := he s3 (upd H2 D (.lst [])) s3.heap.objs.size (cellsFrom (s3.heap.objs.size + 1) scope.names (cloFrom X.env.cells scope.names [])) fp
  show codeAny _ _ (.compStart (.ListComp elt [⟨tg, iter, ifs, 0⟩] scope pos) 0 (.ref it) (.ref D) (compEnvC scope (cellsFrom (s3.heap.objs.size + 1) scope.names (cloFrom X.env.cells scope.names [])) s3.heap.objs.size X.env)) (compPost (model X.prog X.w) X.A X.xe use Qf (.ref D) s3.heap.objs.size) { s3 with heap := pushCells (s3.heap.push { cls := .type "dict", data := .dict #[] }) scope.names }
  have nfp : ∀ b ∈ fp, (upd H2 D (.lst [])) b = none := fun b hb => (f3 b hb).1.1
  generalize hce : compEnvC scope (cellsFrom (s3.heap.objs.size + 1) scope.names (cloFrom X.env.cells scope.names [])) s3.heap.objs.size X.env = ce at I4 pg pt pe ⊢
  have cL : ce.locals = s3.heap.objs.size := by subst hce; rfl
  generalize hH3 : upd H2 D (.lst []) = H3 at I3 I4 pg pt pe w0 nfp f3
  generalize hs4 : ({ s3 with heap := pushCells (s3.heap.push { cls := .type "dict", data := .dict #[] }) scope.names } : Shared) = s4 at I4 ⊢
  have st4 : tn 0 s4.heap := T.keep _ _ _ st3 fun b _ o e => by rw [← hs4]; exact pushCells_keeps _ _ _ _ (Heap.get?_push_of_some _ e)
  have stat : ∀ {σ' : St} {H' : Hp} {s' : Shared}, Inv (X.blk s3 H3 scope ce fp) [] σ' H' s' → (∀ b ∈ fp, H' b = none) → ∀ b ∈ fp, FpOk (X.blk s3 H3 scope ce fp) [] H' b := fun {σ' H' s'} I' hn b hb =>
    ⟨hn b hb, (I'.ok.exf b hb).1, I'.ok.exfs b hb, .inl hb, fun x c e => (I'.ok.exf b hb).2 x c e, fun p hp => absurd (show p ∈ ([] : List (Addr × Obj)) ++ [] from hp) (by simp)⟩
  have loop : codeAny (model X.prog X.w) X.A (.compLoop (.ListComp elt [⟨tg, iter, ifs, 0⟩] scope pos) 0 (.ref it) (.ref D) ce) (compPost (model X.prog X.w) X.A X.xe use Qf (.ref D) s3.heap.objs.size) s4 := by
    refine compLoop_any (fun n s' => ∃ i H', Inv (X.blk s3 H3 scope ce fp) [] (wipe σ (own.map (·.2))) H' s' ∧ tn i s'.heap ∧ (∀ b ∈ fp, H' b = none) ∧ W i n H') ?_ m0 ⟨0, H3, I4, st4, nfp, w0⟩
    rintro n s5 ⟨i, H5, I5, st5, n5, w5⟩
    rcases turn i n H5 w5 with ⟨stop, qq⟩ | ⟨go, Nx, hNx, step⟩
    · have td := T.done (X.blk s3 H3 scope ce fp) rfl rfl rfl hc i [] s5 _ H5 (fun _ _ => False) I5 (stat I5 n5) st5 stop
      refine thnF td fun r s6 ⟨hr, I6⟩ => ?_
      subst hr
      -- back in the def's context
      have I7 : Inv X pins σ H5 s6 := I3.call' (ch := fp) I6.os I6.base I6.hok I6.bare fun b hb => ⟨(f3 b hb).1.2.2.2.1, (f3 b hb).1.2.1, (f3 b hb).1.2.2.2.2.1, (f3 b hb).1.2.2.2.2.2⟩
      have nC : H5 s3.heap.objs.size = none := by
        have z : H5 ce.locals = none := I6.free
        rw [cL] at z
        exact z
      obtain ⟨m, hn, _⟩ := I6.loc
      have hn : s6.heap.Ns ce.locals m := hn
      rw [cL] at hn
      exact hRR D s3.heap.objs.size s6 m H5 I7 qq hn (I3.fpOk (Nat.le_refl _) nC)
    · have ti := T.item (X.blk s3 H3 scope ce fp) rfl rfl rfl hc i [] s5 _ H5 (fun _ _ => False) I5 (stat I5 n5) st5 go
      refine thnF ti fun r s6 ⟨u, hr, h6⟩ => ?_
      subst hr
      refine thnF h6 fun _ s7 ⟨x, H7, I7, r7, y7, st7, n7⟩ => ?_
      have I7' := I7.pinned (stat I7 n7) (T.obj _ _ st7)
      refine thnF (pg _ s7 _ H7 x u _ I7' r7 (step x H7 y7)) fun _ s8 ⟨σ8, H8, I8, hw8, q8⟩ => ?_
      refine thnF (pt _ s8 σ8 H8 _ I8 q8) fun b s9 ⟨H9, I9, q9⟩ => ?_
      -- the turn's end
      have fin : ∀ {s' : Shared} {H' : Hp}, Inv (X.blk s3 H3 scope ce fp) ([] ++ pinsAt fp s7.heap) σ8 H' s' → Nx H' → ∃ m, m < n ∧ ∃ i H', Inv (X.blk s3 H3 scope ce fp) [] (wipe σ (own.map (·.2))) H' s' ∧ tn i s'.heap ∧ (∀ b ∈ fp, H' b = none) ∧ W i m H' := fun {s' H'} I' nx => by
        obtain ⟨m', hm, w'⟩ := hNx H' nx
        have pin' : ∀ b ∈ fp, ∀ o, s7.heap.get? b = some o → s'.heap.get? b = some o ∧ H' b = none := fun b hb o e =>
          let z := I'.pin (b, o) (List.mem_append_right _ (List.mem_append_right _ (mem_pinsAt hb e)))
          ⟨z.1, z.2.1⟩
        have hl : (wipe σ (own.map (·.2))).length = σ8.length := by rw [← hw8, wipe_length]
        refine ⟨m', hm, i + 1, H', (I'.unpinned (pins := [])).weak hl (fun j v e => ?_), T.keep _ _ _ st7 fun b hb o e => (pin' b hb o e).1, fun b hb => ?_, w'⟩
        · rw [← hw8] at e
          exact (wipe_some e).1
        · obtain ⟨o, e, _⟩ := T.obj _ _ st7 b hb
          exact (pin' b hb o e).2
      cases b with
      | false =>
        simp only [Bool.false_eq_true, if_false] at q9 ⊢
        exact fin I9 q9
      | true =>
        simp only [if_true] at q9 ⊢
        refine thnF (pe _ s9 σ8 H9 _ I9 q9) fun z s10 ⟨yv, H10, I10, r10, acc, hD10, hz10, nx⟩ => ?_
        exact app_ok (X := X.blk s3 H3 scope ce fp) I10 hD10 hz10 r10 fun s11 I11 => fin I11 nx
  exact codeAny_compStart_list loop (T.self X.A 0 _ _ _ st4 loop)
/-- as a value -/
theorem pe_lc {elt tg iter : Expr} {ifs : List Expr} {scope : Scope} {own : List (Str × Nat)} {pos : Pos} {wi : TI} {g : TG} {tt : TT} {te : TE} (hc : X.calm = true) (hN : X.N.Nodup) (hi : PI X tg iter wi) (ok : BlkOk X.N X.env.scope scope own)
    (hg : ∀ (s : Shared) (H : Hp) (C : Addr) (cl : List (Str × Addr)) (fp : List Addr), PG (X.blk s H scope (compEnvC scope cl C X.env) fp) tg g) (ht : ∀ (s : Shared) (H : Hp) (C : Addr) (cl : List (Str × Addr)) (fp : List Addr), PTs (X.blk s H scope (compEnvC scope cl C X.env) fp) ifs tt)
    (he : ∀ (s : Shared) (H : Hp) (C : Addr) (cl : List (Str × Addr)) (fp : List Addr), PE (X.blk s H scope (compEnvC scope cl C X.env) fp) elt te) (hs : ∀ x, foldedSetIterable iter X.env x = pure x := by intro _; rfl) :
    PE X (.ListComp elt [⟨tg, iter, ifs, 0⟩] scope pos) (tLc wi g tt te (own.map (·.2))) := by
  intro pins s σ H Q I h
  rw [eval_ListComp]
  refine lc_core hc hN I hi ok hg ht he hs h fun D C s' m H' I' q hn f => ⟨m, hn, fun h'' sb => ?_⟩
  obtain ⟨f0, f1, f2, f3, f4, f5⟩ := f
  exact ⟨.ref D, H', I'.turned (t' := s'.toks) (fun b o hb e => (sb.2 b hb).trans e) f0 f1 f3 f4 f5, rfl, q⟩
end

/-! ### the forms one uses -/
/-- over a range: Pv by the turn and the heap (the new list at D within) -/
theorem lc_range {lo : Int} {n : Nat} {g : TG} {tt : TT} {te : TE} {vs : List Nat} {σ : St} {H1 : Hp} {D : Addr} {Qd : Hp → Prop} (Pv : Nat → Hp → Prop) (h0 : Pv 0 (upd H1 D (.lst [])))
    (hs : ∀ i H, i < n → Pv i H → g (.int (lo + i)) (wipe σ vs) H fun σ2 H2 => wipe σ2 vs = wipe σ vs ∧ tt σ2 H2 fun b H3 =>
      if b = true then te σ2 H3 fun y H4 => ∃ acc, H4 D = some (.lst acc) ∧ acc.length < sizeLine ∧ Pv (i + 1) (upd H4 D (.lst (acc ++ [y]))) else Pv (i + 1) H3) (hd : ∀ H, Pv n H → Qd H) :
    ∃ W : Nat → Nat → Hp → Prop, (∃ m, W 0 m (upd H1 D (.lst []))) ∧ ∀ i m H, W i m H →
      ((Itr lo n).stop i H ∧ Qd H) ∨ ((Itr lo n).go i H ∧ ∃ Nx : Hp → Prop, (∀ H', Nx H' → ∃ m', m' < m ∧ W (i + 1) m' H') ∧ ∀ x H', (Itr lo n).yld i H x H' → g x (wipe σ vs) H' fun σ2 H2 => wipe σ2 vs = wipe σ vs ∧ tt σ2 H2 fun b H3 =>
        if b = true then te σ2 H3 fun y H4 => ∃ acc, H4 D = some (.lst acc) ∧ acc.length < sizeLine ∧ Nx (upd H4 D (.lst (acc ++ [y]))) else Nx H3) := by
  refine ⟨fun i m H => m = n - i ∧ i ≤ n ∧ Pv i H, ⟨n, by simp, Nat.zero_le _, h0⟩, ?_⟩
  rintro i m H ⟨rfl, hi, p⟩
  by_cases hlt : i < n
  · refine .inr ⟨hlt, Pv (i + 1), fun H' p' => ⟨n - (i + 1), by omega, rfl, hlt, p'⟩, fun x H' y => ?_⟩
    obtain ⟨e, y⟩ := y
    subst e y
    exact hs i _ hlt p
  · have e : i = n := by omega
    subst e
    exact .inl ⟨Nat.le_refl _, hd H p⟩
/-- over a list that the block leaves as it is -/
theorem lc_list {K : PySem.W.Frag} {a : Addr} {xs : List V} {g : TG} {tt : TT} {te : TE} {vs : List Nat} {σ : St} {H1 : Hp} {D : Addr} {Qd : Hp → Prop} (Pv : Nat → Hp → Prop) (h0 : Pv 0 (upd H1 D (.lst []))) (hl : ∀ i H, i ≤ xs.length → Pv i H → SqL K H a xs)
    (hs : ∀ i x H, xs[i]? = some x → Pv i H → g x (wipe σ vs) H fun σ2 H2 => wipe σ2 vs = wipe σ vs ∧ tt σ2 H2 fun b H3 =>
      if b = true then te σ2 H3 fun y H4 => ∃ acc, H4 D = some (.lst acc) ∧ acc.length < sizeLine ∧ Pv (i + 1) (upd H4 D (.lst (acc ++ [y]))) else Pv (i + 1) H3) (hd : ∀ H, Pv xs.length H → Qd H) :
    ∃ W : Nat → Nat → Hp → Prop, (∃ m, W 0 m (upd H1 D (.lst []))) ∧ ∀ i m H, W i m H →
      ((Itl K a).stop i H ∧ Qd H) ∨ ((Itl K a).go i H ∧ ∃ Nx : Hp → Prop, (∀ H', Nx H' → ∃ m', m' < m ∧ W (i + 1) m' H') ∧ ∀ x H', (Itl K a).yld i H x H' → g x (wipe σ vs) H' fun σ2 H2 => wipe σ2 vs = wipe σ vs ∧ tt σ2 H2 fun b H3 =>
        if b = true then te σ2 H3 fun y H4 => ∃ acc, H4 D = some (.lst acc) ∧ acc.length < sizeLine ∧ Nx (upd H4 D (.lst (acc ++ [y]))) else Nx H3) := by
  refine ⟨fun i m H => m = xs.length - i ∧ i ≤ xs.length ∧ Pv i H, ⟨xs.length, by simp, Nat.zero_le _, h0⟩, ?_⟩
  rintro i m H ⟨rfl, hi, p⟩
  have q := hl i H hi p
  by_cases hlt : i < xs.length
  · refine .inr ⟨⟨xs, xs[i], q, by simp [hlt]⟩, Pv (i + 1), fun H' p' => ⟨xs.length - (i + 1), by omega, rfl, hlt, p'⟩, fun x H' y => ?_⟩
    obtain ⟨e, y⟩ := y
    subst e
    exact hs i x _ (y xs q) p
  · have e : i = xs.length := by omega
    subst e
    exact .inl ⟨⟨xs, q, Nat.le_refl _⟩, hd H p⟩
def blkC (N : List Str) (sc scope : Scope) (own : List (Str × Nat)) : Bool :=
  (match scope.kind with | .function => true | _ => false) && (scope.names.all fun y => decide (scope.names.lookup y.1 = some y.2)) && (own.all fun p => decide (N[p.2]? = some p.1)) &&
    (scope.names.all fun y => match y.2 with
      | .free => (match sc.names.lookup y.1 with | some .cell => true | some .free => true | _ => false)
      | .local => decide (y.1 ∈ own.map (·.1)) || decide (y.1 ∉ N)
      | .cell => decide (y.1 ∈ own.map (·.1)) || decide (y.1 ∉ N)
      | _ => true)
theorem blkOk_by {N : List Str} {sc scope : Scope} {own : List (Str × Nat)} (h : blkC N sc scope own = true) : BlkOk N sc scope own := by
  unfold blkC at h
  simp only [Bool.and_eq_true, List.all_eq_true, decide_eq_true_eq] at h
  obtain ⟨⟨⟨h1, h2⟩, h3⟩, h4⟩ := h
  refine ⟨?_, h2, h3, fun y hy e => ?_, fun y hy e => ?_⟩
  · split at h1
    · assumption
    · cases h1
  · have q := h4 y hy
    simp only [e] at q
    split at q <;> first | exact .inl (by assumption) | exact .inr (by assumption) | cases q
  · have q := h4 y hy
    rcases e with e | e <;> (simp only [e, Bool.or_eq_true, decide_eq_true_eq] at q; exact q)
end L2
namespace L2
open PySem PySem.Spec PyProof.Rows
section
variable {X : Cx}
/-! ### one iterator just laid -/
theorem pi_one {tg : Expr} {pins : List (Addr × Obj)} {σ : St} {H : Hp} {s : Shared} {R : It → Hp → Prop} {J : It} {tn : Nat → Heap → Prop} {tk : Nat} (I : Inv X pins σ H s) (o : Obj)
    (T : Turn X.prog X.w X.K tg J [s.heap.objs.size] s.heap.objs.size tn) (st : tn 0 (s.heap.push o)) (q : R J H) : PIE X pins σ tg R (.ref s.heap.objs.size) { s with heap := s.heap.push o, toks := tk } := by
  refine ⟨s.heap.objs.size, [s.heap.objs.size], tn, J, H, rfl, I.kept fun b ob e => Heap.get?_push_of_some _ e, T, st, fun b hb => ?_, q⟩
  have e : b = s.heap.objs.size := by simpa using hb
  subst e
  exact I.fpOk (Nat.le_refl _) (I.hok.fresh (Nat.le_refl _))
end

/-! ### range with a step -/
/-- lo, lo + c, .. (n of them) -/
def Itc (lo c : Int) (n : Nat) : It := ⟨fun i _ => i < n, fun i H x H' => H' = H ∧ x = .int (lo + (i : Nat) * c), fun i _ => n ≤ i⟩
theorem turn_rangeC {P : Program} {w : World} {K : PySem.W.Frag} {tg : Expr} (it : Addr) (lo c : Int) (n : Nat) : Turn P w K tg (Itc lo c n) [it] it (fun i h => IsRangeIter h it (lo + (i : Nat) * c) ((n : Int) - (i : Nat)) c) where
  mem := by simp
  obj := fun i h st b hb => by
    have e : b = it := by simpa using hb
    subst e
    exact ⟨_, st, fun v z => nomatch z⟩
  keep := fun i h h' st k => k it (by simp) _ st
  item := by
    intro X hP hw hK hc i pins s σ H E I hf st hg
    subst hP hw hK
    obtain ⟨f0, f1, f2, f3, f4, f5⟩ := hf it (by simp)
    have W := Walks.range (prog := X.prog) (w := X.w) (I.ok.hd hc) it lo c n
    refine W.item i s _ _ hg st fun v h' tk hv st' kk => ?_
    obtain ⟨t, rfl⟩ := hv
    have I1 : Inv X pins σ H { s with heap := h', toks := tk } := I.turned (fun b o hb e => kk b o (by simpa using hb) e) f0 f1 f3 f4 f5
    exact ⟨_, rfl, go_of (s := { s with heap := h', toks := tk }) (n := "range_iterator") st' rfl rfl (by decide) ⟨.int (lo + (i : Nat) * c), H, I1, ⟨t, rfl⟩, ⟨rfl, rfl⟩, st', fun b hb => (hf b hb).1⟩⟩
  done := by
    intro X hP hw hK hc i pins s σ H E I hf st hg
    subst hP hw hK
    obtain ⟨f0, f1, f2, f3, f4, f5⟩ := hf it (by simp)
    exact wpAny_pyNext_range_end (I.ok.hd hc) st (by have : n ≤ i := hg; omega) fun h' eb => ⟨rfl, I.turned (t' := s.toks) (fun b o hb e => eb b o hb e) f0 f1 f3 f4 f5⟩
  self := fun A i s Q E st h => wpAny_pyIter_rangeiter st h
/-- range(i, j, c): small bounds, n items -/
def RgC (i j c : Int) (n : Nat) : Prop := c ≠ 0 ∧ c.natAbs < 1073741824 ∧ Builtin.Range.small i j c = true ∧ Builtin.Range.rangeSize i j c = n
def iRng3 (ta : TA) : TI := fun σ H R => ta σ H fun vs H1 => ∃ (i j c : Int) (n : Nat), vs = [.int i, .int j, .int c] ∧ RgC i j c n ∧ R (Itc i c n) H1
section
variable {X : Cx} {tg : Expr}
theorem pi_range3 {a b c : Expr} {ta : TA} {p pos : Pos} (hg : Gl X "range") (hm : X.mg "range" = none) (ha : PA X [a, b, c] ta)
    (hs : starEach [a, b, c] X.env = (false, eval a X.env) :: starEach [b, c] X.env := by rfl) (hpl : (backTo pos (starEach [b, c] X.env)).any (·.1) = false := by rfl) :
    PI X tg (.Call (.Name "range" p) [a, b, c] [] pos) (iRng3 ta) := by
  intro pins s σ H R I h
  refine Call_ (ld_blt I hg hm boot_range (PyProof.Rows.callWith_type1 (thn (ha pos pins s σ H _ I h) fun us s1 ⟨vs, H1, I1, r1, q1⟩ => ?_) hs hpl))
  obtain ⟨i, j, k, n, e, ⟨c0, c1, c2, c3⟩, q⟩ := q1
  subst e
  cases r1 with
  | cons r rr =>
    cases rr with
    | cons r' rr =>
      cases rr with
      | cons r'' rr =>
        cases rr
        obtain ⟨t, rfl⟩ := r
        obtain ⟨t', rfl⟩ := r'
        obtain ⟨t'', rfl⟩ := r''
        refine call_range_3 c0 ?_ (.inl (PyProof.noPylong_small c1))
        refine wpAny_pyIter_range (IsRange.new ..) c2 ?_
        have I2 : Inv X pins σ H1 { s1 with heap := s1.heap.push { cls := .type "range", data := .fields #[.int i t, .int j t', .int k t''] } } := I1.kept (t' := s1.toks) fun b o e => Heap.get?_push_of_some _ e
        refine pi_one (tk := s1.toks) I2 _ (turn_rangeC _ i k n) ?_ q
        have e1 : i + ((0 : Nat) : Int) * k = i := by simp
        have e2 : (n : Int) - ((0 : Nat) : Int) = Builtin.Range.rangeSize i j k := by rw [c3]; simp
        show IsRangeIter _ _ (i + ((0 : Nat) : Int) * k) ((n : Int) - ((0 : Nat) : Int)) k
        rw [e1, e2]
        exact Heap.get?_push_size _ rfl
end
/-- the turns of a step range, for the for loop -/
theorem for_rangeC {lo c : Int} {n : Nat} {g : TG} {tb : TS} {D : Ends} {σ : St} {H : Hp} (Pv : Nat → St → Hp → Prop) (h0 : Pv 0 σ H)
    (hs : ∀ i σ H, i < n → Pv i σ H → g (.int (lo + (i : Nat) * c)) σ H fun σ2 H2 => tb { D with nx := Pv (i + 1), ct := Pv (i + 1), bk := D.nx } σ2 H2) (hd : ∀ σ H, Pv n σ H → D.nx σ H) :
    ∃ W : Nat → Nat → St → Hp → Prop, (∃ m, W 0 m σ H) ∧ ∀ i m σ H, W i m σ H →
      ((Itc lo c n).stop i H ∧ D.nx σ H) ∨ ((Itc lo c n).go i H ∧ ∃ N : St → Hp → Prop, (∀ σ' H', N σ' H' → ∃ m', m' < m ∧ W (i + 1) m' σ' H') ∧ ∀ x H', (Itc lo c n).yld i H x H' → g x σ H' fun σ2 H2 => tb { D with nx := N, ct := N, bk := D.nx } σ2 H2) := by
  refine ⟨fun i m σ H => m = n - i ∧ i ≤ n ∧ Pv i σ H, ⟨n, by simp, Nat.zero_le _, h0⟩, ?_⟩
  rintro i m σ H ⟨rfl, hi, p⟩
  by_cases hlt : i < n
  · refine .inr ⟨hlt, Pv (i + 1), fun σ' H' p' => ⟨n - (i + 1), by omega, rfl, hlt, p'⟩, fun x H' y => ?_⟩
    obtain ⟨e, y⟩ := y
    subst e y
    exact hs i σ _ hlt p
  · have e : i = n := by omega
    subst e
    exact .inl ⟨Nat.le_refl _, hd σ H p⟩

/-! ### a str -/
def Its (x : Str) : It := ⟨fun i _ => i < x.cps.size, fun i H v H' => H' = H ∧ ∃ c, x.cps[i]? = some c ∧ v = .str ⟨#[c]⟩, fun i _ => x.cps.size ≤ i⟩
theorem turn_str {P : Program} {w : World} {K : PySem.W.Frag} {tg : Expr} (it : Addr) (x : Str) (t : Tok) (ty : String) (hty : ty = "str_ascii_iterator" ∨ ty = "str_iterator") :
    Turn P w K tg (Its x) [it] it (fun i h => h.IsStrIter it ty x t i) where
  mem := by simp
  obj := fun i h st b hb => by
    have e : b = it := by simpa using hb
    subst e
    obtain ⟨o, e, c, d⟩ := st
    exact ⟨o, e, fun v z => by rw [d] at z; cases z⟩
  keep := fun i h h' st k => let ⟨o, ho, r⟩ := st; ⟨o, k it (by simp) o ho, r⟩
  item := by
    intro X hP hw hK hc i pins s σ H E I hf st hg
    subst hP hw hK
    obtain ⟨f0, f1, f2, f3, f4, f5⟩ := hf it (by simp)
    have W : Walks X.prog X.w X.A it [it] [it] x.cps.size (SignAt x) (fun i h => h.IsStrIter it ty x t i) := by
      rcases hty with e | e
      · rw [e]; exact Walks.strAscii (I.ok.hd hc) it x t
      · rw [e]; exact Walks.strWide (I.ok.hd hc) it x t
    have hno : ["enumerate", "zip", "dict_itemiterator", "dict_reverseitemiterator", "odict_iterator", "itertools.zip_longest", "itertools.pairwise"].contains ty = false := by
      rcases hty with e | e
      · rw [e]; decide
      · rw [e]; decide
    refine W.item i s _ _ hg st fun v h' tk hv st' kk => ?_
    obtain ⟨c, u, hcx, rfl⟩ := hv
    have I1 : Inv X pins σ H { s with heap := h', toks := tk } := I.turned (fun b o hb e => kk b o (by simpa using hb) e) f0 f1 f3 f4 f5
    obtain ⟨oi, e, cc, dd⟩ := id st'
    exact ⟨_, rfl, go_of (s := { s with heap := h', toks := tk }) e cc dd hno ⟨.str ⟨#[c]⟩, H, I1, ⟨u, rfl⟩, ⟨rfl, c, hcx, rfl⟩, st', fun b hb => (hf b hb).1⟩⟩
  done := by
    intro X hP hw hK hc i pins s σ H E I hf st hg
    subst hP hw hK
    obtain ⟨f0, f1, f2, f3, f4, f5⟩ := hf it (by simp)
    have hx : x.cps[i]? = none := Array.getElem?_eq_none hg
    rcases hty with e | e
    · rw [e] at st
      exact wpAny_pyNext_ascii_end (I.ok.hd hc) st hx fun h' eb => ⟨rfl, I.turned (t' := s.toks) (fun b o hb e => eb b o hb e) f0 f1 f3 f4 f5⟩
    · rw [e] at st
      exact wpAny_pyNext_wide_end (I.ok.hd hc) st hx fun h' eb => ⟨rfl, I.turned (t' := s.toks) (fun b o hb e => eb b o hb e) f0 f1 f3 f4 f5⟩
  self := fun A i s Q E st h => by
    rcases hty with e | e
    · rw [e] at st; exact wpAny_pyIter_striter_ascii st h
    · rw [e] at st; exact wpAny_pyIter_striter_wide st h
def iStr (te : TE) : TI := fun σ H R => te σ H fun v H1 => ∃ x, v = .str x ∧ R (Its x) H1
theorem pi_str {X : Cx} {tg e : Expr} {te : TE} (he : PE X e te) : PI X tg e (iStr te) := by
  intro pins s σ H R I h
  refine thn (he pins s σ H _ I h) fun v s1 ⟨y, H1, I1, r1, x, ex, q⟩ => ?_
  subst ex
  obtain ⟨t, rfl⟩ := r1
  cases ha : x.cps.all (· < 128)
  · exact wpAny_pyIter_wide ha (pi_one (tk := s1.toks) I1 _ (turn_str _ x t "str_iterator" (.inr rfl)) ⟨_, Heap.get?_push_size _ rfl, rfl, rfl⟩ q)
  · exact wpAny_pyIter_ascii ha (pi_one (tk := s1.toks) I1 _ (turn_str _ x t "str_ascii_iterator" (.inl rfl)) ⟨_, Heap.get?_push_size _ rfl, rfl, rfl⟩ q)

end L2
end
section
set_option Elab.async false
set_option linter.all false
set_option maxRecDepth 100000
set_option maxHeartbeats 2000000
namespace L2
open PySem PySem.Spec PyProof.Rows
open PySem.W (WData Codec OpenSpec Well WellAll ReadsW ReadsAllW)
/-! ### an answer as data -/
mutual
/-- x stands for the datum d, lists and tuples all the way -/
inductive Dw (K : PySem.W.Frag) (H : Hp) : V → WData → Prop
  | non : Dw K H .non .none
  | bl (b : Bool) : Dw K H (.bl b) (.bool b)
  | int (i : Int) : Dw K H (.int i) (.int i)
  | str (x : Str) : Dw K H (.str x) (.str x)
  | byt (b : Array UInt8) : Dw K H (.byt b) (.bytes b.toList)
  | lst {a : Addr} {xs : List V} {ds : List WData} : SqL K H a xs → DwAll K H xs ds → Dw K H (.ref a) (.list ds)
  | tup {a : Addr} {xs : List V} {ds : List WData} : SqT K H a xs → DwAll K H xs ds → Dw K H (.ref a) (.tuple ds)
inductive DwAll (K : PySem.W.Frag) (H : Hp) : List V → List WData → Prop
  | nil : DwAll K H [] []
  | cons {v : V} {vs : List V} {d : WData} {ds : List WData} : Dw K H v d → DwAll K H vs ds → DwAll K H (v :: vs) (d :: ds)
end
theorem dw_ints {K : PySem.W.Frag} {H : Hp} : ∀ ns : List Int, DwAll K H (ns.map V.int) (ns.map WData.int)
  | [] => .nil
  | n :: r => .cons (.int n) (dw_ints r)
theorem ints_dw {K : PySem.W.Frag} {H : Hp} : ∀ (ns : List Int) (xs : List V), DwAll K H xs (ns.map WData.int) → xs = ns.map V.int
  | [], xs, h => by
    cases h
    rfl
  | n :: r, xs, h => by
    cases h with
    | cons h1 h2 =>
      cases h1
      rw [ints_dw r _ h2] <;> rfl
section
variable {P : Program} {w : World} {K : PySem.W.Frag} {H : Hp} {h : Heap} {R : PySem.W.WRecords} {cl : Str → Option Addr}
theorem sqL_at {a : Addr} {xs : List V} (hok : HOk P w H h) (KX : K.In h) (q : SqL K H a xs) : ∃ (its : List Value) (o : Obj) (n : Nat), Vals xs its ∧ h.get? a = some o ∧ o.cls = .type "list" ∧ o.data = .seq its.toArray n := by
  rcases q with q | ⟨o, its, n, e, hc, _, hd, _, hv⟩
  · obtain ⟨_, its, n, hv, e⟩ := (show ObjOk P w H h a (.lst xs) from q.ok hok)
    exact ⟨its, _, n, hv, e, rfl, rfl⟩
  · exact ⟨its.toList, o, n, hv, KX _ _ e, hc, by simp [hd]⟩
theorem sqT_at {a : Addr} {xs : List V} (hok : HOk P w H h) (KX : K.In h) (q : SqT K H a xs) : ∃ (its : List Value) (o : Obj) (n : Nat), Vals xs its ∧ h.get? a = some o ∧ o.cls = .type "tuple" ∧ o.data = .seq its.toArray n := by
  rcases q with q | ⟨o, its, n, e, hc, hd, _, hv⟩
  · obtain ⟨_, its, hv, o, e, hc, n, hd⟩ := (show ObjOk P w H h a (.tup xs) from q.ok hok)
    exact ⟨its, o, n, hv, e, hc, hd⟩
  · exact ⟨its.toList, o, n, hv, KX _ _ e, hc, by simp [hd]⟩
mutual
theorem Dw.reads (hok : HOk P w H h) (KX : K.In h) : ∀ (d : WData) (v : V) (u : Value), Dw K H v d → RelV v u → ∃ as, ReadsW R cl h u d as
  | .none, _, _, x, r => by
    cases x
    cases r
    exact ⟨_, ReadsW.none⟩
  | .bool b, _, _, x, r => by
    cases x
    cases r
    exact ⟨_, ReadsW.bool b⟩
  | .int i, _, _, x, r => by
    cases x
    obtain ⟨t, rfl⟩ := r
    exact ⟨_, ReadsW.int i t⟩
  | .str s, _, _, x, r => by
    cases x
    obtain ⟨t, rfl⟩ := r
    exact ⟨_, ReadsW.str s t⟩
  | .bytes b, _, _, x, r => by
    cases x
    obtain ⟨t, rfl⟩ := r
    exact ⟨_, ReadsW.bytes _ t⟩
  | .list ds, _, _, x, r => by
    cases x with
    | lst hs ha =>
      cases r
      obtain ⟨its, o, n, rv, ho, hc, hd⟩ := sqL_at hok KX hs
      obtain ⟨as, hr⟩ := Dw.readsAll hok KX ds _ its ha rv
      exact ⟨_, ReadsW.list ho hc hd hr⟩
  | .tuple ds, _, _, x, r => by
    cases x with
    | tup hs ha =>
      cases r
      obtain ⟨its, o, n, rv, ho, hc, hd⟩ := sqT_at hok KX hs
      obtain ⟨as, hr⟩ := Dw.readsAll hok KX ds _ its ha rv
      exact ⟨_, ReadsW.tuple ho hc hd hr⟩
  | .float _, _, _, x, _ => by cases x
  | .dict _, _, _, x, _ => by cases x
  | .bytearray _, _, _, x, _ => by cases x
  | .set _, _, _, x, _ => by cases x
  | .frozenset _, _, _, x, _ => by cases x
  | .obj _ _, _, _, x, _ => by cases x
theorem Dw.readsAll (hok : HOk P w H h) (KX : K.In h) : ∀ (ds : List WData) (vs : List V) (us : List Value), DwAll K H vs ds → Vals vs us → ∃ as, ReadsAllW R cl h us ds as
  | [], _, _, x, r => by
    cases x
    cases r
    exact ⟨_, ReadsAllW.nil⟩
  | d :: ds, _, _, x, r => by
    cases x with
    | cons h1 h2 =>
      cases r with
      | cons r1 r2 =>
        obtain ⟨as, q1⟩ := Dw.reads hok KX d _ _ h1 r1
        obtain ⟨bs, q2⟩ := Dw.readsAll hok KX ds _ _ h2 r2
        exact ⟨_, ReadsAllW.cons q1 q2⟩
end
end
/-! ### the arguments -/
mutual
/-- data that a codec tells -/
def plW : WData → Bool
  | .none => true
  | .bool _ => true
  | .int _ => true
  | .str _ => true
  | .bytes _ => true
  | .list xs => plWs xs
  | .tuple xs => plWs xs
  | _ => false
def plWs : List WData → Bool
  | [] => true
  | x :: r => plW x && plWs r
end
theorem plWs_map {α : Type} {f : α → WData} (h : ∀ a, plW (f a) = true) : ∀ l : List α, plWs (l.map f) = true
  | [] => rfl
  | x :: r => by
    show (plW (f x) && plWs (r.map f)) = true
    rw [h x, plWs_map h r] <;> rfl
theorem pl_enc : ∀ (c : Codec) (a : c.denote), plW (c.enc a) = true
  | .unit, _ => rfl
  | .bool, _ => rfl
  | .int _ _, _ => rfl
  | .nat _ _, _ => rfl
  | .u8, _ => rfl
  | .bytes _ _, _ => rfl
  | .text _ _ _ _, _ => rfl
  | .list _ _ c, a => plWs_map (fun x => pl_enc c x) a
  | .pair c d, a => by
    show (plW (c.enc a.1) && (plW (d.enc a.2) && true)) = true
    rw [pl_enc c a.1, pl_enc d a.2] <;> rfl
  | .triple c d e, a => by
    show (plW (c.enc a.1) && (plW (d.enc a.2.1) && (plW (e.enc a.2.2) && true))) = true
    rw [pl_enc c a.1, pl_enc d a.2.1, pl_enc e a.2.2] <;> rfl
  | .option c, none => rfl
  | .option c, some x => pl_enc c x
theorem pl_encAll : ∀ (cs : List Codec) (a : Codec.denoteAll cs), plWs (Codec.encAll cs a) = true
  | [], _ => rfl
  | c :: cs, a => by
    show (plW (c.enc a.1) && plWs (Codec.encAll cs a.2)) = true
    rw [pl_enc c a.1, pl_encAll cs a.2] <;> rfl
theorem weight_mem : ∀ {xs : List WData} {d : WData}, d ∈ xs → d.weight ≤ WData.weightAll xs
  | [], d, h => absurd h (by simp)
  | x :: r, d, h => by
    show d.weight ≤ x.weight + 1 + WData.weightAll r
    rcases List.mem_cons.mp h with e | m
    · rw [e]
      omega
    · have z := weight_mem m
      omega
def toV : Value → V
  | .none => .non
  | .bool b => .bl b
  | .int i _ => .int i
  | .str x _ => .str x
  | .bytes b _ => .byt b
  | .ref a => .ref a
  | _ => .non
/-- a value of the arguments, its objects among A -/
def OkU (A : List Addr) : Value → Prop
  | .none => True
  | .bool _ => True
  | .int _ _ => True
  | .str _ _ => True
  | .bytes _ _ => True
  | .ref a => a ∈ A
  | _ => False
theorem OkU.mono {A B : List Addr} (h : ∀ a ∈ A, a ∈ B) : ∀ {u : Value}, OkU A u → OkU B u := fun {u} x => by
  cases u with
  | ref a => exact h a x
  | none => trivial
  | bool b => trivial
  | int i t => trivial
  | str s t => trivial
  | bytes b t => trivial
  | _ => exact False.elim x
theorem relV_toV {A : List Addr} {u : Value} (x : OkU A u) : RelV (toV u) u := by
  cases u with
  | ref a => rfl
  | none => rfl
  | bool b => rfl
  | int i t => exact ⟨t, rfl⟩
  | str s t => exact ⟨t, rfl⟩
  | bytes b t => exact ⟨t, rfl⟩
  | _ => exact False.elim x
theorem vals_toV {A : List Addr} : ∀ {vs : List Value}, (∀ u ∈ vs, OkU A u) → Vals (vs.map toV) vs
  | [], _ => .nil
  | u :: r, h => .cons (relV_toV (h u (List.mem_cons_self ..))) (vals_toV fun x hx => h x (List.mem_cons_of_mem _ hx))
/-- an object of the arguments -/
def ArgOb (h : Heap) (A : List Addr) (a : Addr) : Prop := ∃ vs : List Value, vs.length ≤ sizeLine ∧ (∀ u ∈ vs, OkU A u) ∧
  (h.get? a = some { cls := .type "list", data := .seq vs.toArray } ∨ h.get? a = some { cls := .type "tuple", data := .seq vs.toArray })
theorem ArgOb.mono {h : Heap} {A B : List Addr} {a : Addr} (k : ∀ a ∈ A, a ∈ B) (x : ArgOb h A a) : ArgOb h B a := by
  obtain ⟨vs, h1, h2, h3⟩ := x
  exact ⟨vs, h1, fun u hu => (h2 u hu).mono k, h3⟩
theorem wellAll_len {P : Params} {h : Heap} : ∀ {vs : List Value} {ds : List WData}, WellAll P h vs ds → vs.length = ds.length
  | _, _, .nil => rfl
  | _, _, .cons _ b => by
    show _ + 1 = _ + 1
    rw [wellAll_len b]
theorem well_list {P : Params} {h : Heap} {v : Value} {ds : List WData} (x : Well P h v (.list ds)) : ∃ (a : Addr) (vs : List Value), v = .ref a ∧ h.get? a = some { cls := .type "list", data := .seq vs.toArray } ∧ WellAll P h vs ds := by
  cases x with
  | list ho hall => exact ⟨_, _, rfl, ho, hall⟩
theorem well_tuple {P : Params} {h : Heap} {v : Value} {ds : List WData} (x : Well P h v (.tuple ds)) : ∃ (a : Addr) (vs : List Value), v = .ref a ∧ h.get? a = some { cls := .type "tuple", data := .seq vs.toArray } ∧ WellAll P h vs ds := by
  cases x with
  | tuple ho hall => exact ⟨_, _, rfl, ho, hall⟩
theorem well_cons {P : Params} {h : Heap} {us : List Value} {d : WData} {ds : List WData} (x : WellAll P h us (d :: ds)) : ∃ (v : Value) (vs : List Value), us = v :: vs ∧ Well P h v d ∧ WellAll P h vs ds := by
  cases x with
  | cons a b => exact ⟨_, _, rfl, a, b⟩
theorem line_of {n : Nat} (h : n ≤ 1048576) : n ≤ sizeLine := Nat.le_trans h (by decide)
section
variable {P : Params} {h : Heap}
mutual
theorem area_one : ∀ (d : WData) (v : Value), Well P h v d → plW d = true → d.weight ≤ 1048576 → ∃ A : List Addr, OkU A v ∧ ∀ a ∈ A, ArgOb h A a
  | .none, _, x, _, _ => by
    cases x
    exact ⟨[], trivial, fun a m => absurd m (by simp)⟩
  | .bool b, _, x, _, _ => by
    cases x
    exact ⟨[], trivial, fun a m => absurd m (by simp)⟩
  | .int i, _, x, _, _ => by
    cases x
    exact ⟨[], trivial, fun a m => absurd m (by simp)⟩
  | .str s, _, x, _, _ => by
    cases x
    exact ⟨[], trivial, fun a m => absurd m (by simp)⟩
  | .bytes b, _, x, _, _ => by
    cases x
    exact ⟨[], trivial, fun a m => absurd m (by simp)⟩
  | .list ds, _, x, p, z => by
    obtain ⟨a, vs, rfl, ho, hall⟩ := well_list x
    have z2 : WData.weightAll ds ≤ 1048576 := z
    obtain ⟨A, h1, h2⟩ := area_all ds _ hall p fun d hd => Nat.le_trans (weight_mem hd) z2
    have k : ∀ b ∈ A, b ∈ a :: A := fun b hb => List.mem_cons_of_mem _ hb
    refine ⟨a :: A, List.mem_cons_self .., fun b hb => ?_⟩
    rcases List.mem_cons.mp hb with e | m
    · rw [e]
      exact ⟨vs, line_of (by rw [wellAll_len hall]; exact Nat.le_trans (PySem.W.length_le_weightAllW ds) z2), fun u hu => (h1 u hu).mono k, .inl ho⟩
    · exact (h2 b m).mono k
  | .tuple ds, _, x, p, z => by
    obtain ⟨a, vs, rfl, ho, hall⟩ := well_tuple x
    have z2 : WData.weightAll ds ≤ 1048576 := z
    obtain ⟨A, h1, h2⟩ := area_all ds _ hall p fun d hd => Nat.le_trans (weight_mem hd) z2
    have k : ∀ b ∈ A, b ∈ a :: A := fun b hb => List.mem_cons_of_mem _ hb
    refine ⟨a :: A, List.mem_cons_self .., fun b hb => ?_⟩
    rcases List.mem_cons.mp hb with e | m
    · rw [e]
      exact ⟨vs, line_of (by rw [wellAll_len hall]; exact Nat.le_trans (PySem.W.length_le_weightAllW ds) z2), fun u hu => (h1 u hu).mono k, .inr ho⟩
    · exact (h2 b m).mono k
  | .float _, _, _, p, _ => Bool.noConfusion (show false = true from p)
  | .dict _, _, _, p, _ => Bool.noConfusion (show false = true from p)
  | .bytearray _, _, _, p, _ => Bool.noConfusion (show false = true from p)
  | .set _, _, _, p, _ => Bool.noConfusion (show false = true from p)
  | .frozenset _, _, _, p, _ => Bool.noConfusion (show false = true from p)
  | .obj _ _, _, _, p, _ => Bool.noConfusion (show false = true from p)
theorem area_all : ∀ (ds : List WData) (vs : List Value), WellAll P h vs ds → plWs ds = true → (∀ d ∈ ds, d.weight ≤ 1048576) → ∃ A : List Addr, (∀ u ∈ vs, OkU A u) ∧ ∀ a ∈ A, ArgOb h A a
  | [], _, x, _, _ => by
    cases x
    exact ⟨[], fun u m => absurd m (by simp), fun a m => absurd m (by simp)⟩
  | d :: ds, _, x, p, z => by
    obtain ⟨v, vs, rfl, x1, x2⟩ := well_cons x
    have q : plW d = true ∧ plWs ds = true := Bool.and_eq_true_iff.mp p
    obtain ⟨A, a1, a2⟩ := area_one d v x1 q.1 (z d (List.mem_cons_self ..))
    obtain ⟨B, b1, b2⟩ := area_all ds vs x2 q.2 fun e he => z e (List.mem_cons_of_mem _ he)
    have kA : ∀ b ∈ A, b ∈ A ++ B := fun b hb => List.mem_append.mpr (.inl hb)
    have kB : ∀ b ∈ B, b ∈ A ++ B := fun b hb => List.mem_append.mpr (.inr hb)
    refine ⟨A ++ B, fun u hu => ?_, fun b hb => ?_⟩
    · rcases List.mem_cons.mp hu with e | m
      · rw [e]
        exact a1.mono kA
      · exact (b1 u m).mono kB
    · rcases List.mem_append.mp hb with m | m
      · exact (a2 b m).mono kA
      · exact (b2 b m).mono kB
end
end
/-- what is tracked of an argument's object -/
def hoOf (o : Obj) : Option HO := match o.data with
  | .seq vs _ => if (o.cls == Value.type "list") = true then some (.frz o (.lst (vs.toList.map toV))) else some (.frz o (.tup (vs.toList.map toV)))
  | _ => none
def argH (K : PySem.W.Frag) (h : Heap) (A : List Addr) : Hp := fun b => if b ∈ A then (if (K.lookup b).isNone = true then (h.get? b).bind hoOf else none) else none
/-- nothing is tracked but what is known to the object -/
def OnlyF (H : Hp) : Prop := ∀ b, H b = none ∨ ∃ o u, H b = some (.frz o u)
theorem hoOf_lst (vs : List Value) : hoOf { cls := .type "list", data := .seq vs.toArray } = some (.frz { cls := .type "list", data := .seq vs.toArray } (.lst (vs.map toV))) := by
  show (if (Value.type "list" == Value.type "list") = true then some (HO.frz { cls := .type "list", data := .seq vs.toArray } (.lst (vs.toArray.toList.map toV))) else some (HO.frz { cls := .type "list", data := .seq vs.toArray } (.tup (vs.toArray.toList.map toV)))) = _
  rw [if_pos (beq_self_eq_true _)]
theorem hoOf_tup (vs : List Value) : hoOf { cls := .type "tuple", data := .seq vs.toArray } = some (.frz { cls := .type "tuple", data := .seq vs.toArray } (.tup (vs.map toV))) := by
  show (if (Value.type "tuple" == Value.type "list") = true then some (HO.frz { cls := .type "tuple", data := .seq vs.toArray } (.lst (vs.toArray.toList.map toV))) else some (HO.frz { cls := .type "tuple", data := .seq vs.toArray } (.tup (vs.toArray.toList.map toV)))) = _
  rw [if_neg (by decide)]
section
variable {P : Program} {w : World} {K : PySem.W.Frag} {h : Heap} {A : List Addr}
theorem argH_at {b : Addr} {o : Obj} (hb : b ∈ A) (hk : K.lookup b = none) (e : h.get? b = some o) : argH K h A b = hoOf o := by
  unfold argH
  rw [if_pos hb, hk, if_pos (show (none : Option Obj).isNone = true from rfl), e] <;> rfl
theorem of_argH {b : Addr} {u : HO} (q : argH K h A b = some u) : b ∈ A ∧ K.lookup b = none := by
  unfold argH at q
  by_cases hb : b ∈ A
  · rw [if_pos hb] at q
    cases hk : K.lookup b with
    | none => exact ⟨hb, rfl⟩
    | some o =>
      rw [hk, if_neg (by simp)] at q
      cases q
  · rw [if_neg hb] at q
    cases q
/-- what stands tracked -/
theorem argH_is (ar : ∀ a ∈ A, ArgOb h A a) {b : Addr} {u : HO} (q : argH K h A b = some u) : K.lookup b = none ∧ ∃ vs : List Value, vs.length ≤ sizeLine ∧ (∀ u ∈ vs, OkU A u) ∧
    ((h.get? b = some { cls := .type "list", data := .seq vs.toArray } ∧ u = .frz { cls := .type "list", data := .seq vs.toArray } (.lst (vs.map toV))) ∨
     (h.get? b = some { cls := .type "tuple", data := .seq vs.toArray } ∧ u = .frz { cls := .type "tuple", data := .seq vs.toArray } (.tup (vs.map toV)))) := by
  obtain ⟨hb, hk⟩ := of_argH q
  obtain ⟨vs, h1, h2, h3⟩ := ar b hb
  refine ⟨hk, vs, h1, h2, ?_⟩
  rcases h3 with e | e
  · rw [argH_at hb hk e, hoOf_lst] at q
    exact .inl ⟨e, (Option.some.inj q).symm⟩
  · rw [argH_at hb hk e, hoOf_tup] at q
    exact .inr ⟨e, (Option.some.inj q).symm⟩
theorem argH_only (ar : ∀ a ∈ A, ArgOb h A a) : OnlyF (argH K h A) := fun b => by
  cases q : argH K h A b with
  | none => exact .inl rfl
  | some u =>
    obtain ⟨_, vs, _, _, ⟨_, e⟩ | ⟨_, e⟩⟩ := argH_is ar q
    · exact .inr ⟨_, _, by rw [e]⟩
    · exact .inr ⟨_, _, by rw [e]⟩
theorem argH_ok (ar : ∀ a ∈ A, ArgOb h A a) : HOk P w (argH K h A) h := fun b u q => by
  obtain ⟨_, vs, h1, h2, ⟨e, rfl⟩ | ⟨e, rfl⟩⟩ := argH_is ar q
  · exact ⟨e, by rw [List.length_map]; exact h1, vs, _, vals_toV h2, e⟩
  · exact ⟨e, by rw [List.length_map]; exact h1, vs, vals_toV h2, _, e, rfl, _, rfl⟩
theorem seq_inj {c c' : Value} {vs us : List Value} (e : (some { cls := c, data := .seq vs.toArray } : Option Obj) = some { cls := c', data := .seq us.toArray }) : c = c' ∧ vs = us := by
  have e1 := Option.some.inj e
  have e2 : c = c' := congrArg Obj.cls e1
  have e3 : Data.seq vs.toArray = Data.seq us.toArray := congrArg Obj.data e1
  injection e3 with e4
  refine ⟨e2, ?_⟩
  have e5 := congrArg Array.toList e4
  simpa using e5
/-- a list argument -/
theorem argL (KX : K.In h) (ar : ∀ a ∈ A, ArgOb h A a) {a : Addr} {vs : List Value} (ha : a ∈ A) (e : h.get? a = some { cls := .type "list", data := .seq vs.toArray }) : (∀ u ∈ vs, OkU A u) ∧ SqL K (argH K h A) a (vs.map toV) := by
  obtain ⟨us, h1, h2, h3⟩ := ar a ha
  have hu : us = vs := by
    rcases h3 with q | q
    · rw [e] at q
      exact (seq_inj q).2.symm
    · rw [e] at q
      exact absurd (Value.type.inj (seq_inj q).1) (by decide)
  subst hu
  refine ⟨h2, ?_⟩
  cases hk : K.lookup a with
  | none => exact .inl (.inr ⟨_, by rw [argH_at ha hk e, hoOf_lst]⟩)
  | some o =>
    have e2 := KX a o hk
    rw [e] at e2
    obtain rfl := Option.some.inj e2
    exact .inr ⟨_, us.toArray, _, hk, rfl, rfl, rfl, by rw [List.size_toArray]; exact h1, by simpa using vals_toV h2⟩
theorem argT (KX : K.In h) (ar : ∀ a ∈ A, ArgOb h A a) {a : Addr} {vs : List Value} (ha : a ∈ A) (e : h.get? a = some { cls := .type "tuple", data := .seq vs.toArray }) : (∀ u ∈ vs, OkU A u) ∧ SqT K (argH K h A) a (vs.map toV) := by
  obtain ⟨us, h1, h2, h3⟩ := ar a ha
  have hu : us = vs := by
    rcases h3 with q | q
    · rw [e] at q
      exact absurd (Value.type.inj (seq_inj q).1) (by decide)
    · rw [e] at q
      exact (seq_inj q).2.symm
  subst hu
  refine ⟨h2, ?_⟩
  cases hk : K.lookup a with
  | none => exact .inl (.inr ⟨_, by rw [argH_at ha hk e, hoOf_tup]⟩)
  | some o =>
    have e2 := KX a o hk
    rw [e] at e2
    obtain rfl := Option.some.inj e2
    exact .inr ⟨_, us.toArray, _, hk, rfl, rfl, by rw [List.size_toArray]; exact h1, by simpa using vals_toV h2⟩
mutual
theorem dw_one {Pm : Params} (KX : K.In h) (ar : ∀ a ∈ A, ArgOb h A a) : ∀ (d : WData) (v : Value), Well Pm h v d → plW d = true → OkU A v → Dw K (argH K h A) (toV v) d
  | .none, _, x, _, _ => by
    cases x
    exact .non
  | .bool b, _, x, _, _ => by
    cases x
    exact .bl b
  | .int i, _, x, _, _ => by
    cases x
    exact .int i
  | .str s, _, x, _, _ => by
    cases x
    exact .str s
  | .bytes b, _, x, _, _ => by
    cases x
    have z := Dw.byt (K := K) (H := argH K h A) b.toArray
    exact z
  | .list ds, _, x, p, hu => by
    obtain ⟨a, vs, rfl, ho, hall⟩ := well_list x
    obtain ⟨h2, hs⟩ := argL KX ar hu ho
    exact .lst hs (dw_all KX ar ds _ hall p h2)
  | .tuple ds, _, x, p, hu => by
    obtain ⟨a, vs, rfl, ho, hall⟩ := well_tuple x
    obtain ⟨h2, hs⟩ := argT KX ar hu ho
    exact .tup hs (dw_all KX ar ds _ hall p h2)
  | .float _, _, _, p, _ => Bool.noConfusion (show false = true from p)
  | .dict _, _, _, p, _ => Bool.noConfusion (show false = true from p)
  | .bytearray _, _, _, p, _ => Bool.noConfusion (show false = true from p)
  | .set _, _, _, p, _ => Bool.noConfusion (show false = true from p)
  | .frozenset _, _, _, p, _ => Bool.noConfusion (show false = true from p)
  | .obj _ _, _, _, p, _ => Bool.noConfusion (show false = true from p)
theorem dw_all {Pm : Params} (KX : K.In h) (ar : ∀ a ∈ A, ArgOb h A a) : ∀ (ds : List WData) (vs : List Value), WellAll Pm h vs ds → plWs ds = true → (∀ u ∈ vs, OkU A u) → DwAll K (argH K h A) (vs.map toV) ds
  | [], _, x, _, _ => by
    cases x
    exact .nil
  | d :: ds, _, x, p, hu => by
    obtain ⟨v, vs, rfl, x1, x2⟩ := well_cons x
    have q : plW d = true ∧ plWs ds = true := Bool.and_eq_true_iff.mp p
    exact .cons (dw_one KX ar d v x1 q.1 (hu _ (List.mem_cons_self ..))) (dw_all KX ar ds vs x2 q.2 fun u m => hu u (List.mem_cons_of_mem _ m))
end
end
/-! ### the call -/
theorem spec_call {P : Program} {w : World} {K : PySem.W.Frag} {mg mb : Str → Option Value} {CX : CXT} {k : Nat} {fa : Addr} {fd : FuncData} {ps : List Str} {sp : Sp} {s₁ : Shared} {vals : List Value} {ds : List WData} {R : PySem.W.WRecords} {cl : Str → Option Addr} {d0 : WData}
    (KX : K.In s₁.heap) (hns : s₁.heap.Ns mainGlobals mg) (hb : s₁.heap.Ns builtinsNs mb) (hbb : ∀ x : Str, x ≠ "__name__" → mb x = bootBuiltins x) (hlim : s₁.heap.NoLimit) (hg : s₁.gens = #[])
    (hwl : WellAll w.params s₁.heap vals ds) (hpl : plWs ds = true) (hwt : ∀ d ∈ ds, d.weight ≤ 1048576) (hr : Room k callerA)
    (F : ∀ base : Heap, K.In base → base.Ns mainGlobals mg → FnOk P w K mg base CX k fa fd ps sp) (hbind : ∀ (s : Shared) (us : List Value), us.length = ps.length → BindsTo s fd ⟨us, []⟩ (ps.zip us)) (hlen : ds.length = ps.length)
    (hsp : ∀ (H : Hp) (xs : List V), OnlyF H → DwAll K H xs ds → sp xs H (fun v H' => Dw K H' v d0) fun _ _ _ => False)
    (hCX : ∀ H e s', CX [] H s₁ (fun _ _ _ => False) e s' → False) :
    codeAny (model P w) callerA (.call (.ref fa) ⟨vals, []⟩) (fun r s' => ∃ u as, r = .ok (.ret u) ∧ ReadsW R cl s'.heap u d0 as ∧ OldK s₁.heap s'.heap ∧ s'.os = s₁.os ∧ AllBare s'.gens) s₁ := by
  obtain ⟨A, ho, ar⟩ := area_all ds vals hwl hpl hwt
  have hO : OnlyF (argH K s₁.heap A) := argH_only ar
  have hok : HOk P w (argH K s₁.heap A) s₁.heap := argH_ok ar
  have hS := dw_all KX ar ds vals hwl hpl ho
  have hV := vals_toV ho
  have hK : ∀ b u, argH K s₁.heap A b = some u → K.lookup b = none := fun b u q => (argH_is ar q).1
  have noA : ∀ {b : Addr} {o : Obj} {es : Array DictEntry} {ep : Nat}, s₁.heap.get? b = some o → o.data = .dict es ep → argH K s₁.heap A b = none := fun {b o es ep} e d => by
    cases q : argH K s₁.heap A b with
    | none => rfl
    | some u =>
      obtain ⟨_, vs, _, _, ⟨e2, _⟩ | ⟨e2, _⟩⟩ := argH_is ar q
      · rw [e2] at e
        cases e
        have d' : Data.seq vs.toArray _ = Data.dict es ep := d
        cases d'
      · rw [e2] at e
        cases e
        have d' : Data.seq vs.toArray _ = Data.dict es ep := d
        cases d'
  generalize argH K s₁.heap A = H at hO hok hS hK noA
  have base_of : ∀ {b : Addr} {o : Obj}, s₁.heap.get? b = some o → H b = none → (hidT s₁.heap H).get? b = some o := fun e n => hidT_get e n
  have nsK : ∀ {b : Addr} {m : Str → Option Value}, s₁.heap.Ns b m → (hidT s₁.heap H).Ns b m := fun {b m} ⟨o, es, ep, e, d, r⟩ => ⟨o, es, ep, base_of e (noA e d), d, r⟩
  have nK : ∀ b o, K.lookup b = some o → H b = none := fun b o e => by
    cases q : H b with
    | none => rfl
    | some u =>
      rw [hK b u q] at e
      cases e
  have hKb : K.In (hidT s₁.heap H) := fun b o e => base_of (KX b o e) (nK b o e)
  have hM : Mod K mg (hidT s₁.heap H) := ⟨hKb, nsK hns, ⟨mb, nsK hb, hbb⟩, let ⟨mc, h1, h2⟩ := hlim; ⟨mc, nsK h1, h2⟩⟩
  have e0 : Env0 P w K mg (hidT s₁.heap H) callerA [] s₁ H := ⟨rfl, hM, fun b o e => of_hidT e, Nat.le_of_eq (hidT_size _ _), trivial, fun b hb => absurd (show b ∈ ([] : List Addr) from hb) (by simp), hok, .of_eq hg⟩
  have hl : vals.length = ps.length := by rw [wellAll_len hwl]; exact hlen
  refine codeAny_mono ((F _ hKb (nsK hns)).run callerA [] s₁ H ⟨vals, []⟩ vals (vals.map toV) _ _ hr e0 (hbind s₁ vals hl) hV (hsp H _ hO hS)) fun r s' x => ?_
  cases r with
  | error e => exact (hCX H e s' x).elim
  | ok fl =>
    cases fl with
    | next => exact False.elim x
    | brk => exact False.elim x
    | cont => exact False.elim x
    | ret u =>
      obtain ⟨v, H', os, bare, un, hok', r', q⟩ := x
      have kept : ∀ b o, s₁.heap.get? b = some o → s'.heap.get? b = some o := fun b o e => by
        cases q2 : H b with
        | none => exact un.keep b o e q2 (by intro z; exact absurd (show b ∈ ([] : List Addr) from z) (by simp)) (by simp)
        | some u2 =>
          rcases hO b with z | ⟨ob, u3, z⟩
          · rw [q2] at z
            cases z
          · have z2 := un.frzs b ob _ z
            obtain ⟨e1, _⟩ := hok b _ z
            obtain ⟨e2, _⟩ := hok' b _ z2
            rw [e] at e1
            cases e1
            exact e2
      have KX' : K.In s'.heap := fun b o e => kept b o (KX b o e)
      obtain ⟨as, hrd⟩ := Dw.reads (R := R) (cl := cl) hok' KX' d0 v u q r'
      exact ⟨u, as, rfl, hrd, OldK.of_keep kept, os, bare⟩
/-! ### the row -/
theorem layable_weight {ds : List WData} (h : WData.layableAll ds = true) : ∀ d ∈ ds, d.weight ≤ 1048576 := fun d hd =>
  (PySem.W.layableW_iff.mp (List.all_eq_true.mp h d hd)).2.2
theorem encAll_len : ∀ (cs : List Codec) (a : Codec.denoteAll cs), (Codec.encAll cs a).length = cs.length
  | [], _ => rfl
  | c :: cs, a => by
    show (Codec.encAll cs a.2).length + 1 = cs.length + 1
    rw [encAll_len cs a.2]
/-- the goal that k_headS leaves (case hc), from the promise of the row's def: whatever the arguments that the codecs let and the row asks for, the def gives what stands for enc (f ..) -/
theorem walk_spec {r : OpenSpec} {k : Nat} {q : Program} {loose : List Str} {XP : (Str → Option Value) → Heap → Prop} {YP : World → Heap → Prop} {d : DefRec} {K : Params → PySem.W.Frag} {CX : World → CXT} {ps : List Str} {sp : World → Sp}
    (hwell : r.wellSaid = true) (hdf : d.params.defaults = []) (hlen : r.args.length = ps.length) (hr : Room k callerA)
    (hY : ∀ (w : World) (h : Heap), YP w h → (K w.params).In h)
    (F : ∀ (w : World) (mg : Str → Option Value) (fa : Addr) (h : Heap), YP w h → (K w.params).In h → h.Ns mainGlobals mg → mg d.name = some (.ref fa) →
      ∃ fd : FuncData, (∀ (s : Shared) (us : List Value), us.length = ps.length → BindsTo s fd ⟨us, []⟩ (ps.zip us)) ∧
        ∀ base : Heap, (K w.params).In base → base.Ns mainGlobals mg → FnOk r.prog w (K w.params) mg base (CX w) k fa fd ps (sp w))
    (hsp : ∀ (w : World) (H : Hp) (xs : List V) (a : Codec.denoteAll r.args), OnlyF H → Codec.withinAll r.args a = true → Codec.app r.args r.asked a = true → DwAll (K w.params) H xs (Codec.encAll r.args a) →
      sp w xs H (fun v H' => Dw (K w.params) H' v (r.ret.enc (Codec.app r.args r.f a))) fun _ _ _ => False)
    (hCX : ∀ (w : World) (H : Hp) (s : Shared) (e : Value) (s' : Shared), CX w [] H s (fun _ _ _ => False) e s' → False) :
    PySem.W.WalkOS q loose XP YP r d [] (fun f vs => PySem.call f vs) := by
  intro w s_0 s₁ mg mb G Y fa o pm cd doc dV kV ho hd hcd hD hmg hg args vals as hpre hlay hrd hwl hlo
  obtain ⟨a, e1, e2⟩ := PySem.W.os_pre_some hpre
  obtain ⟨e3, hwi⟩ := Codec.encAll_of_decAll r.args args a e1
  subst e3
  have KX := hY w _ Y
  obtain ⟨fd, hb, hF⟩ := F w mg fa _ Y KX G.T.g hmg
  refine PySem.W.enter_call (codeAny_mono (spec_call (R := []) (cl := classAt s_0.heap) (d0 := r.ret.enc (Codec.app r.args r.f a)) KX G.T.g G.T.b G.T.builtins G.T.nolimit hg hwl (pl_encAll _ _) (layable_weight hlay) hr hF hb (by rw [encAll_len]; exact hlen)
    (fun H xs hO hS => hsp w H xs a hO hwi e2 hS) fun H e s' => hCX w H s₁ e s') fun r' s' hq => ?_)
  obtain ⟨u, as', rfl, h1, h2, h3, h4⟩ := hq
  exact ⟨.inl ⟨u, _, as', rfl, fun _ => rfl, h1, (OpenSpec.post_iff hwell hwi _ _).mpr rfl, fun z => Bool.noConfusion (show false = true from z)⟩, h2, h3, h4⟩
/-- the same where the promise hangs on the written part alone -/
theorem walk_specK {r : OpenSpec} {k : Nat} {q : Program} {loose : List Str} {XP : (Str → Option Value) → Heap → Prop} {YP : World → Heap → Prop} {d : DefRec} {K : Params → PySem.W.Frag} {CX : CXT} {ps : List Str} {sp : PySem.W.Frag → Sp}
    (hwell : r.wellSaid = true) (hdf : d.params.defaults = []) (hlen : r.args.length = ps.length) (hr : Room k callerA)
    (hY : ∀ (w : World) (h : Heap), YP w h → (K w.params).In h)
    (F : ∀ (w : World) (mg : Str → Option Value) (fa : Addr) (h : Heap), YP w h → (K w.params).In h → h.Ns mainGlobals mg → mg d.name = some (.ref fa) →
      ∃ fd : FuncData, (∀ (s : Shared) (us : List Value), us.length = ps.length → BindsTo s fd ⟨us, []⟩ (ps.zip us)) ∧
        ∀ base : Heap, (K w.params).In base → base.Ns mainGlobals mg → FnOk r.prog w (K w.params) mg base CX k fa fd ps (sp (K w.params)))
    (hsp : ∀ (K : PySem.W.Frag) (H : Hp) (xs : List V) (a : Codec.denoteAll r.args), OnlyF H → Codec.withinAll r.args a = true → Codec.app r.args r.asked a = true → DwAll K H xs (Codec.encAll r.args a) →
      sp K xs H (fun v H' => Dw K H' v (r.ret.enc (Codec.app r.args r.f a))) fun _ _ _ => False)
    (hCX : ∀ (H : Hp) (s : Shared) (e : Value) (s' : Shared), CX [] H s (fun _ _ _ => False) e s' → False) :
    PySem.W.WalkOS q loose XP YP r d [] (fun f vs => PySem.call f vs) :=
  walk_spec (K := K) (CX := fun _ => CX) (sp := fun w => sp (K w.params)) hwell hdf hlen hr hY F (fun w H xs a h1 h2 h3 h4 => hsp (K w.params) H xs a h1 h2 h3 h4) fun _ H s e s' => hCX H s e s'
end L2
-- rests on (row put in by the clerk, for the bench that shows a file only what it spells): KE.SpHead KE.OsShapes
end
section
set_option Elab.async false
set_option maxRecDepth 100000
/-! SHORT WORDS over the layer: a def of the text, its body, what a loop and a test want. -/
namespace L2
open PySem PySem.Spec PyProof.Rows
/-! ### the text by places -/
/-- the j-th statement of a class's body -/
def inClass (s : Stmt) (j : Nat) : Stmt := match s with
  | .ClassDef _ _ _ body _ _ _ _ _ _ _ => body.getD j (.Pass ⟨0, 0, 0, 0⟩)
  | _ => .Pass ⟨0, 0, 0, 0⟩
def defArgs (s : Stmt) : Arguments := match s with
  | .FunctionDef _ a _ _ _ _ _ _ _ _ => a
  | _ => { posonlyargs := [], args := [], vararg := none, kwonlyargs := [], kw_defaults := [], kwarg := none, defaults := [] }
def defBody (s : Stmt) : List Stmt := match s with
  | .FunctionDef _ _ b _ _ _ _ _ _ _ => b
  | _ => []
def defScope (s : Stmt) : Scope := match s with
  | .FunctionDef _ _ _ _ _ _ sc _ _ _ => sc
  | _ => { kind := .function, names := [], isGenerator := false, isCoroutine := false }
/-! ### no exception leaves a def -/
abbrev CX0 : CXT := fun _ _ _ _ _ _ => False
abbrev E0 : XK := fun _ _ _ => False
theorem pass0 {X : Cx} : Passes CX0 X E0 := fun _ _ _ _ _ _ _ h => h.elim
/-! ### a def (or method) of the text as it stands behind the top -/
structure Fun (K : PySem.W.Frag) (x qual : Str) (st : Stmt) (f : Addr) (fd : FuncData) : Prop where
  ex : ∃ (oc : Value) (od : Option Addr) (kV doc pm : Value) (an : Option Addr) (cdv ct : Value) (osl : Array (Option Value)),
    fd = PySem.W.fnOf x qual (defArgs st) (defBody st) (defScope st) .none kV doc pm an cdv ct ∧ K.lookup f = some ⟨oc, od, .func fd, osl⟩ ∧ PySem.W.codeIn K cdv qual = true
  kp : PySem.W.keepIn K (.ref f) = true
section
variable {P : Program} {w : World} {K : PySem.W.Frag} {mg : Str → Option Value} {base : Heap}
/-- THE RULE for a def: its body as a term of rules, and the reading of that term -/
theorem Fun.ok {x qual : Str} {st : Stmt} {f : Addr} {fd : FuncData} {N ps : List Str} {k : Nat} {sp : Sp} (F : Fun K x qual st f fd) (S : FnScope N ps (defScope st)) (len : ∀ vs H Q E, sp vs H Q E → vs.length = ps.length)
    (hbody : ∀ (cdv : Value) (A : Around) (outer : List Env) (s : Shared) (H : Hp) (vs : List V) (Q : VK) (E : XK), Room k (A.deeper (envOfC qual (defScope st) s.heap.objs.size f cdv)) → sp vs H Q E →
      ∃ t, PSs (cxOf CX0 P w K mg base N qual (defScope st) f cdv A outer s H E).nox (defBody st) t ∧ t { nx := fun _ H' => Q .non H', rt := Q } (start N vs) H) : FnOk P w K mg base CX0 (k + 1) f fd ps sp := by
  obtain ⟨oc, od, kV, doc, pm, an, cdv, ct, osl, rfl, lk, hcd⟩ := F.ex
  refine fn_of lk hcd S len fun A outer s H vs Q E hr hsp => ?_
  obtain ⟨t, h, q⟩ := hbody cdv A outer s H vs Q E hr hsp
  exact ⟨t, h.nox, q⟩
/-- how its arguments bind (no defaults): h is «fun _ _ _ _ _ _ us hl => match us, hl with | [_, _], _ => rfl», one _ a parameter -/
theorem Fun.binds {x qual : Str} {st : Stmt} {f : Addr} {fd : FuncData} {ps : List Str} (F : Fun K x qual st f fd)
    (h : ∀ (kV doc pm : Value) (an : Option Addr) (cdv ct : Value) (us : List Value), us.length = ps.length → bindArgs (PySem.W.fnOf x qual (defArgs st) (defBody st) (defScope st) .none kV doc pm an cdv ct) ⟨us, []⟩ = pure (ps.zip us)) : Binds K fd ps [] := by
  obtain ⟨oc, od, kV, doc, pm, an, cdv, ct, osl, rfl, lk, hcd⟩ := F.ex
  exact .all (h kV doc pm an cdv ct)
theorem fun_mk {x qual : Str} {st : Stmt} {f : Addr} {oc : Value} {od an : Option Addr} {osl : Array (Option Value)} {kV doc pm cdv ct : Value} (l : K.lookup f = some ⟨oc, od, .func (PySem.W.fnOf x qual (defArgs st) (defBody st) (defScope st) .none kV doc pm an cdv ct), osl⟩)
    (c : PySem.W.codeIn K cdv qual = true) (k : PySem.W.keepIn K (.ref f) = true) : Fun K x qual st f (PySem.W.fnOf x qual (defArgs st) (defBody st) (defScope st) .none kV doc pm an cdv ct) := ⟨⟨oc, od, kV, doc, pm, an, cdv, ct, osl, rfl, l, c⟩, k⟩
end
/-! ### expressions in short: the name that stands in the i-th slot -/
section
variable {X : Cx}
theorem pv (i : Nat) {x : Str} {pos : Pos} (hN : X.N[i]? = some x := by rfl) (hv : Vis X.env.scope x := by first | exact Or.inl rfl | exact Or.inr (Or.inl rfl) | exact Or.inr (Or.inr rfl)) (hd : (x == ("__debug__" : Str)) = false := by decide)
    (hcd : (x == ("__classdict__" : Str)) = false := by decide) : PE X (.Name x pos) (tVar i) := pe_var hN hv hd hcd
end
/-! ### heaps -/
/-- all that was tracked is as it was -/
def Same (H H' : Hp) : Prop := ∀ b o, H b = some o → H' b = some o
theorem Same.trans {H H1 H2 : Hp} (a : Same H H1) (b : Same H1 H2) : Same H H2 := fun c o h => b c o (a c o h)
theorem Same.free {H H' : Hp} (e : Same H H') {l : Addr} (h : H' l = Option.none) : H l = Option.none := by
  cases q : H l with
  | none => rfl
  | some o =>
    rw [e l o q] at h
    cases h
theorem Same.seq {K : PySem.W.Frag} {H H' : Hp} {a : Addr} {xs : List V} (e : Same H H') (h : SqL K H a xs) : SqL K H' a xs := by
  rcases h with (h | ⟨o, h⟩) | h
  · exact .inl (.inl (e _ _ h))
  · exact .inl (.inr ⟨o, e _ _ h⟩)
  · exact .inr h
/-! ### lists -/
theorem at_of {xs : List V} {z : Int} {j : Nat} {v : V} (e : z = (j : Int)) (h : xs[j]? = some v) : atI xs z = some v := by
  rw [e]
  exact atI_nat h
/-- a new instance and its __init__ leave all that was tracked as it was -/
theorem Same.made {H H1 : Hp} {x dx C : Addr} (nx : H x = Option.none) (nd : H dx = Option.none) (k : ∀ b o, (upd (upd H dx (.own x)) x (.ins C dx [])) b = some o → b ≠ x → H1 b = some o) : Same H H1 := fun b o e =>
  k b o (by rw [upd_ne (ne_of_none e nx), upd_ne (ne_of_none e nd)]; exact e) (ne_of_none e nx)
end L2
end


set_option linter.all false
namespace Mth
open Neon
def alongI (ax ay bx by' x y : Int) : Int := (bx - ax) * (x - ax) + (by' - ay) * (y - ay)
def asideI (ax ay bx by' x y : Int) : Int := (bx - ax) * (y - ay) - (by' - ay) * (x - ax)
def lenI (ax ay bx by' : Int) : Int := (bx - ax) * (bx - ax) + (by' - ay) * (by' - ay)

theorem sgn {L z t u : Int} (hL : 0 < L) (h : L * z = t * u) :
    (0 < u → (0 ≤ z ↔ 0 ≤ t)) ∧ (u < 0 → (0 ≤ z ↔ t ≤ 0)) ∧ (u = 0 → z = 0) := by
  refine ⟨fun hu => ⟨fun hz => ?_, fun ht => ?_⟩, fun hu => ⟨fun hz => ?_, fun ht => ?_⟩, fun hu => ?_⟩
  · have h1 : 0 ≤ t * u := h ▸ Int.mul_nonneg (Int.le_of_lt hL) hz
    exact Decidable.byContradiction fun q => absurd (Int.mul_neg_of_neg_of_pos (by omega : t < 0) hu) (by omega)
  · have h1 : 0 ≤ L * z := h ▸ Int.mul_nonneg ht (Int.le_of_lt hu)
    exact Decidable.byContradiction fun q => absurd (Int.mul_neg_of_pos_of_neg hL (by omega : z < 0)) (by omega)
  · have h1 : 0 ≤ t * u := h ▸ Int.mul_nonneg (Int.le_of_lt hL) hz
    exact Decidable.byContradiction fun q => absurd (Int.mul_neg_of_pos_of_neg (by omega : 0 < t) hu) (by omega)
  · have h1 : 0 ≤ L * z := h ▸ Int.mul_nonneg_of_nonpos_of_nonpos ht (Int.le_of_lt hu)
    exact Decidable.byContradiction fun q => absurd (Int.mul_neg_of_pos_of_neg hL (by omega : z < 0)) (by omega)
  · rw [hu, Int.mul_zero] at h
    rcases Int.mul_eq_zero.mp h with h | h
    · omega
    · exact h
theorem within_iff (u v w : Nat) : within u v w = true ↔ ((u : Int) ≤ w ∧ (w : Int) ≤ v) ∨ ((v : Int) ≤ w ∧ (w : Int) ≤ u) := by
  unfold within
  simp only [Bool.or_eq_true, Bool.and_eq_true, decide_eq_true_eq]
  omega
theorem lt0 {a b c d : Int} (h : 0 ≤ a - b ↔ 0 ≤ c - d) : b ≤ a ↔ d ≤ c := by omega
theorem gt0 {a b c d : Int} (h : 0 ≤ a - b ↔ c - d ≤ 0) : b ≤ a ↔ c ≤ d := by omega
theorem btw1 {L u x y z tx ty tz : Int} (hL : 0 < L) (hu : u ≠ 0) (h1 : L * (z - x) = (tz - tx) * u) (h3 : L * (y - z) = (ty - tz) * u) : ((x ≤ z ∧ z ≤ y) ∨ (y ≤ z ∧ z ≤ x)) ↔ ((tx ≤ tz ∧ tz ≤ ty) ∨ (ty ≤ tz ∧ tz ≤ tx)) := by
  have n1 : L * (x - z) = (tx - tz) * u := by grind
  have n3 : L * (z - y) = (tz - ty) * u := by grind
  have a1 := sgn hL h1
  have a3 := sgn hL h3
  have b1 := sgn hL n1
  have b3 := sgn hL n3
  rcases Int.lt_or_gt_of_ne hu with q | q
  · rw [gt0 (a1.2.1 q), gt0 (a3.2.1 q), gt0 (b1.2.1 q), gt0 (b3.2.1 q), or_comm, and_comm (a := tz ≤ ty), and_comm (a := tz ≤ tx)]
  · rw [lt0 (a1.1 q), lt0 (a3.1 q), lt0 (b1.1 q), lt0 (b3.1 q)]
theorem btw0 {L u x y z tx ty tz : Int} (hL : 0 < L) (hu : u = 0) (h1 : L * (z - x) = (tz - tx) * u) (h3 : L * (y - z) = (ty - tz) * u) : (x ≤ z ∧ z ≤ y) ∨ (y ≤ z ∧ z ≤ x) := by
  rw [hu, Int.mul_zero] at h1 h3
  have c1 := (Int.mul_eq_zero.mp h1).resolve_left (by omega)
  have c3 := (Int.mul_eq_zero.mp h3).resolve_left (by omega)
  omega
/-- between on a line, by the place along it -/
theorem betw {L ux uy tx ty tz xx xy yx yy zx zy : Int} (hL : 0 < L) (hu : ux ≠ 0 ∨ uy ≠ 0)
    (h1 : L * (zx - xx) = (tz - tx) * ux) (h2 : L * (zy - xy) = (tz - tx) * uy) (h3 : L * (yx - zx) = (ty - tz) * ux) (h4 : L * (yy - zy) = (ty - tz) * uy) :
    (((xx ≤ zx ∧ zx ≤ yx) ∨ (yx ≤ zx ∧ zx ≤ xx)) ∧ ((xy ≤ zy ∧ zy ≤ yy) ∨ (yy ≤ zy ∧ zy ≤ xy))) ↔ ((tx ≤ tz ∧ tz ≤ ty) ∨ (ty ≤ tz ∧ tz ≤ tx)) := by
  by_cases q : ux = 0
  · rw [and_iff_right (btw0 hL q h1 h3)]
    exact btw1 hL (hu.resolve_left fun n => n q) h2 h4
  · by_cases r : uy = 0
    · rw [and_iff_left (btw0 hL r h2 h4)]
      exact btw1 hL q h1 h3
    · rw [btw1 hL q h1 h3, btw1 hL r h2 h4, and_self]
theorem len_pos {ax ay bx by' : Int} (h : bx - ax ≠ 0 ∨ by' - ay ≠ 0) : 0 < lenI ax ay bx by' := by
  unfold lenI
  have sq : ∀ z : Int, 0 ≤ z * z := fun z => by
    rcases Int.le_total 0 z with q | q
    · exact Int.mul_nonneg q q
    · exact Int.mul_nonneg_of_nonpos_of_nonpos q q
  have sp : ∀ z : Int, z ≠ 0 → 0 < z * z := fun z hz => by
    have := sq z
    have : z * z ≠ 0 := fun e => by rcases Int.mul_eq_zero.mp e with e | e <;> exact hz e
    omega
  rcases h with h | h
  · have := sp _ h
    have := sq (by' - ay)
    omega
  · have := sp _ h
    have := sq (bx - ax)
    omega
/-- a point on the line: its place along it -/
theorem on_line {ax ay bx by' x y : Int} (h : asideI ax ay bx by' x y = 0) :
    lenI ax ay bx by' * (x - ax) = alongI ax ay bx by' x y * (bx - ax) ∧ lenI ax ay bx by' * (y - ay) = alongI ax ay bx by' x y * (by' - ay) := by
  unfold asideI at h
  unfold lenI alongI
  constructor <;> grind

theorem on_line2 {ax ay bx by' x y x' y' : Int} (h : asideI ax ay bx by' x y = 0) (h' : asideI ax ay bx by' x' y' = 0) :
    lenI ax ay bx by' * (x' - x) = (alongI ax ay bx by' x' y' - alongI ax ay bx by' x y) * (bx - ax) ∧ lenI ax ay bx by' * (y' - y) = (alongI ax ay bx by' x' y' - alongI ax ay bx by' x y) * (by' - ay) := by
  have a := on_line h
  have b := on_line h'
  constructor <;> grind
theorem along_a (ax ay bx by' : Int) : alongI ax ay bx by' ax ay = 0 := by unfold alongI; grind
theorem along_b (ax ay bx by' : Int) : alongI ax ay bx by' bx by' = lenI ax ay bx by' := by unfold alongI lenI; grind
theorem aside_a (ax ay bx by' : Int) : asideI ax ay bx by' ax ay = 0 := by unfold asideI; grind
theorem aside_b (ax ay bx by' : Int) : asideI ax ay bx by' bx by' = 0 := by unfold asideI; grind
/-- the other two asides, by the first two -/
theorem cross_id (ax ay bx by' cx cy dx dy : Int) :
    asideI cx cy dx dy ax ay - asideI cx cy dx dy bx by' = asideI ax ay bx by' dx dy - asideI ax ay bx by' cx cy := by
  unfold asideI; grind
theorem mul_cancel0 {L z : Int} (hL : 0 < L) (h : L * z = 0) : z = 0 := by
  rcases Int.mul_eq_zero.mp h with h | h
  · omega
  · exact h
/-- both ends on the line: then the line's ends are on the other's -/
theorem coll {ax ay bx by' cx cy dx dy : Int} (hp : bx - ax ≠ 0 ∨ by' - ay ≠ 0) (h1 : asideI ax ay bx by' cx cy = 0) (h2 : asideI ax ay bx by' dx dy = 0) :
    asideI cx cy dx dy ax ay = 0 ∧ asideI cx cy dx dy bx by' = 0 := by
  have hL := len_pos hp
  have a := on_line h1
  have b := on_line2 h1 h2
  have c := on_line2 h1 (aside_b ax ay bx by')
  have e1 : lenI ax ay bx by' * (lenI ax ay bx by' * asideI cx cy dx dy ax ay) = 0 := by
    have : lenI ax ay bx by' * (lenI ax ay bx by' * asideI cx cy dx dy ax ay) = -((lenI ax ay bx by' * (dx - cx)) * (lenI ax ay bx by' * (cy - ay)) - (lenI ax ay bx by' * (dy - cy)) * (lenI ax ay bx by' * (cx - ax))) := by
      unfold asideI; grind
    rw [this, a.1, a.2, b.1, b.2]
    grind
  have e2 : asideI cx cy dx dy ax ay = 0 := mul_cancel0 hL (mul_cancel0 hL e1)
  have e3 := cross_id ax ay bx by' cx cy dx dy
  omega
/-- a grid's point within a piece -/
theorem has_iff (p : Piece) (c : Point) : p.has c = true ↔ asideI p.a.x p.a.y p.b.x p.b.y c.x c.y = 0 ∧ ((((p.a.x : Int) ≤ c.x ∧ (c.x : Int) ≤ p.b.x) ∨ ((p.b.x : Int) ≤ c.x ∧ (c.x : Int) ≤ p.a.x)) ∧ (((p.a.y : Int) ≤ c.y ∧ (c.y : Int) ≤ p.b.y) ∨ ((p.b.y : Int) ≤ c.y ∧ (c.y : Int) ≤ p.a.y))) := by
  unfold Piece.has
  rw [Bool.and_eq_true, Bool.and_eq_true, within_iff, within_iff, beq_iff_eq]
  exact Iff.rfl
/-- on the line: within it by the place along it -/
theorem in_line {ax ay bx by' x y : Int} (hp : bx - ax ≠ 0 ∨ by' - ay ≠ 0) (h : asideI ax ay bx by' x y = 0) :
    (((ax ≤ x ∧ x ≤ bx) ∨ (bx ≤ x ∧ x ≤ ax)) ∧ ((ay ≤ y ∧ y ≤ by') ∨ (by' ≤ y ∧ y ≤ ay))) ↔ (0 ≤ alongI ax ay bx by' x y ∧ alongI ax ay bx by' x y ≤ lenI ax ay bx by') := by
  have hL := len_pos hp
  have a := on_line2 (aside_a ax ay bx by') h
  have b := on_line2 h (aside_b ax ay bx by')
  have := betw hL hp a.1 a.2 b.1 b.2
  rw [along_a, along_b] at this
  rw [this]
  omega
theorem same_line {ax ay bx by' x y x' y' : Int} (hp : bx - ax ≠ 0 ∨ by' - ay ≠ 0) (h : asideI ax ay bx by' x y = 0) (h' : asideI ax ay bx by' x' y' = 0) :
    (x = x' ∧ y = y') ↔ alongI ax ay bx by' x y = alongI ax ay bx by' x' y' := by
  have hL := len_pos hp
  have a := on_line2 h h'
  constructor
  · rintro ⟨rfl, rfl⟩
    rfl
  · intro e
    rw [e, Int.sub_self, Int.zero_mul, Int.zero_mul] at a
    have := mul_cancel0 hL a.1
    have := mul_cancel0 hL a.2
    omega
/-- one end on the line of a piece, the other not: within by the two asides -/
theorem le0 (s t : Int) : s * t ≤ 0 ↔ (0 ≤ s ∧ t ≤ 0) ∨ (s ≤ 0 ∧ 0 ≤ t) := by
  constructor
  · intro h
    rcases Int.lt_trichotomy s 0 with q | q | q
    · right
      refine ⟨by omega, Decidable.byContradiction fun r => ?_⟩
      have := Int.mul_pos_of_neg_of_neg q (by omega : t < 0)
      omega
    · omega
    · left
      refine ⟨by omega, Decidable.byContradiction fun r => ?_⟩
      have := Int.mul_pos q (by omega : 0 < t)
      omega
  · rintro (⟨q, r⟩ | ⟨q, r⟩)
    · exact Int.mul_nonpos_of_nonneg_of_nonpos q r
    · exact Int.mul_nonpos_of_nonpos_of_nonneg q r
/-- an end on the line, the other not -/
theorem in_by {ax ay bx by' cx cy dx dy : Int} (hp : bx - ax ≠ 0 ∨ by' - ay ≠ 0) (h1 : asideI ax ay bx by' cx cy = 0) (h2 : asideI ax ay bx by' dx dy ≠ 0) :
    (0 ≤ alongI ax ay bx by' cx cy ∧ alongI ax ay bx by' cx cy ≤ lenI ax ay bx by') ↔ asideI cx cy dx dy ax ay * asideI cx cy dx dy bx by' ≤ 0 := by
  have hL := len_pos hp
  have a := on_line h1
  have b := on_line2 h1 (aside_b ax ay bx by')
  rw [along_b] at b
  have e3 : lenI ax ay bx by' * asideI cx cy dx dy ax ay = alongI ax ay bx by' cx cy * asideI ax ay bx by' dx dy := by
    have k : asideI ax ay bx by' dx dy = (bx - ax) * (dy - cy) - (by' - ay) * (dx - cx) + asideI ax ay bx by' cx cy := by unfold asideI; grind
    have : lenI ax ay bx by' * asideI cx cy dx dy ax ay = (lenI ax ay bx by' * (cx - ax)) * (dy - cy) - (lenI ax ay bx by' * (cy - ay)) * (dx - cx) := by unfold asideI; grind
    rw [this, a.1, a.2, k, h1]; grind
  have e4 : lenI ax ay bx by' * asideI cx cy dx dy bx by' = (alongI ax ay bx by' cx cy - lenI ax ay bx by') * asideI ax ay bx by' dx dy := by
    have := cross_id ax ay bx by' cx cy dx dy
    rw [h1] at this
    grind
  generalize asideI cx cy dx dy ax ay = s3 at *
  generalize asideI cx cy dx dy bx by' = s4 at *
  generalize asideI ax ay bx by' dx dy = k at *
  generalize lenI ax ay bx by' = L at *
  generalize alongI ax ay bx by' cx cy = t at *
  have e3' : L * (-s3) = (-t) * k := by grind
  have e4' : L * (-s4) = (L - t) * k := by grind
  have g3 := sgn hL e3
  have g4 := sgn hL e4
  have f3 := sgn hL e3'
  have f4 := sgn hL e4'
  rw [le0]
  clear e3 e4 e3' e4' a b
  rcases Int.lt_trichotomy k 0 with q | q | q
  · have := g3.2.1 q
    have := g4.2.1 q
    have := f3.2.1 q
    have := f4.2.1 q
    omega
  · exact absurd q h2
  · have := g3.1 q
    have := g4.1 q
    have := f3.1 q
    have := f4.1 q
    omega

def mx (i j : Int) : Int := if j > i then j else i
def mn (i j : Int) : Int := if j < i then j else i
def aside (p : Piece) (x y : Int) : Int := asideI p.a.x p.a.y p.b.x p.b.y x y
def along' (p : Piece) (x y : Int) : Int := alongI p.a.x p.a.y p.b.x p.b.y x y
def len' (p : Piece) : Int := lenI p.a.x p.a.y p.b.x p.b.y
def endsB (p : Piece) (x y : Int) : Bool := (decide ((p.a.x : Int) = x) && decide ((p.a.y : Int) = y)) || (decide ((p.b.x : Int) = x) && decide ((p.b.y : Int) = y))
def lieB (p q : Piece) : Bool := decide (mx 0 (mn (along' p q.a.x q.a.y) (along' p q.b.x q.b.y)) < mn (len' p) (mx (along' p q.a.x q.a.y) (along' p q.b.x q.b.y)))
def badB (p q : Piece) : Bool :=
  if aside p q.a.x q.a.y = 0 ∧ aside p q.b.x q.b.y = 0 then lieB p q
  else if (endsB p q.a.x q.a.y || endsB p q.b.x q.b.y) = true then false
  else decide (aside p q.a.x q.a.y * aside p q.b.x q.b.y ≤ 0) && decide (aside q p.a.x p.a.y * aside q p.b.x p.b.y ≤ 0)
def badP (p q : Piece) : Prop :=
  (aside p q.a.x q.a.y < 0 ∧ 0 < aside p q.b.x q.b.y ∨ 0 < aside p q.a.x q.a.y ∧ aside p q.b.x q.b.y < 0) ∧ (aside q p.a.x p.a.y < 0 ∧ 0 < aside q p.b.x p.b.y ∨ 0 < aside q p.a.x p.a.y ∧ aside q p.b.x p.b.y < 0) ∨
  (p.has q.a = true ∧ q.a ≠ p.a ∧ q.a ≠ p.b) ∨ (p.has q.b = true ∧ q.b ≠ p.a ∧ q.b ≠ p.b) ∨ (q.has p.a = true ∧ p.a ≠ q.a ∧ p.a ≠ q.b) ∨ (q.has p.b = true ∧ p.b ≠ q.a ∧ p.b ≠ q.b) ∨
  ((p.a = q.a ∨ p.a = q.b) ∧ (p.b = q.a ∨ p.b = q.b))
theorem opp (u v : Int) : (¬(u < 0 ↔ v < 0) ∧ ¬u = 0 ∧ ¬v = 0) ↔ (u < 0 ∧ 0 < v ∨ 0 < u ∧ v < 0) := by
  constructor
  · rintro ⟨a, b, c⟩
    by_cases d : u < 0
    · exact .inl ⟨d, by omega⟩
    · exact .inr ⟨by omega, by omega⟩
  · rintro (⟨a, b⟩ | ⟨a, b⟩)
    · exact ⟨fun z => absurd (z.mp a) (by omega), by omega, by omega⟩
    · exact ⟨fun z => absurd (z.mpr b) (by omega), by omega, by omega⟩
theorem crossing_iff (p q : Piece) : crossing p q = true ↔ (aside p q.a.x q.a.y < 0 ∧ 0 < aside p q.b.x q.b.y ∨ 0 < aside p q.a.x q.a.y ∧ aside p q.b.x q.b.y < 0) ∧ (aside q p.a.x p.a.y < 0 ∧ 0 < aside q p.b.x p.b.y ∨ 0 < aside q p.a.x p.a.y ∧ aside q p.b.x p.b.y < 0) := by
  have e : ∀ (p : Piece) (c : Point), side p.a p.b c = aside p c.x c.y := fun _ _ => rfl
  unfold crossing
  rw [e, e, e, e]
  generalize aside p q.a.x q.a.y = s1
  generalize aside p q.b.x q.b.y = s2
  generalize aside q p.a.x p.a.y = s3
  generalize aside q p.b.x p.b.y = s4
  simp only [Bool.and_eq_true, bne_iff_ne, ne_eq, decide_eq_decide]
  rw [← opp s1 s2, ← opp s3 s4]
  simp only [and_assoc]
theorem meets_iff (p q : Piece) : (meets p q == 2) = true ↔ badP p q := by
  have : (meets p q == 2) = (crossing p q || ((q.ends.any fun (c : Point) => p.has c && !p.ends.contains c) || ((p.ends.any fun (c : Point) => q.has c && !q.ends.contains c) || p.ends.all fun (c : Point) => q.ends.contains c))) := by
    unfold meets
    split
    · next h => rw [h]; rfl
    · next h =>
      rw [Bool.not_eq_true] at h
      rw [h]
      split <;> rfl
  rw [this, Bool.or_eq_true, crossing_iff]
  unfold badP
  apply or_congr Iff.rfl
  simp only [Piece.ends, List.any_cons, List.any_nil, List.all_cons, List.all_nil, List.contains_cons, List.contains_nil, Bool.or_false, Bool.and_true, Bool.or_eq_true, Bool.and_eq_true, Bool.not_eq_true', Bool.or_eq_false_iff, beq_iff_eq, beq_eq_false_iff_ne, or_assoc, ne_eq]
theorem pt_eq (c d : Point) : c = d ↔ (c.x : Int) = d.x ∧ (c.y : Int) = d.y := by
  constructor
  · rintro rfl; exact ⟨rfl, rfl⟩
  · rintro ⟨h1, h2⟩
    cases c; cases d
    simp only [Point.mk.injEq]
    exact ⟨by exact Int.ofNat.inj h1, by exact Int.ofNat.inj h2⟩
theorem nd_of {p : Piece} (h : p.a ≠ p.b) : (p.b.x : Int) - p.a.x ≠ 0 ∨ (p.b.y : Int) - p.a.y ≠ 0 := by
  rw [Ne, pt_eq] at h
  omega
theorem ovl0 {s t L : Int} (hL : 0 < L) (h : s < t) : ((if s > 0 then s else 0) < if t < L then t else L) ↔ s < L ∧ 0 < t := by
  split <;> split <;> constructor <;> intro z <;> omega
theorem ovl1 {s t L : Int} (hL : 0 < L) (h : s < t) : s < L ∧ 0 < t ↔ ((0 ≤ s ∧ s ≤ L) ∧ ¬s = 0 ∧ ¬s = L ∨ (0 ≤ t ∧ t ≤ L) ∧ ¬t = 0 ∧ ¬t = L ∨ (s ≤ 0 ∧ 0 ≤ t ∨ t ≤ 0 ∧ 0 ≤ s) ∧ ¬s = 0 ∧ ¬t = 0 ∨ (s ≤ L ∧ L ≤ t ∨ t ≤ L ∧ L ≤ s) ∧ ¬s = L ∧ ¬t = L ∨ (s = 0 ∨ t = 0) ∧ (s = L ∨ t = L)) := by
  constructor
  · rintro ⟨a, b⟩
    by_cases c : 0 < s
    · exact .inl ⟨⟨by omega, by omega⟩, by omega, by omega⟩
    by_cases d : t < L
    · exact .inr (.inl ⟨⟨by omega, by omega⟩, by omega, by omega⟩)
    by_cases e : s = 0
    · by_cases f : t = L
      · exact .inr (.inr (.inr (.inr ⟨.inl e, .inr f⟩)))
      · exact .inr (.inr (.inr (.inl ⟨.inl ⟨by omega, by omega⟩, by omega, f⟩)))
    · exact .inr (.inr (.inl ⟨.inl ⟨by omega, by omega⟩, e, by omega⟩))
  · rintro (⟨⟨a, b⟩, c, d⟩ | ⟨⟨a, b⟩, c, d⟩ | ⟨⟨a, b⟩ | ⟨a, b⟩, c, d⟩ | ⟨⟨a, b⟩ | ⟨a, b⟩, c, d⟩ | ⟨a | a, b | b⟩) <;> constructor <;> omega
theorem ovl2 {s t L : Int} (hL : 0 < L) (h : t < s) : t < L ∧ 0 < s ↔ ((0 ≤ s ∧ s ≤ L) ∧ ¬s = 0 ∧ ¬s = L ∨ (0 ≤ t ∧ t ≤ L) ∧ ¬t = 0 ∧ ¬t = L ∨ (s ≤ 0 ∧ 0 ≤ t ∨ t ≤ 0 ∧ 0 ≤ s) ∧ ¬s = 0 ∧ ¬t = 0 ∨ (s ≤ L ∧ L ≤ t ∨ t ≤ L ∧ L ≤ s) ∧ ¬s = L ∧ ¬t = L ∨ (s = 0 ∨ t = 0) ∧ (s = L ∨ t = L)) := by
  constructor
  · rintro ⟨a, b⟩
    by_cases c : 0 < t
    · exact .inr (.inl ⟨⟨by omega, by omega⟩, by omega, by omega⟩)
    by_cases d : s < L
    · exact .inl ⟨⟨by omega, by omega⟩, by omega, by omega⟩
    by_cases e : t = 0
    · by_cases f : s = L
      · exact .inr (.inr (.inr (.inr ⟨.inr e, .inl f⟩)))
      · exact .inr (.inr (.inr (.inl ⟨.inr ⟨by omega, by omega⟩, f, by omega⟩)))
    · exact .inr (.inr (.inl ⟨.inr ⟨by omega, by omega⟩, by omega, e⟩))
  · rintro (⟨⟨a, b⟩, c, d⟩ | ⟨⟨a, b⟩, c, d⟩ | ⟨⟨a, b⟩ | ⟨a, b⟩, c, d⟩ | ⟨⟨a, b⟩ | ⟨a, b⟩, c, d⟩ | ⟨a | a, b | b⟩) <;> constructor <;> omega
theorem strict {u v : Int} (h1 : ¬ u = 0) (h2 : ¬ v = 0) (h : (0 ≤ u ∧ v ≤ 0) ∨ (u ≤ 0 ∧ 0 ≤ v)) : u < 0 ∧ 0 < v ∨ 0 < u ∧ v < 0 := by
  rcases h with ⟨a, b⟩ | ⟨a, b⟩
  · exact .inr ⟨by omega, by omega⟩
  · exact .inl ⟨by omega, by omega⟩
theorem weak {u v : Int} (h : u < 0 ∧ 0 < v ∨ 0 < u ∧ v < 0) : (0 ≤ u ∧ v ≤ 0) ∨ (u ≤ 0 ∧ 0 ≤ v) := by
  rcases h with ⟨a, b⟩ | ⟨a, b⟩
  · exact .inr ⟨Int.le_of_lt a, Int.le_of_lt b⟩
  · exact .inl ⟨Int.le_of_lt a, Int.le_of_lt b⟩
theorem zfst {u v : Int} (h : u = 0) : (0 ≤ u ∧ v ≤ 0) ∨ (u ≤ 0 ∧ 0 ≤ v) := by
  subst h
  rcases Int.le_total v 0 with y | y
  · exact .inl ⟨Int.le_refl _, y⟩
  · exact .inr ⟨Int.le_refl _, y⟩
theorem zsnd {u v : Int} (h : v = 0) : (0 ≤ u ∧ v ≤ 0) ∨ (u ≤ 0 ∧ 0 ≤ v) := by
  subst h
  rcases Int.le_total 0 u with y | y
  · exact .inl ⟨y, Int.le_refl _⟩
  · exact .inr ⟨y, Int.le_refl _⟩
theorem bad_coll {p q : Piece} (hp : p.a ≠ p.b) (hq : q.a ≠ q.b) (h1 : aside p q.a.x q.a.y = 0) (h2 : aside p q.b.x q.b.y = 0) : lieB p q = true ↔ badP p q := by
  have np := nd_of hp
  have nq := nd_of hq
  have hL : 0 < len' p := len_pos np
  obtain ⟨h3, h4⟩ : aside q p.a.x p.a.y = 0 ∧ aside q p.b.x p.b.y = 0 := coll np h1 h2
  have aa := aside_a p.a.x p.a.y p.b.x p.b.y
  have ab := aside_b p.a.x p.a.y p.b.x p.b.y
  have eA : along' p p.a.x p.a.y = 0 := along_a _ _ _ _
  have eB : along' p p.b.x p.b.y = len' p := along_b _ _ _ _
  have i1 := in_line np h1
  have i2 := in_line np h2
  have j1 := betw hL np (on_line2 h1 aa).1 (on_line2 h1 aa).2 (on_line2 aa h2).1 (on_line2 aa h2).2
  have j2 := betw hL np (on_line2 h1 ab).1 (on_line2 h1 ab).2 (on_line2 ab h2).1 (on_line2 ab h2).2
  have c1 : q.a = p.a ↔ along' p q.a.x q.a.y = along' p p.a.x p.a.y := (pt_eq _ _).trans (same_line np h1 aa)
  have c2 : q.a = p.b ↔ along' p q.a.x q.a.y = along' p p.b.x p.b.y := (pt_eq _ _).trans (same_line np h1 ab)
  have c3 : q.b = p.a ↔ along' p q.b.x q.b.y = along' p p.a.x p.a.y := (pt_eq _ _).trans (same_line np h2 aa)
  have c4 : q.b = p.b ↔ along' p q.b.x q.b.y = along' p p.b.x p.b.y := (pt_eq _ _).trans (same_line np h2 ab)
  have c5 : q.a = q.b ↔ along' p q.a.x q.a.y = along' p q.b.x q.b.y := (pt_eq _ _).trans (same_line np h1 h2)
  have d1 : p.a = q.a ↔ along' p q.a.x q.a.y = along' p p.a.x p.a.y := by rw [← c1]; exact eq_comm
  have d2 : p.b = q.a ↔ along' p q.a.x q.a.y = along' p p.b.x p.b.y := by rw [← c2]; exact eq_comm
  have d3 : p.a = q.b ↔ along' p q.b.x q.b.y = along' p p.a.x p.a.y := by rw [← c3]; exact eq_comm
  have d4 : p.b = q.b ↔ along' p q.b.x q.b.y = along' p p.b.x p.b.y := by rw [← c4]; exact eq_comm
  rw [Ne, c5] at hq
  have k1 : p.has q.a = true ↔ (0 ≤ along' p q.a.x q.a.y ∧ along' p q.a.x q.a.y ≤ len' p) := (has_iff p q.a).trans ((and_iff_right h1).trans i1)
  have k2 : p.has q.b = true ↔ (0 ≤ along' p q.b.x q.b.y ∧ along' p q.b.x q.b.y ≤ len' p) := (has_iff p q.b).trans ((and_iff_right h2).trans i2)
  have k3 : q.has p.a = true ↔ _ := (has_iff q p.a).trans ((and_iff_right h3).trans j1)
  have k4 : q.has p.b = true ↔ _ := (has_iff q p.b).trans ((and_iff_right h4).trans j2)
  unfold badP
  rw [k1, k2, k3, k4, h1, h2, h3, h4]
  simp only [Ne, c1, c2, c3, c4, d1, d2, d3, d4]
  change _ ↔ _ ∨ _ ∨ _ ∨ (((along' p q.a.x q.a.y ≤ along' p p.a.x p.a.y ∧ along' p p.a.x p.a.y ≤ along' p q.b.x q.b.y) ∨ (along' p q.b.x q.b.y ≤ along' p p.a.x p.a.y ∧ along' p p.a.x p.a.y ≤ along' p q.a.x q.a.y)) ∧ _) ∨ (((along' p q.a.x q.a.y ≤ along' p p.b.x p.b.y ∧ along' p p.b.x p.b.y ≤ along' p q.b.x q.b.y) ∨ (along' p q.b.x q.b.y ≤ along' p p.b.x p.b.y ∧ along' p p.b.x p.b.y ≤ along' p q.a.x q.a.y)) ∧ _) ∨ _
  rw [eA, eB]
  unfold lieB mx mn
  rw [decide_eq_true_eq]
  clear c1 c2 c3 c4 c5 d1 d2 d3 d4 k1 k2 k3 k4 i1 i2 j1 j2 aa ab eA eB h1 h2 h3 h4 np nq
  generalize along' p q.a.x q.a.y = s at *
  generalize along' p q.b.x q.b.y = t at *
  generalize len' p = L at *
  simp only [Int.lt_irrefl, false_and, or_false, false_or]
  rcases Int.lt_or_gt_of_ne hq with h | h
  · rw [if_neg (show ¬ t < s by omega), if_pos (show t > s from h), ovl0 hL h]
    exact ovl1 hL h
  · rw [if_pos (show t < s from h), if_neg (show ¬ t > s by omega), ovl0 hL h]
    exact ovl2 hL h
theorem endsB_iff (p : Piece) (c : Point) : endsB p c.x c.y = true ↔ p.a = c ∨ p.b = c := by
  unfold endsB
  rw [pt_eq, pt_eq]
  simp only [Bool.or_eq_true, Bool.and_eq_true, decide_eq_true_eq]
theorem has_a {p : Piece} {c d : Point} (hp : p.a ≠ p.b) (h1 : aside p c.x c.y = 0) (h2 : aside p d.x d.y ≠ 0) : p.has c = true ↔ asideI c.x c.y d.x d.y p.a.x p.a.y * asideI c.x c.y d.x d.y p.b.x p.b.y ≤ 0 :=
  (has_iff p c).trans ((and_iff_right h1).trans ((in_line (nd_of hp) h1).trans (in_by (nd_of hp) h1 h2)))
theorem flip (cx cy dx dy x y : Int) : asideI dx dy cx cy x y = -asideI cx cy dx dy x y := by unfold asideI; grind
theorem has_b {p : Piece} {c d : Point} (hp : p.a ≠ p.b) (h1 : aside p c.x c.y = 0) (h2 : aside p d.x d.y ≠ 0) : p.has c = true ↔ asideI d.x d.y c.x c.y p.a.x p.a.y * asideI d.x d.y c.x c.y p.b.x p.b.y ≤ 0 := by
  rw [has_a hp h1 h2, flip d.x d.y, flip d.x d.y, Int.neg_mul_neg]
theorem has_no {p : Piece} {c : Point} (h : aside p c.x c.y ≠ 0) : ¬ p.has c = true := fun q => h ((has_iff p c).mp q).1
theorem bad_iff {p q : Piece} (hp : p.a ≠ p.b) (hq : q.a ≠ q.b) : badB p q = true ↔ badP p q := by
  unfold badB
  by_cases h : aside p q.a.x q.a.y = 0 ∧ aside p q.b.x q.b.y = 0
  · rw [if_pos h]
    exact bad_coll hp hq h.1 h.2
  · rw [if_neg h]
    have cr : aside q p.a.x p.a.y - aside q p.b.x p.b.y = aside p q.b.x q.b.y - aside p q.a.x q.a.y := cross_id _ _ _ _ _ _ _ _
    have co : ¬ (aside q p.a.x p.a.y = 0 ∧ aside q p.b.x p.b.y = 0) := fun z => h (coll (nd_of hq) z.1 z.2)
    have paa : aside p p.a.x p.a.y = 0 := aside_a _ _ _ _
    have pab : aside p p.b.x p.b.y = 0 := aside_b _ _ _ _
    have qaa : aside q q.a.x q.a.y = 0 := aside_a _ _ _ _
    have qab : aside q q.b.x q.b.y = 0 := aside_b _ _ _ _
    by_cases g : (endsB p q.a.x q.a.y || endsB p q.b.x q.b.y) = true
    · rw [if_pos g]
      rw [Bool.or_eq_true, endsB_iff, endsB_iff] at g
      constructor
      · intro z; cases z
      · intro z
        exfalso
        unfold badP at z
        rcases g with (g | g) | (g | g)
        · -- p.a = q.a
          have e1 : aside p q.a.x q.a.y = 0 := by rw [← g]; exact paa
          have e3 : aside q p.a.x p.a.y = 0 := by rw [g]; exact qaa
          have e2 : aside p q.b.x q.b.y ≠ 0 := fun y => h ⟨e1, y⟩
          have e4 : aside q p.b.x p.b.y ≠ 0 := fun y => co ⟨e3, y⟩
          rcases z with z | z | z | z | z | z
          · omega
          · exact z.2.1 g.symm
          · exact has_no e2 z.1
          · exact z.2.1 g
          · exact has_no e4 z.1
          · rcases z.2 with y | y
            · exact hp (g.trans y.symm)
            · rw [← y] at e2; exact e2 pab
        · -- p.b = q.a
          have e1 : aside p q.a.x q.a.y = 0 := by rw [← g]; exact pab
          have e3 : aside q p.b.x p.b.y = 0 := by rw [g]; exact qaa
          have e2 : aside p q.b.x q.b.y ≠ 0 := fun y => h ⟨e1, y⟩
          have e4 : aside q p.a.x p.a.y ≠ 0 := fun y => co ⟨y, e3⟩
          rcases z with z | z | z | z | z | z
          · omega
          · exact z.2.2 g.symm
          · exact has_no e2 z.1
          · exact has_no e4 z.1
          · exact z.2.1 g
          · rcases z.1 with y | y
            · exact hp (y.trans g.symm)
            · rw [← y] at e2; exact e2 paa
        · -- p.a = q.b
          have e1 : aside p q.b.x q.b.y = 0 := by rw [← g]; exact paa
          have e3 : aside q p.a.x p.a.y = 0 := by rw [g]; exact qab
          have e2 : aside p q.a.x q.a.y ≠ 0 := fun y => h ⟨y, e1⟩
          have e4 : aside q p.b.x p.b.y ≠ 0 := fun y => co ⟨e3, y⟩
          rcases z with z | z | z | z | z | z
          · omega
          · exact has_no e2 z.1
          · exact z.2.1 g.symm
          · exact z.2.2 g
          · exact has_no e4 z.1
          · rcases z.2 with y | y
            · rw [← y] at e2; exact e2 pab
            · exact hp (g.trans y.symm)
        · -- p.b = q.b
          have e1 : aside p q.b.x q.b.y = 0 := by rw [← g]; exact pab
          have e3 : aside q p.b.x p.b.y = 0 := by rw [g]; exact qab
          have e2 : aside p q.a.x q.a.y ≠ 0 := fun y => h ⟨y, e1⟩
          have e4 : aside q p.a.x p.a.y ≠ 0 := fun y => co ⟨y, e3⟩
          rcases z with z | z | z | z | z | z
          · omega
          · exact has_no e2 z.1
          · exact z.2.2 g.symm
          · exact has_no e4 z.1
          · exact z.2.2 g
          · rcases z.1 with y | y
            · rw [← y] at e2; exact e2 paa
            · exact hp (y.trans g.symm)
    · rw [if_neg g]
      rw [Bool.or_eq_true, endsB_iff, endsB_iff] at g
      have g1 : p.a ≠ q.a := fun y => g (.inl (.inl y))
      have g2 : p.b ≠ q.a := fun y => g (.inl (.inr y))
      have g3 : p.a ≠ q.b := fun y => g (.inr (.inl y))
      have g4 : p.b ≠ q.b := fun y => g (.inr (.inr y))
      rw [Bool.and_eq_true, decide_eq_true_eq, decide_eq_true_eq]
      have ga : ∀ z : aside p q.a.x q.a.y = 0, p.has q.a = true ↔ aside q p.a.x p.a.y * aside q p.b.x p.b.y ≤ 0 := fun z => has_a hp z fun y => h ⟨z, y⟩
      have gb : ∀ z : aside p q.b.x q.b.y = 0, p.has q.b = true ↔ aside q p.a.x p.a.y * aside q p.b.x p.b.y ≤ 0 := fun z => has_b hp z fun y => h ⟨y, z⟩
      have gc : ∀ z : aside q p.a.x p.a.y = 0, q.has p.a = true ↔ aside p q.a.x q.a.y * aside p q.b.x q.b.y ≤ 0 := fun z => has_a hq z fun y => co ⟨z, y⟩
      have gd : ∀ z : aside q p.b.x p.b.y = 0, q.has p.b = true ↔ aside p q.a.x q.a.y * aside p q.b.x q.b.y ≤ 0 := fun z => has_b hq z fun y => co ⟨y, z⟩
      have na : p.has q.a = true → aside p q.a.x q.a.y = 0 := fun z => ((has_iff _ _).mp z).1
      have nb : p.has q.b = true → aside p q.b.x q.b.y = 0 := fun z => ((has_iff _ _).mp z).1
      have nc : q.has p.a = true → aside q p.a.x p.a.y = 0 := fun z => ((has_iff _ _).mp z).1
      have nd : q.has p.b = true → aside q p.b.x p.b.y = 0 := fun z => ((has_iff _ _).mp z).1
      have bp : badP p q ↔ (aside p q.a.x q.a.y < 0 ∧ 0 < aside p q.b.x q.b.y ∨ 0 < aside p q.a.x q.a.y ∧ aside p q.b.x q.b.y < 0) ∧ (aside q p.a.x p.a.y < 0 ∧ 0 < aside q p.b.x p.b.y ∨ 0 < aside q p.a.x p.a.y ∧ aside q p.b.x p.b.y < 0) ∨ p.has q.a = true ∨ p.has q.b = true ∨ q.has p.a = true ∨ q.has p.b = true := by
        unfold badP
        constructor
        · rintro (z | z | z | z | z | z)
          · exact .inl z
          · exact .inr (.inl z.1)
          · exact .inr (.inr (.inl z.1))
          · exact .inr (.inr (.inr (.inl z.1)))
          · exact .inr (.inr (.inr (.inr z.1)))
          · rcases z.1 with y | y
            · exact absurd y g1
            · exact absurd y g3
        · rintro (z | z | z | z | z)
          · exact .inl z
          · exact .inr (.inl ⟨z, g1.symm, g2.symm⟩)
          · exact .inr (.inr (.inl ⟨z, g3.symm, g4.symm⟩))
          · exact .inr (.inr (.inr (.inl ⟨z, g1, g3⟩)))
          · exact .inr (.inr (.inr (.inr (.inl ⟨z, g2, g4⟩))))
      rw [bp, le0, le0]
      rw [le0] at ga gb gc gd
      clear bp g g1 g2 g3 g4 paa pab qaa qab
      constructor
      · rintro ⟨c1, c2⟩
        by_cases e1 : aside p q.a.x q.a.y = 0
        · exact .inr (.inl ((ga e1).mpr c2))
        by_cases e2 : aside p q.b.x q.b.y = 0
        · exact .inr (.inr (.inl ((gb e2).mpr c2)))
        by_cases e3 : aside q p.a.x p.a.y = 0
        · exact .inr (.inr (.inr (.inl ((gc e3).mpr c1))))
        by_cases e4 : aside q p.b.x p.b.y = 0
        · exact .inr (.inr (.inr (.inr ((gd e4).mpr c1))))
        exact .inl ⟨strict e1 e2 c1, strict e3 e4 c2⟩
      · rintro (⟨c1, c2⟩ | z | z | z | z)
        · exact ⟨weak c1, weak c2⟩
        · exact ⟨zfst (na z), (ga (na z)).mp z⟩
        · exact ⟨zsnd (nb z), (gb (nb z)).mp z⟩
        · exact ⟨(gc (nc z)).mp z, zfst (nc z)⟩
        · exact ⟨(gd (nd z)).mp z, zsnd (nd z)⟩
/-- **meet_badly is the specification's.** -/
theorem bad_meets {p q : Piece} (hp : p.a ≠ p.b) (hq : q.a ≠ q.b) : badB p q = (meets p q == 2) := by
  rw [Bool.eq_iff_iff, bad_iff hp hq, meets_iff]
end Mth

set_option linter.all false
namespace Mth
open Neon
/-! ### cut -/
def glue (part : Bytes) : List Bytes → List Bytes
  | w :: l => (part ++ w) :: l
  | [] => [part]
theorem cut_ne (c : UInt8) : ∀ b, cutAt c b ≠ []
  | [] => by simp [cutAt]
  | x :: r => by
    unfold cutAt
    split
    · simp
    · split <;> simp
theorem glue_nil {l : List Bytes} (h : l ≠ []) : glue [] l = l := by
  cases l with
  | nil => exact absurd rfl h
  | cons w l => rfl
theorem glue_eq {c x : UInt8} (part r : Bytes) (h : x = c) : glue part (cutAt c (x :: r)) = part :: glue [] (cutAt c r) := by
  rw [glue_nil (cut_ne c r), cutAt, if_pos h]
  show (part ++ []) :: _ = _
  rw [List.append_nil]
theorem glue_not {c x : UInt8} (part r : Bytes) (h : ¬ x = c) : glue part (cutAt c (x :: r)) = glue (part ++ [x]) (cutAt c r) := by
  rw [cutAt, if_neg h]
  cases e : cutAt c r with
  | nil => exact absurd e (cut_ne c r)
  | cons w l =>
    show (part ++ x :: w) :: l = (part ++ [x] ++ w) :: l
    rw [List.append_assoc]; rfl
theorem glue_end (c : UInt8) (part : Bytes) : glue part (cutAt c []) = [part] := by
  show [part ++ []] = _
  rw [List.append_nil]
theorem cut_len (c : UInt8) : ∀ b : Bytes, (cutAt c b).length ≤ b.length + 1 ∧ ∀ w ∈ cutAt c b, w.length ≤ b.length
  | [] => ⟨by simp [cutAt], fun w h => by simp [cutAt] at h; simp [h]⟩
  | x :: r => by
    have ih := cut_len c r
    unfold cutAt
    split
    · refine ⟨by simp; omega, fun w h => ?_⟩
      rcases List.mem_cons.mp h with h | h
      · subst h; simp
      · have := ih.2 w h; simp; omega
    · cases e : cutAt c r with
      | nil => exact absurd e (cut_ne c r)
      | cons w l =>
        rw [e] at ih
        refine ⟨by simp at ih ⊢; omega, fun v h => ?_⟩
        rcases List.mem_cons.mp h with h | h
        · subst h
          have := ih.2 w (List.mem_cons_self ..)
          simp; omega
        · have := ih.2 v (List.mem_cons_of_mem _ h); simp; omega
/-! ### numbers -/
def isDig (b : Int) : Bool := decide (48 ≤ b) && decide (b ≤ 57)
def val (l : Bytes) : Nat := l.foldl (fun (n : Nat) (c : UInt8) => 10 * n + (c.toNat - 48)) 0
theorem val_snoc (l : Bytes) (c : UInt8) : val (l ++ [c]) = 10 * val l + (c.toNat - 48) := by
  unfold val; rw [List.foldl_append]; rfl
theorem dig_iff (c : UInt8) : isDig (c.toNat : Int) = (decide (48 ≤ c.toNat) && decide (c.toNat ≤ 57)) := by
  unfold isDig
  congr 1 <;> exact decide_eq_decide.mpr (by omega)
theorem num_none {b : Bytes} (h : b = [] ∨ (1 < b.length ∧ b.head? = some 48)) : numberIn b = none := by
  unfold numberIn
  rw [if_pos]
  rcases h with h | h
  · exact .inl h
  · exact .inr (.inr h)
theorem num_bad {b : Bytes} {c : UInt8} (hc : c ∈ b) (h : isDig (c.toNat : Int) = false) : numberIn b = none := by
  unfold numberIn
  rw [if_pos]
  refine .inr (.inl ?_)
  rw [dig_iff] at h
  exact List.all_eq_false.mpr ⟨c, hc, by rw [h]; exact Bool.false_ne_true⟩
theorem num_some {b : Bytes} (h : ¬ (b = [] ∨ (1 < b.length ∧ b.head? = some 48))) (hd : ∀ c ∈ b, isDig (c.toNat : Int) = true) : numberIn b = some (val b) := by
  unfold numberIn
  rw [if_neg]
  · rfl
  · rintro (z | z | z)
    · exact h (.inl z)
    · obtain ⟨c, hc, q⟩ := List.all_eq_false.mp z
      have := hd c hc
      rw [dig_iff] at this
      exact q this
    · exact h (.inr z)
theorem cap_step (n d : Nat) (b : Int) (hb : isDig b = true) (hd : (d : Int) = b) : mn (((min n 4096 : Nat) : Int) * 10 + b - 48) 4096 = ((min (10 * n + (d - 48)) 4096 : Nat) : Int) := by
  unfold isDig at hb
  rw [Bool.and_eq_true, decide_eq_true_eq, decide_eq_true_eq] at hb
  unfold mn
  split <;> omega
/-! ### points -/
def capP (p : Point) : Point := ⟨min p.x 4096, min p.y 4096⟩
theorem cap_fine {p : Point} (h : p.fine = true) : capP p = p := by
  unfold Point.fine FAR at h
  rw [Bool.and_eq_true, decide_eq_true_eq, decide_eq_true_eq] at h
  unfold capP
  cases p
  simp only [Point.mk.injEq] at h ⊢
  omega
/-! ### a stroke judged -/
theorem pieces_len : ∀ s : Stroke, (piecesOf s).length = s.length - 1
  | [] => rfl
  | [_] => rfl
  | a :: b :: r => by
    have := pieces_len (b :: r)
    show (piecesOf (b :: r)).length + 1 = _
    rw [this]; rfl
theorem pieces_at : ∀ (s : Stroke) (i : Nat) (a b : Point), s[i]? = some a → s[i + 1]? = some b → (piecesOf s)[i]? = some ⟨a, b⟩
  | [], _, _, _, h, _ => by simp at h
  | [_], i, _, _, _, h => by simp at h
  | x :: y :: r, 0, a, b, h, h' => by simp at h h'; subst h h'; rfl
  | x :: y :: r, i + 1, a, b, h, h' => by
    show (piecesOf (y :: r))[i]? = _
    exact pieces_at (y :: r) i a b (by simpa using h) (by simpa using h')
theorem firstPiece_none (f : List Piece → Piece → Bool) : ∀ (new past : List Piece), firstPiece f past new = none ↔ ∀ j p, past.length ≤ j → (past ++ new)[j]? = some p → f ((past ++ new).take j) p = false
  | [], past => by
    refine ⟨fun _ j p h1 h2 => ?_, fun _ => rfl⟩
    rw [List.append_nil, List.getElem?_eq_none h1] at h2
    cases h2
  | q :: r, past => by
    have ih := firstPiece_none f r (past ++ [q])
    have e : past ++ [q] ++ r = past ++ q :: r := by rw [List.append_assoc]; rfl
    rw [e] at ih
    unfold firstPiece
    have t0 : (past ++ q :: r).take past.length = past := List.take_left' rfl
    have g0 : (past ++ q :: r)[past.length]? = some q := by rw [List.getElem?_append_right (Nat.le_refl _), Nat.sub_self]; rfl
    split
    · next h =>
      refine ⟨fun z => (by cases z), fun z => ?_⟩
      have := z past.length q (Nat.le_refl _) g0
      rw [t0, h] at this
      cases this
    · next h =>
      rw [ih]
      constructor
      · intro z j p h1 h2
        by_cases e : j = past.length
        · subst e
          rw [g0] at h2
          cases h2
          rw [t0]
          exact Bool.not_eq_true _ ▸ h
        · exact z j p (by rw [List.length_append]; show past.length + 1 ≤ j; omega) h2
      · intro z j p h1 h2
        rw [List.length_append] at h1
        exact z j p (by omega) h2
theorem wrong_none (past : List Piece) (s : Stroke) : wrongStroke past s = none ↔
    (∀ p ∈ s, p.fine = true) ∧ (∀ i, 1 ≤ i → i < s.length → s[i]? ≠ s[i - 1]?) ∧ (past ++ piecesOf s).length ≤ 64 ∧
    (∀ j p, past.length ≤ j → (past ++ piecesOf s)[j]? = some p → (((past ++ piecesOf s).take j).any fun q => meets q p == 2) = false) ∧
    (∀ j p, past.length ≤ j → (past ++ piecesOf s)[j]? = some p → (p.ends.any fun c => decide (8 ≤ endsAt ((past ++ piecesOf s).take j) c)) = false) := by
  have f1 : (s.findIdx? fun (p : Point) => !p.fine) = none ↔ ∀ p ∈ s, p.fine = true := by
    rw [List.findIdx?_eq_none_iff]
    simp only [Bool.not_eq_false']
  have f2 : ((List.range s.length).find? fun (i : Nat) => decide (1 ≤ i) && s[i]? == s[i - 1]?) = none ↔ ∀ i, 1 ≤ i → i < s.length → s[i]? ≠ s[i - 1]? := by
    rw [List.find?_eq_none]
    constructor
    · intro z i h1 h2 e
      exact z i (List.mem_range.mpr h2) (by rw [Bool.and_eq_true, decide_eq_true_eq]; exact ⟨h1, by rw [e]; exact BEq.rfl⟩)
    · intro z i h1 h2
      rw [Bool.and_eq_true, decide_eq_true_eq] at h2
      exact z i h2.1 (List.mem_range.mp h1) (eq_of_beq h2.2)
  have f3 := firstPiece_none (fun (l : List Piece) (p : Piece) => l.any fun (q : Piece) => meets q p == 2) (piecesOf s) past
  have f4 := firstPiece_none (fun (l : List Piece) (p : Piece) => p.ends.any fun (c : Point) => decide (DEGREE ≤ endsAt l c)) (piecesOf s) past
  unfold wrongStroke
  rw [← f1, ← f2]
  cases e1 : s.findIdx? fun (p : Point) => !p.fine with
  | some i => simp
  | none =>
    cases e2 : (List.range s.length).find? fun (i : Nat) => decide (1 ≤ i) && s[i]? == s[i - 1]? with
    | some i => simp
    | none =>
      by_cases h : PIECES < past.length + (piecesOf s).length
      · simp only [if_pos h]
        unfold PIECES at h
        rw [List.length_append]
        constructor
        · intro z; cases z
        · intro z; omega
      · simp only [if_neg h]
        unfold PIECES at h
        rw [List.length_append]
        cases e3 : firstPiece (fun (l : List Piece) (p : Piece) => l.any fun (q : Piece) => meets q p == 2) past (piecesOf s) with
        | some i =>
          rw [e3] at f3
          constructor
          · intro z; cases z
          · intro z; exact absurd (f3.mpr z.2.2.2.1) (by simp)
        | none =>
          cases e4 : firstPiece (fun (l : List Piece) (p : Piece) => p.ends.any fun (c : Point) => decide (DEGREE ≤ endsAt l c)) past (piecesOf s) with
          | some i =>
            rw [e4] at f4
            constructor
            · intro z; cases z
            · intro z; exact absurd (f4.mpr z.2.2.2.2) (by simp)
          | none =>
            refine ⟨fun _ => ⟨trivial, trivial, by omega, f3.mp e3, f4.mp e4⟩, fun _ => rfl⟩

/-! ### degrees -/
theorem ends_contains (p : Piece) (c : Point) : p.ends.contains c = endsB p c.x c.y := by
  rw [Bool.eq_iff_iff, endsB_iff]
  simp only [Piece.ends, List.contains_cons, List.contains_nil, Bool.or_false, Bool.or_eq_true, beq_iff_eq]
  constructor
  · rintro (h | h)
    · exact .inl h.symm
    · exact .inr h.symm
  · rintro (h | h)
    · exact .inl h.symm
    · exact .inr h.symm
def countE (l : List Piece) (x y : Int) : Nat := (l.filter fun p => endsB p x y).length
theorem endsAt_count (l : List Piece) (c : Point) : endsAt l c = countE l c.x c.y := by
  unfold endsAt countE
  congr 1
  exact List.filter_congr fun p _ => ends_contains p c
theorem count_upto {l : List Piece} {j : Nat} {p : Piece} {c : Point} (h : l[j]? = some p) (hc : c ∈ p.ends) : countE (l.take (j + 1)) c.x c.y = endsAt (l.take j) c + 1 := by
  rw [endsAt_count]
  unfold countE
  have e : l.take (j + 1) = l.take j ++ [p] := by
    rw [List.take_succ, h]; rfl
  have ep : endsB p c.x c.y = true := by
    rw [← ends_contains]; exact List.contains_iff_mem.mpr hc
  rw [e, List.filter_append, List.length_append, List.filter_cons, if_pos ep]
  rfl
def manyB (l : List Piece) (j : Nat) (p : Piece) : Bool := decide ((countE (l.take (j + 1)) p.a.x p.a.y : Int) > 8) || decide ((countE (l.take (j + 1)) p.b.x p.b.y : Int) > 8)
theorem many_eq {l : List Piece} {j : Nat} {p : Piece} (h : l[j]? = some p) : manyB l j p = p.ends.any fun c => decide (8 ≤ endsAt (l.take j) c) := by
  unfold manyB
  rw [count_upto h (List.mem_cons_self ..), count_upto h (List.mem_cons_of_mem _ (List.mem_cons_self ..))]
  simp only [Piece.ends, List.any_cons, List.any_nil, Bool.or_false]
  congr 1 <;> exact decide_eq_decide.mpr (by omega)
/-! ### the lines judged -/
def goodRows : List Stroke → List Bytes → Option (List Stroke)
  | past, [] => some past
  | past, w :: r => match strokeIn w with
    | none => none
    | some s => match wrongStroke (past.flatMap piecesOf) s with
      | some _ => none
      | none => goodRows (past ++ [s]) r
theorem good_len : ∀ (rows : List Bytes) (past ps : List Stroke), goodRows past rows = some ps → ps.length = past.length + rows.length
  | [], past, ps, h => by cases h; rfl
  | w :: r, past, ps, h => by
    unfold goodRows at h
    split at h
    · cases h
    · split at h
      · cases h
      · have := good_len r _ _ h
        rw [this, List.length_append]
        simp; omega
theorem judge_lines : ∀ (rows : List Bytes) (i : Nat) (past : List Stroke) (last : Bytes), (judgeLines i past (rows ++ [last])).toOption = match goodRows past rows with
    | none => none
    | some ps => if last ≠ [] ∨ ps = [] then none else some ps
  | [], i, past, last => by
    show (judgeLines i past [last]).toOption = if last ≠ [] ∨ past = [] then none else some past
    unfold judgeLines
    split <;> rfl
  | w :: r, i, past, last => by
    have hne : r ++ [last] ≠ [] := by simp
    obtain ⟨x, y, e⟩ : ∃ x y, r ++ [last] = x :: y := by
      cases h : r ++ [last] with
      | nil => exact absurd h hne
      | cons x y => exact ⟨x, y, rfl⟩
    have hj : judgeLines i past (w :: (r ++ [last])) = (match strokeIn w with
      | none => .error (1, i, 0)
      | some s => match wrongStroke (past.flatMap piecesOf) s with
        | some e => .error (e.1, i, e.2)
        | none => judgeLines (i + 1) (past ++ [s]) (r ++ [last])) := by
      rw [e]; rfl
    show (judgeLines i past (w :: (r ++ [last]))).toOption = _
    rw [hj]
    unfold goodRows
    cases h1 : strokeIn w with
    | none => rfl
    | some s =>
      cases h2 : wrongStroke (past.flatMap piecesOf) s with
      | some e => simp only [h2]; rfl
      | none =>
        simp only [h2]
        exact judge_lines r (i + 1) (past ++ [s]) last
/-- the pieces of a text that is a drawing's -/
def piecesIn (t : Bytes) : Option (List Piece) := (judge t).toOption.map Drawing.pieces
theorem judge_none {t : Bytes} (h : (judge t).toOption = none) : piecesIn t = none := by unfold piecesIn; rw [h]; rfl
theorem pieces_short {t w : Bytes} (e : cutAt 10 t = [w]) : piecesIn t = none := by
  apply judge_none; unfold judge; rw [e]; rfl
theorem pieces_head {t w x : Bytes} {r : List Bytes} (e : cutAt 10 t = w :: x :: r) (h : nameIn w = none) : piecesIn t = none := by
  apply judge_none; unfold judge; rw [e]; simp only [h]; rfl
theorem map_opt {α β ε : Type} (f : α → β) : ∀ x : Except ε α, (x.map f).toOption = x.toOption.map f
  | .ok _ => rfl
  | .error _ => rfl
theorem pieces_lines {t w last : Bytes} {rows : List Bytes} (e : cutAt 10 t = w :: (rows ++ [last])) (h : (nameIn w).isSome = true) :
    piecesIn t = match goodRows [] rows with
      | none => none
      | some ps => if last ≠ [] ∨ ps = [] then none else some (ps.flatMap piecesOf) := by
  unfold piecesIn judge
  rw [e]
  obtain ⟨n, hn⟩ := Option.isSome_iff_exists.mp h
  obtain ⟨x, y, e2⟩ : ∃ x y, rows ++ [last] = x :: y := by
    cases h : rows ++ [last] with
    | nil => simp at h
    | cons x y => exact ⟨x, y, rfl⟩
  rw [e2]
  simp only [hn]
  rw [← e2, map_opt, judge_lines]
  cases goodRows [] rows with
  | none => rfl
  | some ps => dsimp only; split <;> rfl
/-! ### sets -/
def picked (l : List Piece) (a : Nat) : List Piece := (pickedOf l a).filterMap fun i => l[i]?
def bitB (a : Int) (i : Nat) : Bool := decide ((a / 2 ^ i) % 2 = 1)
theorem bit_eq (a i : Nat) : bitB (a : Int) i = a.testBit i := by
  unfold bitB
  rw [Nat.testBit_eq_decide_div_mod_eq]
  apply decide_eq_decide.mpr
  have : ((a : Int) / 2 ^ i) % 2 = ((a / 2 ^ i % 2 : Nat) : Int) := by
    rw [Int.natCast_emod, Int.natCast_ediv, Int.natCast_pow]; rfl
  rw [this]; omega
def pickTo (l : List Piece) (a : Int) (n : Nat) : List Piece := ((List.range n).filter fun i => bitB a i).filterMap fun i => l[i]?
theorem lit_eq (l : List Piece) (a : Nat) (s : Spot) (r : Nat) : Neon.lit l a s r = (picked l a).any fun p => litBy p s r := by
  unfold Neon.lit picked
  generalize pickedOf l a = is
  induction is with
  | nil => rfl
  | cons i is ih =>
    rw [List.any_cons, ih, List.filterMap_cons]
    cases l[i]? with
    | none => simp
    | some p => simp
theorem set_iff (a n : Nat) : decide ((a : Int) / 2 ^ n = 0) = decide (a < 2 ^ n) := by
  apply decide_eq_decide.mpr
  have : ((a : Int) / 2 ^ n) = ((a / 2 ^ n : Nat) : Int) := by
    rw [Int.natCast_ediv, Int.natCast_pow]; rfl
  rw [this]
  have h2 : 0 < 2 ^ n := Nat.two_pow_pos n
  rw [show ((a / 2 ^ n : Nat) : Int) = 0 ↔ a / 2 ^ n = 0 by omega, Nat.div_eq_zero_iff]
  omega
/-! ### lit -/
def sqB (ax ay bx by' : Int) : Int := (bx - ax) * (bx - ax) + (by' - ay) * (by' - ay)
def distP (p : Piece) (x y : Int) : Int × Int :=
  if along' p x y ≤ 0 then (sqB p.a.x p.a.y x y, 1)
  else if along' p x y ≥ len' p then (sqB p.b.x p.b.y x y, 1)
  else (aside p x y * aside p x y, len' p)
theorem along_sp (p : Piece) (x y : Int) : along p ⟨x, y⟩ = along' p x y := by
  unfold along along' alongI; grind
theorem square_sp (p : Piece) : squareOf p = len' p := by unfold squareOf len' lenI; rfl
theorem across_sp (p : Piece) (x y : Int) : across p ⟨x, y⟩ = -aside p x y := by
  unfold across aside asideI; grind
theorem where_sp (p : Piece) (x y : Int) : whereNear p ⟨x, y⟩ = if along' p x y ≤ 0 then 0 else if len' p ≤ along' p x y then 1 else 2 := by
  unfold whereNear
  rw [along_sp, square_sp]
theorem dist_told (p : Piece) (x y : Int) : squareTold p ⟨x, y⟩ = distP p x y := by
  have w := where_sp p x y
  by_cases q : along' p x y ≤ 0
  · rw [if_pos q] at w
    unfold squareTold distP
    rw [w, if_pos q]; rfl
  · by_cases r : len' p ≤ along' p x y
    · rw [if_neg q, if_pos r] at w
      unfold squareTold distP
      rw [w, if_neg q, if_pos r]; rfl
    · rw [if_neg q, if_neg r] at w
      unfold squareTold distP
      rw [w, if_neg q, if_neg r]
      show (across p ⟨x, y⟩ * across p ⟨x, y⟩, squareOf p) = _
      rw [across_sp, square_sp, Int.neg_mul_neg]
theorem lit_by (p : Piece) (x y : Int) (r : Nat) : litBy p ⟨x, y⟩ r = decide ((distP p x y).1 ≤ ((r : Int) * r) * (distP p x y).2) := by
  unfold litBy
  rw [dist_told]
/-! ### a byte of the picture -/
def hornB (f : Nat → Bool) : Nat → Int
  | 0 => 0
  | n + 1 => if f n then hornB f n * 2 + 1 else hornB f n * 2
theorem byte_eq (f : Nat → Bool) : ((UInt8.ofNat (((List.range 8).filter f).map fun (b : Nat) => 2 ^ (7 - b)).sum).toNat : Int) = hornB f 8 := by
  have e : List.range 8 = [0, 1, 2, 3, 4, 5, 6, 7] := by decide
  rw [e]
  simp only [List.filter_cons, List.filter_nil, hornB]
  generalize f 0 = b0
  generalize f 1 = b1
  generalize f 2 = b2
  generalize f 3 = b3
  generalize f 4 = b4
  generalize f 5 = b5
  generalize f 6 = b6
  generalize f 7 = b7
  revert b0 b1 b2 b3 b4 b5 b6 b7
  decide
end Mth


set_option linter.all false
namespace Mth
open Neon
/-! ### a set's numbers -/
def numsTo (a : Int) (n : Nat) : List Nat := (List.range n).filter fun i => bitB a i
theorem nums_all (l : List Piece) (a : Nat) : numsTo a l.length = pickedOf l a := by
  unfold numsTo pickedOf
  congr 1
  funext i
  exact bit_eq a i
theorem nums_yes {a : Int} {n : Nat} (hb : bitB a n = true) : numsTo a (n + 1) = numsTo a n ++ [n] := by
  unfold numsTo
  rw [List.range_succ, List.filter_append, List.filter_cons, if_pos hb, List.filter_nil]
theorem nums_no {a : Int} {n : Nat} (hb : bitB a n = false) : numsTo a (n + 1) = numsTo a n := by
  unfold numsTo
  rw [List.range_succ, List.filter_append, List.filter_cons, if_neg (by rw [hb]; exact Bool.false_ne_true), List.filter_nil, List.append_nil]
theorem nums_len (a : Int) (n : Nat) : (numsTo a n).length ≤ n := by
  have := List.length_filter_le (fun i => bitB a i) (List.range n)
  rw [List.length_range] at this
  exact this
theorem nums_lt {a : Int} {n i : Nat} (h : i ∈ numsTo a n) : i < n := List.mem_range.mp (List.mem_filter.mp h).1
theorem picked_nums (l : List Piece) (a : Nat) : picked l a = (numsTo a l.length).filterMap fun i => l[i]? := by rw [nums_all]; rfl
/-! ### where, how far -/
def wherZ (p : Piece) (x y : Int) : Int := if along' p x y ≤ 0 then 0 else if len' p ≤ along' p x y then 1 else 2
theorem dist0 {p : Piece} {x y : Int} (h : wherZ p x y = 0) : distP p x y = (sqB p.a.x p.a.y x y, 1) := by
  unfold wherZ at h
  split at h
  · next q => unfold distP; rw [if_pos q]
  · split at h <;> exact absurd h (by decide)
theorem dist1 {p : Piece} {x y : Int} (h : wherZ p x y = 1) : distP p x y = (sqB p.b.x p.b.y x y, 1) := by
  unfold wherZ at h
  split at h
  · exact absurd h (by decide)
  · next q =>
    split at h
    · next r => unfold distP; rw [if_neg q, if_pos r]
    · exact absurd h (by decide)
theorem dist2 {p : Piece} {x y : Int} (h0 : ¬ wherZ p x y = 0) (h1 : ¬ wherZ p x y = 1) : distP p x y = (aside p x y * aside p x y, len' p) := by
  unfold wherZ at h0 h1
  split at h0
  · exact absurd rfl h0
  · next q =>
    rw [if_neg q] at h1
    split at h1
    · exact absurd rfl h1
    · next r => unfold distP; rw [if_neg q, if_neg r]
theorem sq_le {z : Int} (h1 : -4095 ≤ z) (h2 : z ≤ 4095) : z * z ≤ 16769025 := by
  have e : z * z = ((z.natAbs * z.natAbs : Nat) : Int) := by rw [Int.natAbs_mul_self]
  have : z.natAbs * z.natAbs ≤ 4095 * 4095 := Nat.mul_le_mul (by omega) (by omega)
  omega
theorem len_le {p : Piece} (h1 : (p.a.x : Int) ≤ 4095) (h2 : (p.a.y : Int) ≤ 4095) (h3 : (p.b.x : Int) ≤ 4095) (h4 : (p.b.y : Int) ≤ 4095) : len' p ≤ 33538050 := by
  unfold len' lenI
  have a := sq_le (z := (p.b.x : Int) - p.a.x) (by omega) (by omega)
  have b := sq_le (z := (p.b.y : Int) - p.a.y) (by omega) (by omega)
  omega
theorem dist_den {p : Piece} (x y : Int) (h1 : (p.a.x : Int) ≤ 4095) (h2 : (p.a.y : Int) ≤ 4095) (h3 : (p.b.x : Int) ≤ 4095) (h4 : (p.b.y : Int) ≤ 4095) (hn : p.a ≠ p.b) : 0 < (distP p x y).2 ∧ (distP p x y).2 ≤ 33538050 := by
  have l1 := len_le h1 h2 h3 h4
  have l2 : 0 < len' p := len_pos (nd_of hn)
  unfold distP
  split
  · exact ⟨by show (0 : Int) < 1; decide, by show (1 : Int) ≤ 33538050; decide⟩
  · split
    · exact ⟨by show (0 : Int) < 1; decide, by show (1 : Int) ≤ 33538050; decide⟩
    · exact ⟨l2, l1⟩
/-! ### the nearest -/
def lessD (p q : Piece) (x y : Int) : Bool := decide ((distP p x y).1 * (distP q x y).2 < (distP q x y).1 * (distP p x y).2)
def nstep (l : List Piece) (x y : Int) (b i : Nat) : Nat := match l[i]?, l[b]? with
  | some p, some q => if lessD p q x y = true then i else b
  | _, _ => b
def nf (l : List Piece) (s : Spot) (m : Option Nat) (i : Nat) : Option Nat := match m with
  | none => some i
  | some j => match l[i]?, l[j]? with
    | some p, some q => if nearer p q s = true then some i else some j
    | _, _ => some j
/-! ### lowest terms -/
/-! ### counts -/
def cntTo (f : Nat → Bool) (n : Nat) : Nat := ((List.range n).filter f).length
def sumTo (f : Nat → Nat) (n : Nat) : Nat := ((List.range n).map f).sum
end Mth


namespace Tube
open PySem PySem.Spec PyProof.Rows L2
open PySem.W (Codec)
open Neon (Piece Point Bytes Stroke)
/-! ### the text by places -/
def top (i : Nat) : Stmt := PySem.Challenge.pw_tubepicture_s01_bits.main.body.getD i (.Pass ⟨0, 0, 0, 0⟩)
abbrev s_Piece_init : Stmt := inClass (top 4) 0
theorem sc_Piece_init : FnScope ["self", "first", "second"] ["self", "first", "second"] (defScope s_Piece_init) := ⟨rfl, rfl, rfl, by decide +kernel, rfl, by decide +kernel, by decide +kernel⟩
abbrev s_Judged_init : Stmt := inClass (top 36) 0
theorem sc_Judged_init : FnScope ["self", "pieces", "kind", "line", "which"] ["self", "pieces", "kind", "line", "which"] (defScope s_Judged_init) := ⟨rfl, rfl, rfl, by decide +kernel, rfl, by decide +kernel, by decide +kernel⟩
abbrev s_Window_init : Stmt := inClass (top 60) 0
theorem sc_Window_init : FnScope ["self", "x", "y", "columns", "rows", "step", "reach"] ["self", "x", "y", "columns", "rows", "step", "reach"] (defScope s_Window_init) := ⟨rfl, rfl, rfl, by decide +kernel, rfl, by decide +kernel, by decide +kernel⟩
abbrev s_Looked_init : Stmt := inClass (top 72) 0
theorem sc_Looked_init : FnScope ["self", "refusal", "pieces"] ["self", "refusal", "pieces"] (defScope s_Looked_init) := ⟨rfl, rfl, rfl, by decide +kernel, rfl, by decide +kernel, by decide +kernel⟩
abbrev s_square_between : Stmt := top 5
theorem sc_square_between : FnScope ["ax", "ay", "bx", "by"] ["ax", "ay", "bx", "by"] (defScope s_square_between) := ⟨rfl, rfl, rfl, by decide +kernel, rfl, by decide +kernel, by decide +kernel⟩
abbrev s_length_square : Stmt := top 6
theorem sc_length_square : FnScope ["piece"] ["piece"] (defScope s_length_square) := ⟨rfl, rfl, rfl, by decide +kernel, rfl, by decide +kernel, by decide +kernel⟩
abbrev s_along : Stmt := top 7
theorem sc_along : FnScope ["piece", "x", "y"] ["piece", "x", "y"] (defScope s_along) := ⟨rfl, rfl, rfl, by decide +kernel, rfl, by decide +kernel, by decide +kernel⟩
abbrev s_aside : Stmt := top 8
theorem sc_aside : FnScope ["piece", "x", "y"] ["piece", "x", "y"] (defScope s_aside) := ⟨rfl, rfl, rfl, by decide +kernel, rfl, by decide +kernel, by decide +kernel⟩
abbrev s_nearest_point : Stmt := top 9
theorem sc_nearest_point : FnScope ["piece", "x", "y", "way"] ["piece", "x", "y"] (defScope s_nearest_point) := ⟨rfl, rfl, rfl, by decide +kernel, rfl, by decide +kernel, by decide +kernel⟩
abbrev s_distance_square : Stmt := top 10
theorem sc_distance_square : FnScope ["piece", "x", "y", "point", "side"] ["piece", "x", "y"] (defScope s_distance_square) := ⟨rfl, rfl, rfl, by decide +kernel, rfl, by decide +kernel, by decide +kernel⟩
abbrev s_ends_at : Stmt := top 11
theorem sc_ends_at : FnScope ["piece", "x", "y"] ["piece", "x", "y"] (defScope s_ends_at) := ⟨rfl, rfl, rfl, by decide +kernel, rfl, by decide +kernel, by decide +kernel⟩
abbrev s_share_an_end : Stmt := top 12
theorem sc_share_an_end : FnScope ["one", "other"] ["one", "other"] (defScope s_share_an_end) := ⟨rfl, rfl, rfl, by decide +kernel, rfl, by decide +kernel, by decide +kernel⟩
abbrev s_lie_over : Stmt := top 13
theorem sc_lie_over : FnScope ["one", "other", "start", "stop"] ["one", "other"] (defScope s_lie_over) := ⟨rfl, rfl, rfl, by decide +kernel, rfl, by decide +kernel, by decide +kernel⟩
abbrev s_meet_badly : Stmt := top 14
theorem sc_meet_badly : FnScope ["one", "other", "first", "second"] ["one", "other"] (defScope s_meet_badly) := ⟨rfl, rfl, rfl, by decide +kernel, rfl, by decide +kernel, by decide +kernel⟩
abbrev s_cut : Stmt := top 24
theorem sc_cut : FnScope ["row", "mark", "parts", "part", "byte"] ["row", "mark"] (defScope s_cut) := ⟨rfl, rfl, rfl, by decide +kernel, rfl, by decide +kernel, by decide +kernel⟩
abbrev s_spelled : Stmt := top 25
theorem sc_spelled : FnScope ["word", "letter"] ["word"] (defScope s_spelled) := ⟨rfl, rfl, rfl, by decide +kernel, rfl, by decide +kernel, by decide +kernel⟩
abbrev s_is_digit : Stmt := top 26
theorem sc_is_digit : FnScope ["byte"] ["byte"] (defScope s_is_digit) := ⟨rfl, rfl, rfl, by decide +kernel, rfl, by decide +kernel, by decide +kernel⟩
abbrev s_is_name_byte : Stmt := top 27
theorem sc_is_name_byte : FnScope ["byte"] ["byte"] (defScope s_is_name_byte) := ⟨rfl, rfl, rfl, by decide +kernel, rfl, by decide +kernel, by decide +kernel⟩
abbrev s_is_sign_line : Stmt := top 28
theorem sc_is_sign_line : FnScope ["row", "words", "name", "byte"] ["row"] (defScope s_is_sign_line) := ⟨rfl, rfl, rfl, by decide +kernel, rfl, by decide +kernel, by decide +kernel⟩
abbrev s_read_number : Stmt := top 29
theorem sc_read_number : FnScope ["digits", "number", "byte"] ["digits"] (defScope s_read_number) := ⟨rfl, rfl, rfl, by decide +kernel, rfl, by decide +kernel, by decide +kernel⟩
abbrev s_read_point : Stmt := top 30
theorem sc_read_point : FnScope ["word", "parts", "x", "y"] ["word"] (defScope s_read_point) := ⟨rfl, rfl, rfl, by decide +kernel, rfl, by decide +kernel, by decide +kernel⟩
abbrev s_read_points : Stmt := top 31
theorem sc_read_points : FnScope ["row", "words", "points", "word", "point"] ["row"] (defScope s_read_points) := ⟨rfl, rfl, rfl, by decide +kernel, rfl, by decide +kernel, by decide +kernel⟩
abbrev s_pieces_between : Stmt := top 37
theorem sc_pieces_between : FnScope ["points", "i"] ["points"] (defScope s_pieces_between) := ⟨rfl, rfl, rfl, by decide +kernel, rfl, by decide +kernel, by decide +kernel⟩
abbrev s_points_fault : Stmt := top 38
theorem sc_points_fault : FnScope ["points", "i"] ["points"] (defScope s_points_fault) := ⟨rfl, rfl, rfl, by decide +kernel, rfl, by decide +kernel, by decide +kernel⟩
abbrev s_meets_one_before_badly : Stmt := top 39
theorem sc_meets_one_before_badly : FnScope ["pieces", "i", "piece"] ["pieces", "i"] (defScope s_meets_one_before_badly) := ⟨rfl, rfl, rfl, by decide +kernel, rfl, by decide +kernel, by decide +kernel⟩
abbrev s_count_ends : Stmt := top 40
theorem sc_count_ends : FnScope ["pieces", "x", "y", "piece"] ["pieces", "x", "y"] (defScope s_count_ends) := ⟨rfl, rfl, rfl, by decide +kernel, rfl, by decide +kernel, by decide +kernel⟩
abbrev s_is_one_too_many : Stmt := top 41
theorem sc_is_one_too_many : FnScope ["pieces", "i", "piece", "upto", "at_first", "at_second"] ["pieces", "i"] (defScope s_is_one_too_many) := ⟨rfl, rfl, rfl, by decide +kernel, rfl, by decide +kernel, by decide +kernel⟩
abbrev s_pieces_fault : Stmt := top 42
theorem sc_pieces_fault : FnScope ["pieces", "start", "i"] ["pieces", "start"] (defScope s_pieces_fault) := ⟨rfl, rfl, rfl, by decide +kernel, rfl, by decide +kernel, by decide +kernel⟩
abbrev s_judge_strokes : Stmt := top 43
theorem sc_judge_strokes : FnScope ["rows", "pieces", "line", "points", "fault", "start"] ["rows"] (defScope s_judge_strokes) := ⟨rfl, rfl, rfl, by decide +kernel, rfl, by decide +kernel, by decide +kernel⟩
abbrev s_judge : Stmt := top 44
theorem sc_judge : FnScope ["t", "rows", "ended", "judged"] ["t"] (defScope s_judge) := ⟨rfl, rfl, rfl, by decide +kernel, rfl, by decide +kernel, by decide +kernel⟩
abbrev s_is_less : Stmt := top 46
theorem sc_is_less : FnScope ["one", "other"] ["one", "other"] (defScope s_is_less) := ⟨rfl, rfl, rfl, by decide +kernel, rfl, by decide +kernel, by decide +kernel⟩
abbrev s_is_right_reach : Stmt := top 49
theorem sc_is_right_reach : FnScope ["reach"] ["reach"] (defScope s_is_right_reach) := ⟨rfl, rfl, rfl, by decide +kernel, rfl, by decide +kernel, by decide +kernel⟩
abbrev s_has_missing_piece : Stmt := top 50
theorem sc_has_missing_piece : FnScope ["a", "pieces"] ["a", "pieces"] (defScope s_has_missing_piece) := ⟨rfl, rfl, rfl, by decide +kernel, rfl, by decide +kernel, by decide +kernel⟩
abbrev s_numbers_of_set : Stmt := top 51
theorem sc_numbers_of_set : FnScope ["a", "pieces", "i"] ["a", "pieces"] (defScope s_numbers_of_set) := ⟨rfl, rfl, rfl, by decide +kernel, rfl, by decide +kernel, by decide +kernel⟩
abbrev s_pieces_of_set : Stmt := top 52
theorem sc_pieces_of_set : FnScope ["a", "pieces", "i"] ["a", "pieces"] (defScope s_pieces_of_set) := ⟨rfl, rfl, rfl, by decide +kernel, rfl, by decide +kernel, by decide +kernel⟩
abbrev s_is_lit : Stmt := top 53
theorem sc_is_lit : FnScope ["x", "y", "shining", "reach", "limit", "piece"] ["x", "y", "shining", "reach"] (defScope s_is_lit) := ⟨rfl, rfl, rfl, by decide +kernel, rfl, by decide +kernel, by decide +kernel⟩
abbrev s_is_right : Stmt := top 61
theorem sc_is_right : FnScope ["window", "size_fits", "x_fits", "y_fits", "step_fits"] ["window"] (defScope s_is_right) := ⟨rfl, rfl, rfl, by decide +kernel, rfl, by decide +kernel, by decide +kernel⟩
abbrev s_is_lit_at : Stmt := top 62
theorem sc_is_lit_at : FnScope ["window", "shining", "column", "row", "x", "y"] ["window", "shining", "column", "row"] (defScope s_is_lit_at) := ⟨rfl, rfl, rfl, by decide +kernel, rfl, by decide +kernel, by decide +kernel⟩
abbrev s_picture_byte : Stmt := top 63
theorem sc_picture_byte : FnScope ["window", "shining", "start", "row", "byte", "column"] ["window", "shining", "start", "row"] (defScope s_picture_byte) := ⟨rfl, rfl, rfl, by decide +kernel, rfl, by decide +kernel, by decide +kernel⟩
abbrev s_picture_bytes : Stmt := top 64
theorem sc_picture_bytes : FnScope ["window", "shining", "picture", "row", "start"] ["window", "shining"] (defScope s_picture_bytes) := ⟨rfl, rfl, rfl, by decide +kernel, rfl, by decide +kernel, by decide +kernel⟩
abbrev s_look : Stmt := top 73
theorem sc_look : FnScope ["a", "t", "place_fits", "judged"] ["a", "t", "place_fits"] (defScope s_look) := ⟨rfl, rfl, rfl, by decide +kernel, rfl, by decide +kernel, by decide +kernel⟩
abbrev s_bits : Stmt := top 74
theorem sc_bits : FnScope ["a", "x", "y", "w", "h", "s", "r", "t", "window", "looked", "picture"] ["a", "x", "y", "w", "h", "s", "r", "t"] (defScope s_bits) := ⟨rfl, rfl, rfl, by decide +kernel, rfl, by decide +kernel, by decide +kernel⟩
structure Txt (K : PySem.W.Frag) (mg : Str → Option Value) : Prop where
  c_FIRST_END : ∃ t, mg "FIRST_END" = some (.int (0) t)
  c_SECOND_END : ∃ t, mg "SECOND_END" = some (.int (1) t)
  c_BETWEEN : ∃ t, mg "BETWEEN" = some (.int (2) t)
  c_BLANK : ∃ t, mg "BLANK" = some (.int (32) t)
  c_COMMA : ∃ t, mg "COMMA" = some (.int (44) t)
  c_ZERO : ∃ t, mg "ZERO" = some (.int (48) t)
  c_NINE : ∃ t, mg "NINE" = some (.int (57) t)
  c_LONGEST_NAME : ∃ t, mg "LONGEST_NAME" = some (.int (12) t)
  c_FEWEST_POINTS : ∃ t, mg "FEWEST_POINTS" = some (.int (2) t)
  c_MOST_POINTS : ∃ t, mg "MOST_POINTS" = some (.int (65) t)
  c_FARTHEST : ∃ t, mg "FARTHEST" = some (.int (4095) t)
  c_LINE_FEED : ∃ t, mg "LINE_FEED" = some (.int (10) t)
  c_MOST_PIECES : ∃ t, mg "MOST_PIECES" = some (.int (64) t)
  c_MOST_AT_A_POINT : ∃ t, mg "MOST_AT_A_POINT" = some (.int (8) t)
  c_GREATEST_REACH : ∃ t, mg "GREATEST_REACH" = some (.int (4095) t)
  c_MOST_SPOTS : ∃ t, mg "MOST_SPOTS" = some (.int (64) t)
  c_WIDEST_STEP : ∃ t, mg "WIDEST_STEP" = some (.int (64) t)
  c_LEAST_CORNER : ∃ t, mg "LEAST_CORNER" = some (.int (-4096) t)
  c_GREATEST_CORNER : ∃ t, mg "GREATEST_CORNER" = some (.int (4095) t)
  c_BITS_OF_A_BYTE : ∃ t, mg "BITS_OF_A_BYTE" = some (.int (8) t)
  c_MOST_BYTES : ∃ t, mg "MOST_BYTES" = some (.int (65536) t)
  c_NOT_REFUSED : ∃ t, mg "NOT_REFUSED" = some (.int (0) t)
  c_WRONG_PLACE : ∃ t, mg "WRONG_PLACE" = some (.int (-1) t)
  c_TEXT_TOO_LONG : ∃ t, mg "TEXT_TOO_LONG" = some (.int (-2) t)
  c_NO_SUCH_PIECE : ∃ t, mg "NO_SUCH_PIECE" = some (.int (-4) t)
  c_NO_DRAWING : ∃ t, mg "NO_DRAWING" = some (.int (-6) t)
  b_all : mg "all" = none
  b_any : mg "any" = none
  b_len : mg "len" = none
  b_max : mg "max" = none
  b_min : mg "min" = none
  b_ord : mg "ord" = none
  b_range : mg "range" = none
/-! ### calls of the text's own defs -/
section
variable {X : Cx} {x : Str} {ps : List Str} {sp : Sp} {j k : Nat} {p pos : Pos} {e : Expr} {es : List Expr} {t : TA}
theorem pgl {i : Int} (h : ∃ t, X.mg x = some (.int i t)) (hg : Gl X x := by rfl) (hd : (x == ("__debug__" : Str)) = false := by decide) : PE X (.Name x pos) (tC (.int i)) := by
  obtain ⟨t, h⟩ := h
  exact pe_glob hg h ⟨t, rfl⟩ hd
structure OkF (P : Program) (w : World) (K : PySem.W.Frag) (mg : Str → Option Value) (base : Heap) (k : Nat) (x : Str) (ps : List Str) (sp : Sp) : Prop where
  ex : ∃ f fd, mg x = some (.ref f) ∧ PySem.W.keepIn K (.ref f) = true ∧ Binds K fd ps [] ∧ FnOk P w K mg base CX0 k f fd ps sp
theorem pcl (O : OkF X.prog X.w X.K X.mg X.base j x ps sp) (hr : Room k X.A) (hj : j ≤ k) (ha : PA X (e :: es) t) (hg : Gl X x := by rfl) (hdb : (x == ("__debug__" : Str)) = false := by decide)
    (he : starEach (e :: es) X.env = (false, eval e X.env) :: starEach es X.env := by rfl) (hpl : (backTo pos (starEach es X.env)).any (·.1) = false := by rfl) : PE X (.Call (.Name x p) (e :: es) [] pos) (tCall sp [] E0 t) := by
  obtain ⟨f, fd, h1, h2, h3, h4⟩ := O.ex
  exact pe_call h4 (hr.mono hj) hg h1 h2 h3 .nil pass0 ha hdb he hpl
structure OkC (P : Program) (w : World) (K : PySem.W.Frag) (mg : Str → Option Value) (base : Heap) (k : Nat) (x : Str) (C : Addr) (ps : List Str) (sp : Sp) : Prop where
  ex : ∃ f fd, mg x = some (.ref C) ∧ Mk K C f ∧ Binds K fd ps [] ∧ FnOk P w K mg base CX0 k f fd ps sp
theorem pmk {C : Addr} (O : OkC X.prog X.w X.K X.mg X.base j x C ps sp) (hr : Room k X.A) (hj : j + 1 ≤ k) (ha : PA X (e :: es) t) (hg : Gl X x := by rfl) (hdb : (x == ("__debug__" : Str)) = false := by decide)
    (he : starEach (e :: es) X.env = (false, eval e X.env) :: starEach es X.env := by rfl) (hpl : (backTo pos (starEach es X.env)).any (·.1) = false := by rfl) : PE X (.Call (.Name x p) (e :: es) [] pos) (tMake C sp [] E0 t) := by
  obtain ⟨f, fd, h1, h2, h3, h4⟩ := O.ex
  exact pe_make h2 h4 (hr.mono hj) hg h1 h3 .nil pass0 ha hdb he hpl
end
structure Dn (K : PySem.W.Frag) (mg : Str → Option Value) (x : Str) (st : Stmt) (ps : List Str) : Prop where
  ex : ∃ f fd, mg x = some (.ref f) ∧ Fun K x x st f fd ∧ Binds K fd ps []
theorem Dn.ok {P : Program} {w : World} {K : PySem.W.Frag} {mg : Str → Option Value} {base : Heap} {k : Nat} {x : Str} {st : Stmt} {ps : List Str} {sp : Sp} (D : Dn K mg x st ps)
    (h : ∀ f fd, Fun K x x st f fd → FnOk P w K mg base CX0 k f fd ps sp) : OkF P w K mg base k x ps sp := by
  obtain ⟨f, fd, m, F, b⟩ := D.ex
  exact ⟨f, fd, m, F.kp, b, h f fd F⟩
structure Kl (K : PySem.W.Frag) (mg : Str → Option Value) (C : Addr) (x q : Str) (fs : List Str) (st : Stmt) (ps : List Str) : Prop where
  cl : Cls K C
  no : ∀ f ∈ fs, NoAttr K C f
  mgC : mg x = some (.ref C)
  ini : ∃ f fd, Mk K C f ∧ Fun K "__init__" q st f fd ∧ Binds K fd ps []
theorem Kl.ok {P : Program} {w : World} {K : PySem.W.Frag} {mg : Str → Option Value} {base : Heap} {k : Nat} {C : Addr} {x q : Str} {fs : List Str} {st : Stmt} {ps : List Str} {sp : Sp} (D : Kl K mg C x q fs st ps)
    (h : ∀ f fd, Fun K "__init__" q st f fd → FnOk P w K mg base CX0 k f fd ps sp) : OkC P w K mg base k x C ps sp := by
  obtain ⟨f, fd, m, F, b⟩ := D.ini
  exact ⟨f, fd, D.mgC, m, b, h f fd F⟩
/-! ### the data -/
def bV (b : UInt8) : V := .int (b.toNat : Nat)
def BytesAt (H : Hp) (a : Addr) (bs : Bytes) : Prop := H a = some (.lst (bs.map bV))
def PtAt (H : Hp) (a : Addr) (p : Point) : Prop := H a = some (.tup [.int p.x, .int p.y])
structure PB (p : Piece) : Prop where
  ax : (p.a.x : Int) ≤ 4095
  ay : (p.a.y : Int) ≤ 4095
  bx : (p.b.x : Int) ≤ 4095
  by_ : (p.b.y : Int) ≤ 4095
  ne : p.a ≠ p.b
def pf (p : Piece) : List (Str × V) := putF "by" (.int p.b.y) (putF "bx" (.int p.b.x) (putF "ay" (.int p.a.y) (putF "ax" (.int p.a.x) [])))
theorem pf_by (p : Piece) : (pf p).lookup ("by" : Str) = some (.int p.b.y) := by
  unfold pf; rw [lookup_putF, if_pos rfl]
theorem pf_bx (p : Piece) : (pf p).lookup ("bx" : Str) = some (.int p.b.x) := by
  unfold pf; rw [lookup_putF, if_neg (by decide +kernel), lookup_putF, if_pos rfl]
theorem pf_ay (p : Piece) : (pf p).lookup ("ay" : Str) = some (.int p.a.y) := by
  unfold pf; rw [lookup_putF, if_neg (by decide +kernel), lookup_putF, if_neg (by decide +kernel), lookup_putF, if_pos rfl]
theorem pf_ax (p : Piece) : (pf p).lookup ("ax" : Str) = some (.int p.a.x) := by
  unfold pf; rw [lookup_putF, if_neg (by decide +kernel), lookup_putF, if_neg (by decide +kernel), lookup_putF, if_neg (by decide +kernel), lookup_putF, if_pos rfl]
def PieceAt (C : Addr) (H : Hp) (a : Addr) (p : Piece) : Prop := PB p ∧ ∃ dx, H a = some (.ins C dx (pf p))
def Each {α : Type} (R : Hp → Addr → α → Prop) (H : Hp) (as : List Addr) (xs : List α) : Prop := as.length = xs.length ∧ ∀ (j : Nat) (a : Addr) (x : α), as[j]? = some a → xs[j]? = some x → R H a x
def LstOf {α : Type} (R : Hp → Addr → α → Prop) (H : Hp) (l : Addr) (xs : List α) : Prop := ∃ as : List Addr, H l = some (.lst (as.map V.ref)) ∧ Each R H as xs
/-- what is kept where all that is tracked is kept -/
def Keeps {α : Type} (R : Hp → Addr → α → Prop) : Prop := ∀ H H' a x, Same H H' → R H a x → R H' a x
theorem kp_bytes : Keeps BytesAt := fun _ _ _ _ s h => s _ _ h
theorem kp_pt : Keeps PtAt := fun _ _ _ _ s h => s _ _ h
theorem kp_piece (C : Addr) : Keeps (PieceAt C) := fun _ _ _ _ s h => ⟨h.1, h.2.elim fun dx e => ⟨dx, s _ _ e⟩⟩
section
variable {α : Type} {R : Hp → Addr → α → Prop} {H H' : Hp} {as bs : List Addr} {xs ys : List α} {l : Addr}
theorem Each.nil : Each R H [] ([] : List α) := ⟨rfl, fun j a x h => by simp at h⟩
theorem Each.keep (k : Keeps R) (s : Same H H') (h : Each R H as xs) : Each R H' as xs := ⟨h.1, fun j a x h1 h2 => k _ _ _ _ s (h.2 j a x h1 h2)⟩
theorem Each.snoc (h : Each R H as xs) {a : Addr} {x : α} (r : R H a x) : Each R H (as ++ [a]) (xs ++ [x]) := by
  refine ⟨by rw [List.length_append, List.length_append, h.1]; rfl, fun j b y h1 h2 => ?_⟩
  by_cases hj : j < as.length
  · rw [List.getElem?_append_left hj] at h1
    rw [List.getElem?_append_left (by rw [← h.1]; exact hj)] at h2
    exact h.2 j b y h1 h2
  · rw [List.getElem?_append_right (by omega)] at h1
    rw [List.getElem?_append_right (by have := h.1; omega), ← h.1] at h2
    have e : j - as.length = 0 := by
      cases q : j - as.length with
      | zero => rfl
      | succ n => rw [q] at h1; simp at h1
    rw [e] at h1 h2
    cases h1
    cases h2
    exact r
theorem Each.append (h : Each R H as xs) (g : Each R H bs ys) : Each R H (as ++ bs) (xs ++ ys) := by
  refine ⟨by rw [List.length_append, List.length_append, h.1, g.1], fun j b y h1 h2 => ?_⟩
  by_cases hj : j < as.length
  · rw [List.getElem?_append_left hj] at h1
    rw [List.getElem?_append_left (by rw [← h.1]; exact hj)] at h2
    exact h.2 j b y h1 h2
  · rw [List.getElem?_append_right (by omega)] at h1
    rw [List.getElem?_append_right (by have := h.1; omega), ← h.1] at h2
    exact g.2 _ b y h1 h2
theorem Each.get (h : Each R H as xs) {j : Nat} {x : α} (e : xs[j]? = some x) : ∃ a, as[j]? = some a ∧ R H a x := by
  obtain ⟨hj, _⟩ := List.getElem?_eq_some_iff.mp e
  have hj' : j < as.length := by rw [h.1]; exact hj
  exact ⟨as[j], List.getElem?_eq_getElem hj', h.2 j _ x (List.getElem?_eq_getElem hj') e⟩
theorem Each.at' (h : Each R H as xs) {j : Nat} {a : Addr} (e : as[j]? = some a) : ∃ x, xs[j]? = some x ∧ R H a x := by
  obtain ⟨hj, _⟩ := List.getElem?_eq_some_iff.mp e
  have hj' : j < xs.length := by rw [← h.1]; exact hj
  exact ⟨xs[j], List.getElem?_eq_getElem hj', h.2 j a _ e (List.getElem?_eq_getElem hj')⟩
theorem Each.take (n : Nat) (h : Each R H as xs) : Each R H (as.take n) (xs.take n) := by
  refine ⟨by rw [List.length_take, List.length_take, h.1], fun j a x h1 h2 => ?_⟩
  rw [List.getElem?_take] at h1 h2
  split at h1
  · next q => rw [if_pos q] at h2; exact h.2 j a x h1 h2
  · cases h1
theorem Each.drop (n : Nat) (h : Each R H as xs) : Each R H (as.drop n) (xs.drop n) := by
  refine ⟨by rw [List.length_drop, List.length_drop, h.1], fun j a x h1 h2 => ?_⟩
  rw [List.getElem?_drop] at h1 h2
  exact h.2 _ a x h1 h2
theorem LstOf.keep (k : Keeps R) (s : Same H H') (h : LstOf R H l xs) : LstOf R H' l xs := by
  obtain ⟨as, e, q⟩ := h
  exact ⟨as, s _ _ e, q.keep k s⟩
end
theorem ref_at {as : List Addr} {j : Nat} {a : Addr} (h : as[j]? = some a) : (as.map V.ref)[j]? = some (V.ref a) := by rw [List.getElem?_map, h]; rfl
theorem ref_of {as : List Addr} {j : Nat} {v : V} (h : (as.map V.ref)[j]? = some v) : ∃ a, as[j]? = some a ∧ v = V.ref a := by
  rw [List.getElem?_map] at h
  cases e : as[j]? with
  | none => rw [e] at h; cases h
  | some a => rw [e] at h; exact ⟨a, rfl, (Option.some.inj h).symm⟩
theorem map_at {α : Type} {f : α → V} {xs : List α} {j : Nat} {v : V} (h : (xs.map f)[j]? = some v) : ∃ x, xs[j]? = some x ∧ v = f x := by
  rw [List.getElem?_map] at h
  cases e : xs[j]? with
  | none => rw [e] at h; cases h
  | some a => rw [e] at h; exact ⟨a, rfl, (Option.some.inj h).symm⟩
theorem Same.refl {H : Hp} : Same H H := fun _ _ h => h
theorem same_new {H : Hp} {a : Addr} {o : HO} (h : H a = none) : Same H (upd H a o) := fun b u e => by rw [upd_ne (ne_of_none e h)]; exact e
/-- a field of a piece in slot i -/
def tPc (C : Addr) (i : Nat) (g : Piece → Int) : TE := fun σ H Q => ∃ a p, σ[i]? = some (some (.ref a)) ∧ PieceAt C H a p ∧ Q (.int (g p)) H
abbrev KPiece (K : PySem.W.Frag) (mg : Str → Option Value) (C : Addr) : Prop := Kl K mg C "Piece" "Piece.__init__" ["ax", "ay", "bx", "by"] s_Piece_init ["self", "first", "second"]
section
variable {X : Cx} {C : Addr} {i : Nat} {x : Str} {p1 p2 : Pos}
theorem p_fld {f : Str} {g : Piece → Int} (cl : Cls X.K C) (no : NoAttr X.K C f) (hl : ∀ p, (pf p).lookup f = some (.int (g p))) (h : PE X (.Name x p1) (tVar i))
    (hb : attributeBase (.Name x p1) f X.env (eval (.Name x p1) X.env) = eval (.Name x p1) X.env) : PE X (.Attribute (.Name x p1) f p2) (tPc C i g) := by
  intro pins s σ H Q I hw
  obtain ⟨a, p, h1, ⟨_, dx, h2⟩, q⟩ := hw
  exact pe_fld h hb pins s σ H Q I ⟨_, h1, a, C, dx, _, _, rfl, h2, cl, no, hl p, q⟩
theorem p_ax (KP : KPiece X.K X.mg C) (h : PE X (.Name x p1) (tVar i)) (hb : attributeBase (.Name x p1) "ax" X.env (eval (.Name x p1) X.env) = eval (.Name x p1) X.env := by rfl) : PE X (.Attribute (.Name x p1) "ax" p2) (tPc C i fun p => p.a.x) :=
  p_fld KP.cl (KP.no _ (by simp)) pf_ax h hb
theorem p_ay (KP : KPiece X.K X.mg C) (h : PE X (.Name x p1) (tVar i)) (hb : attributeBase (.Name x p1) "ay" X.env (eval (.Name x p1) X.env) = eval (.Name x p1) X.env := by rfl) : PE X (.Attribute (.Name x p1) "ay" p2) (tPc C i fun p => p.a.y) :=
  p_fld KP.cl (KP.no _ (by simp)) pf_ay h hb
theorem p_bx (KP : KPiece X.K X.mg C) (h : PE X (.Name x p1) (tVar i)) (hb : attributeBase (.Name x p1) "bx" X.env (eval (.Name x p1) X.env) = eval (.Name x p1) X.env := by rfl) : PE X (.Attribute (.Name x p1) "bx" p2) (tPc C i fun p => p.b.x) :=
  p_fld KP.cl (KP.no _ (by simp)) pf_bx h hb
theorem p_by (KP : KPiece X.K X.mg C) (h : PE X (.Name x p1) (tVar i)) (hb : attributeBase (.Name x p1) "by" X.env (eval (.Name x p1) X.env) = eval (.Name x p1) X.env := by rfl) : PE X (.Attribute (.Name x p1) "by" p2) (tPc C i fun p => p.b.y) :=
  p_fld KP.cl (KP.no _ (by simp)) pf_by h hb
end
def Sm (z : Int) : Prop := -1048576 ≤ z ∧ z ≤ 1048576
end Tube
namespace Tube
open PySem PySem.Spec PyProof.Rows L2
open Neon (Piece Point Bytes Stroke)
/-- a statement read with what follows it named -/
theorem sq {t u : TS} {D : Ends} {σ : L2.St} {H : Hp} (h : ∀ N : L2.St → Hp → Prop, (∀ σ' H', u D σ' H' → N σ' H') → t { D with nx := N } σ H) : tSeq t u D σ H := h (u D) fun _ _ x => x
/-! ### pieces.py: what each def promises -/
def spPiece (C : Addr) : Sp := fun vs H Q _ => ∃ (p dx f s : Addr) (a b : Point), vs = [.ref p, .ref f, .ref s] ∧ H p = some (.ins C dx []) ∧ PtAt H f a ∧ PtAt H s b ∧ PB ⟨a, b⟩ ∧
  ∀ H' : Hp, PieceAt C H' p ⟨a, b⟩ → (∀ c o, H c = some o → c ≠ p → H' c = some o) → Q .non H'
def spSqB : Sp := fun vs H Q _ => ∃ ax ay bx by' : Int, vs = [.int ax, .int ay, .int bx, .int by'] ∧ Sm ax ∧ Sm ay ∧ Sm bx ∧ Sm by' ∧ Q (.int (Mth.lenI ax ay bx by')) H
def spLen (C : Addr) : Sp := fun vs H Q _ => ∃ (a : Addr) (p : Piece), vs = [.ref a] ∧ PieceAt C H a p ∧ Q (.int (Mth.len' p)) H
def spAlong (C : Addr) : Sp := fun vs H Q _ => ∃ (a : Addr) (p : Piece) (x y : Int), vs = [.ref a, .int x, .int y] ∧ PieceAt C H a p ∧ Sm x ∧ Sm y ∧ Q (.int (Mth.along' p x y)) H
def spAside (C : Addr) : Sp := fun vs H Q _ => ∃ (a : Addr) (p : Piece) (x y : Int), vs = [.ref a, .int x, .int y] ∧ PieceAt C H a p ∧ Sm x ∧ Sm y ∧ Q (.int (Mth.aside p x y)) H
def spDist (C : Addr) : Sp := fun vs H Q _ => ∃ (a : Addr) (p : Piece) (x y : Int), vs = [.ref a, .int x, .int y] ∧ PieceAt C H a p ∧ Sm x ∧ Sm y ∧
  ∀ (H' : Hp) (t : Addr), Same H H' → H' t = some (.tup [.int (Mth.distP p x y).1, .int (Mth.distP p x y).2]) → Q (.ref t) H'
def spEnds (C : Addr) : Sp := fun vs H Q _ => ∃ (a : Addr) (p : Piece) (x y : Int), vs = [.ref a, .int x, .int y] ∧ PieceAt C H a p ∧ Q (.bl (Mth.endsB p x y)) H
def spShare (C : Addr) : Sp := fun vs H Q _ => ∃ (a b : Addr) (p q : Piece), vs = [.ref a, .ref b] ∧ PieceAt C H a p ∧ PieceAt C H b q ∧ Q (.bl (Mth.endsB p q.a.x q.a.y || Mth.endsB p q.b.x q.b.y)) H
def spLie (C : Addr) : Sp := fun vs H Q _ => ∃ (a b : Addr) (p q : Piece), vs = [.ref a, .ref b] ∧ PieceAt C H a p ∧ PieceAt C H b q ∧ Q (.bl (Mth.lieB p q)) H
def spBad (C : Addr) : Sp := fun vs H Q _ => ∃ (a b : Addr) (p q : Piece), vs = [.ref a, .ref b] ∧ PieceAt C H a p ∧ PieceAt C H b q ∧ Q (.bl (Mth.badB p q)) H
theorem pl {n : Nat} {f : Str} {v : V} {fs : List (Str × V)} (h : fs.length ≤ n) : (putF f v fs).length ≤ n + 1 := Nat.le_trans (length_putF ..) (Nat.add_le_add_right h 1)
theorem PB.sm {p : Piece} (b : PB p) : Sm p.a.x ∧ Sm p.a.y ∧ Sm p.b.x ∧ Sm p.b.y := by
  obtain ⟨b1, b2, b3, b4, _⟩ := b
  unfold Sm
  omega
section
variable {P : Program} {w : World} {K : PySem.W.Frag} {mg : Str → Option Value} {base : Heap} {CP : Addr}
set_option maxHeartbeats 2000000
theorem ok_Piece (KP : KPiece K mg CP) : OkC P w K mg base 1 "Piece" CP ["self", "first", "second"] (spPiece CP) := KP.ok fun f fd F => by
  refine F.ok sc_Piece_init (fun vs H Q E h => ?_) (fun cdv A outer s H vs Q E hr h => ?_)
  · obtain ⟨p, dx, f1, s1, a, b, rfl, _⟩ := h
    rfl
  · obtain ⟨p, dx, f1, s1, a, b, rfl, hp, hf, hs, hb, k⟩ := h
    have n1 : f1 ≠ p := ne_of hf hp (by intro z; cases z)
    have n2 : s1 ≠ p := ne_of hs hp (by intro z; cases z)
    refine ⟨_, (pss_cons (ps_fld (pv 0) (pe_ix ix_tup (pv 1) pe_int (fun _ _ => rfl)) rfl)
        (pss_cons (ps_fld (pv 0) (pe_ix ix_tup (pv 1) pe_int (fun _ _ => rfl)) rfl)
        (pss_cons (ps_fld (pv 0) (pe_ix ix_tup (pv 2) pe_int (fun _ _ => rfl)) rfl)
        (pss_one (ps_fld (pv 0) (pe_ix ix_tup (pv 2) pe_int (fun _ _ => rfl)) rfl))))), ?_⟩
    refine ⟨_, rfl, f1, _, _, _, rfl, rfl, SqT.of hf, atI_nat (j := 0) rfl, _, rfl, p, CP, dx, _, rfl, hp, KP.cl, KP.no _ (by simp), (by show 0 < 1000; decide), ?_⟩
    refine ⟨_, rfl, f1, _, _, _, rfl, rfl, SqT.of ((upd_ne n1).trans hf), atI_nat (j := 1) rfl, _, rfl, p, CP, dx, _, rfl, upd_same, KP.cl, KP.no _ (by simp), Nat.lt_of_le_of_lt (pl (Nat.le_refl 0)) (by decide), ?_⟩
    refine ⟨_, rfl, s1, _, _, _, rfl, rfl, SqT.of ((upd_ne n2).trans ((upd_ne n2).trans hs)), atI_nat (j := 0) rfl, _, rfl, p, CP, dx, _, rfl, upd_same, KP.cl, KP.no _ (by simp), Nat.lt_of_le_of_lt (pl (pl (Nat.le_refl 0))) (by decide), ?_⟩
    refine ⟨_, rfl, s1, _, _, _, rfl, rfl, SqT.of ((upd_ne n2).trans ((upd_ne n2).trans ((upd_ne n2).trans hs))), atI_nat (j := 1) rfl, _, rfl, p, CP, dx, _, rfl, upd_same, KP.cl, KP.no _ (by simp), Nat.lt_of_le_of_lt (pl (pl (pl (Nat.le_refl 0)))) (by decide), ?_⟩
    exact k _ ⟨hb, dx, upd_same⟩ fun c o e hc => by rw [upd_ne hc, upd_ne hc, upd_ne hc, upd_ne hc]; exact e
theorem ok_square_between (D : Dn K mg "square_between" s_square_between ["ax", "ay", "bx", "by"]) : OkF P w K mg base 1 "square_between" ["ax", "ay", "bx", "by"] spSqB := D.ok fun f fd F => by
  refine F.ok sc_square_between (fun vs H Q E h => ?_) (fun cdv A outer s H vs Q E hr h => ?_)
  · obtain ⟨ax, ay, bx, by', rfl, _⟩ := h
    rfl
  · obtain ⟨ax, ay, bx, by', rfl, s1, s2, s3, s4, k⟩ := h
    unfold Sm at s1 s2 s3 s4
    refine ⟨_, (pss_one (ps_ret (pe_op op_add (pe_op op_mul (pe_op op_sub (pv 2) (pv 0)) (pe_op op_sub (pv 2) (pv 0))) (pe_op op_mul (pe_op op_sub (pv 3) (pv 1)) (pe_op op_sub (pv 3) (pv 1)))))), ?_⟩
    exact ⟨_, rfl, _, rfl, _, _, rfl, rfl, _, rfl, _, rfl, _, _, rfl, rfl, _, _, rfl, rfl, .inl ⟨by (try dsimp only); omega, by (try dsimp only); omega⟩, _, rfl, _, rfl, _, _, rfl, rfl, _, rfl, _, rfl, _, _, rfl, rfl, _, _, rfl, rfl, .inl ⟨by (try dsimp only); omega, by (try dsimp only); omega⟩, _, _, rfl, rfl, k⟩
theorem ok_length_square (KP : KPiece K mg CP) (O_square_between : OkF P w K mg base 1 "square_between" ["ax", "ay", "bx", "by"] spSqB) (D : Dn K mg "length_square" s_length_square ["piece"]) : OkF P w K mg base 2 "length_square" ["piece"] (spLen CP) := D.ok fun f fd F => by
  refine F.ok sc_length_square (fun vs H Q E h => ?_) (fun cdv A outer s H vs Q E hr h => ?_)
  · obtain ⟨a, p, rfl, _⟩ := h
    rfl
  · obtain ⟨a, p, rfl, hp, k⟩ := h
    obtain ⟨m1, m2, m3, m4⟩ := hp.1.sm
    refine ⟨_, (pss_one (ps_ret (pcl O_square_between hr (by decide) (pa_cons (p_ax KP (pv 0)) (pa_cons (p_ay KP (pv 0)) (pa_cons (p_bx KP (pv 0)) (pa_cons (p_by KP (pv 0)) pa_nil))))))), ?_⟩
    exact ⟨a, p, rfl, hp, a, p, rfl, hp, a, p, rfl, hp, a, p, rfl, hp, _, _, _, _, rfl, m1, m2, m3, m4, k⟩
theorem ok_along (KP : KPiece K mg CP) (D : Dn K mg "along" s_along ["piece", "x", "y"]) : OkF P w K mg base 1 "along" ["piece", "x", "y"] (spAlong CP) := D.ok fun f fd F => by
  refine F.ok sc_along (fun vs H Q E h => ?_) (fun cdv A outer s H vs Q E hr h => ?_)
  · obtain ⟨a, p, x, y, rfl, _⟩ := h
    rfl
  · obtain ⟨a, p, x, y, rfl, hp, s1, s2, k⟩ := h
    obtain ⟨b1, b2, b3, b4, _⟩ := id hp.1
    unfold Sm at s1 s2
    refine ⟨_, (pss_one (ps_ret (pe_op op_add (pe_op op_mul (pe_op op_sub (p_bx KP (pv 0)) (p_ax KP (pv 0))) (pe_op op_sub (pv 1) (p_ax KP (pv 0)))) (pe_op op_mul (pe_op op_sub (p_by KP (pv 0)) (p_ay KP (pv 0))) (pe_op op_sub (pv 2) (p_ay KP (pv 0))))))), ?_⟩
    exact ⟨a, p, rfl, hp, a, p, rfl, hp, _, _, rfl, rfl, _, rfl, a, p, rfl, hp, _, _, rfl, rfl, _, _, rfl, rfl, .inl ⟨by (try dsimp only); omega, by (try dsimp only); omega⟩, a, p, rfl, hp, a, p, rfl, hp, _, _, rfl, rfl, _, rfl, a, p, rfl, hp, _, _, rfl, rfl, _, _, rfl, rfl, .inl ⟨by (try dsimp only); omega, by (try dsimp only); omega⟩, _, _, rfl, rfl, k⟩
theorem ok_aside (KP : KPiece K mg CP) (D : Dn K mg "aside" s_aside ["piece", "x", "y"]) : OkF P w K mg base 1 "aside" ["piece", "x", "y"] (spAside CP) := D.ok fun f fd F => by
  refine F.ok sc_aside (fun vs H Q E h => ?_) (fun cdv A outer s H vs Q E hr h => ?_)
  · obtain ⟨a, p, x, y, rfl, _⟩ := h
    rfl
  · obtain ⟨a, p, x, y, rfl, hp, s1, s2, k⟩ := h
    obtain ⟨b1, b2, b3, b4, _⟩ := id hp.1
    unfold Sm at s1 s2
    refine ⟨_, (pss_one (ps_ret (pe_op op_sub (pe_op op_mul (pe_op op_sub (p_bx KP (pv 0)) (p_ax KP (pv 0))) (pe_op op_sub (pv 2) (p_ay KP (pv 0)))) (pe_op op_mul (pe_op op_sub (p_by KP (pv 0)) (p_ay KP (pv 0))) (pe_op op_sub (pv 1) (p_ax KP (pv 0))))))), ?_⟩
    exact ⟨a, p, rfl, hp, a, p, rfl, hp, _, _, rfl, rfl, _, rfl, a, p, rfl, hp, _, _, rfl, rfl, _, _, rfl, rfl, .inl ⟨by (try dsimp only); omega, by (try dsimp only); omega⟩, a, p, rfl, hp, a, p, rfl, hp, _, _, rfl, rfl, _, rfl, a, p, rfl, hp, _, _, rfl, rfl, _, _, rfl, rfl, .inl ⟨by (try dsimp only); omega, by (try dsimp only); omega⟩, _, _, rfl, rfl, k⟩
end
end Tube
namespace Tube
open PySem PySem.Spec PyProof.Rows L2
open Neon (Piece Point Bytes Stroke)
theorem ite2 {b : Bool} {A B : Prop} (h1 : b = true → A) (h2 : b = false → B) : if b = true then A else B := by
  cases b with
  | true => rw [if_pos rfl]; exact h1 rfl
  | false => rw [if_neg Bool.false_ne_true]; exact h2 rfl
theorem yesT {σ : L2.St} {H : Hp} {A B : Hp → Prop} (a : A H) : tYes σ H (fun b H3 => if b = true then A H3 else B H3) := by
  show (if true = true then A H else B H)
  rw [if_pos rfl]
  exact a
theorem dI (i j : Int) : decide (V.int i = V.int j) = decide (i = j) := decide_eq_decide.mpr ⟨V.int.inj, congrArg V.int⟩
theorem dT {c : Prop} [Decidable c] (h : decide c = true) : c := of_decide_eq_true h
theorem dF {c : Prop} [Decidable c] (h : decide c = false) : ¬ c := of_decide_eq_false h
theorem nF {b : Bool} (h : (!b) = true) : b = false := by cases b <;> simp_all
theorem nT {b : Bool} (h : (!b) = false) : b = true := by cases b <;> simp_all
def spNrP (C : Addr) : Sp := fun vs H Q _ => ∃ (a : Addr) (p : Piece) (x y : Int), vs = [.ref a, .int x, .int y] ∧ PieceAt C H a p ∧ Sm x ∧ Sm y ∧ Q (.int (Mth.wherZ p x y)) H
theorem aside_lim (p : Piece) (x y : Int) (b : PB p) (s1 : Sm x) (s2 : Sm y) : -(2 ^ 64) < Mth.aside p x y ∧ Mth.aside p x y < 2 ^ 64 := by
  obtain ⟨b1, b2, b3, b4, _⟩ := b
  unfold Mth.aside Mth.asideI
  unfold Sm at s1 s2
  have B : ∀ u v : Int, -4095 ≤ u → u ≤ 4095 → -2097152 ≤ v → v ≤ 2097152 → -8589934592 ≤ u * v ∧ u * v ≤ 8589934592 := fun u v h1 h2 h3 h4 => by
    have hu : u.natAbs ≤ 4095 := by omega
    have hv : v.natAbs ≤ 2097152 := by omega
    have := Nat.mul_le_mul hu hv
    rw [← Int.natAbs_mul] at this
    omega
  have c1 := B ((p.b.x : Int) - p.a.x) (y - p.a.y) (by omega) (by omega) (by omega) (by omega)
  have c2 := B ((p.b.y : Int) - p.a.y) (x - p.a.x) (by omega) (by omega) (by omega) (by omega)
  omega
section
variable {P : Program} {w : World} {K : PySem.W.Frag} {mg : Str → Option Value} {base : Heap} {CP : Addr}
set_option maxHeartbeats 2000000
theorem ok_nearest_point (KP : KPiece K mg CP) (T : Txt K mg) (O_length_square : OkF P w K mg base 2 "length_square" ["piece"] (spLen CP)) (O_along : OkF P w K mg base 1 "along" ["piece", "x", "y"] (spAlong CP))
    (D : Dn K mg "nearest_point" s_nearest_point ["piece", "x", "y"]) : OkF P w K mg base 3 "nearest_point" ["piece", "x", "y"] (spNrP CP) := D.ok fun f fd F => by
  refine F.ok sc_nearest_point (fun vs H Q E h => ?_) (fun cdv A outer s H vs Q E hr h => ?_)
  · obtain ⟨a, p, x, y, rfl, _⟩ := h
    rfl
  · obtain ⟨a, p, x, y, rfl, hp, s1, s2, k⟩ := h
    refine ⟨_, (pss_cons (ps_set (i := 3) sc_nearest_point.nd rfl (Or.inl rfl) (pcl O_along hr (by decide) (pa_cons (pv 0) (pa_cons (pv 1) (pa_cons (pv 2) pa_nil)))))
        (pss_cons (ps_if (pt_cmpR op_le (pv 3) pe_int (nomark _)) (pss_one (ps_ret (pgl T.c_FIRST_END))) pss_nil)
        (pss_cons (ps_if (pt_cmpR op_ge (pv 3) (pcl O_length_square hr (by decide) (pa_cons (pv 0) pa_nil)) (nomark _)) (pss_one (ps_ret (pgl T.c_SECOND_END))) pss_nil)
        (pss_one (ps_ret (pgl T.c_BETWEEN)))))), ?_⟩
    unfold Mth.wherZ at k
    refine ⟨_, rfl, _, rfl, _, rfl, a, p, x, y, rfl, hp, s1, s2, _, rfl, _, _, rfl, rfl, _, rfl, ite2 (fun q => ?_) (fun q => ?_)⟩
    · rw [if_pos (dT q)] at k
      exact k
    · rw [if_neg (dF q)] at k
      refine ⟨_, rfl, _, rfl, a, p, rfl, hp, _, _, rfl, rfl, _, rfl, ite2 (fun r => ?_) (fun r => ?_)⟩
      · rw [if_pos (dT r)] at k
        exact k
      · rw [if_neg (dF r)] at k
        exact k
theorem ok_distance_square (KP : KPiece K mg CP) (T : Txt K mg) (O_square_between : OkF P w K mg base 1 "square_between" ["ax", "ay", "bx", "by"] spSqB) (O_length_square : OkF P w K mg base 2 "length_square" ["piece"] (spLen CP))
    (O_nearest_point : OkF P w K mg base 3 "nearest_point" ["piece", "x", "y"] (spNrP CP)) (O_aside : OkF P w K mg base 1 "aside" ["piece", "x", "y"] (spAside CP)) (D : Dn K mg "distance_square" s_distance_square ["piece", "x", "y"]) :
    OkF P w K mg base 4 "distance_square" ["piece", "x", "y"] (spDist CP) := D.ok fun f fd F => by
  refine F.ok sc_distance_square (fun vs H Q E h => ?_) (fun cdv A outer s H vs Q E hr h => ?_)
  · obtain ⟨a, p, x, y, rfl, _⟩ := h
    rfl
  · obtain ⟨a, p, x, y, rfl, hp, s1, s2, k⟩ := h
    obtain ⟨m1, m2, m3, m4⟩ := hp.1.sm
    have as2 := aside_lim p x y hp.1 s1 s2
    refine ⟨_, (pss_cons (ps_set (i := 3) sc_distance_square.nd rfl (Or.inl rfl) (pcl O_nearest_point hr (by decide) (pa_cons (pv 0) (pa_cons (pv 1) (pa_cons (pv 2) pa_nil)))))
        (pss_cons (ps_if (pt_cmpR op_eq (pv 3) (pgl T.c_FIRST_END) (nomark _)) (pss_one (ps_ret (pe_tup (pa_cons (pcl O_square_between hr (by decide) (pa_cons (p_ax KP (pv 0)) (pa_cons (p_ay KP (pv 0)) (pa_cons (pv 1) (pa_cons (pv 2) pa_nil))))) (pa_cons pe_int pa_nil))))) pss_nil)
        (pss_cons (ps_if (pt_cmpR op_eq (pv 3) (pgl T.c_SECOND_END) (nomark _)) (pss_one (ps_ret (pe_tup (pa_cons (pcl O_square_between hr (by decide) (pa_cons (p_bx KP (pv 0)) (pa_cons (p_by KP (pv 0)) (pa_cons (pv 1) (pa_cons (pv 2) pa_nil))))) (pa_cons pe_int pa_nil))))) pss_nil)
        (pss_cons (ps_set (i := 4) sc_distance_square.nd rfl (Or.inl rfl) (pcl O_aside hr (by decide) (pa_cons (pv 0) (pa_cons (pv 1) (pa_cons (pv 2) pa_nil)))))
        (pss_one (ps_ret (pe_tup (pa_cons (pe_op op_mul (pv 4) (pv 4)) (pa_cons (pcl O_length_square hr (by decide) (pa_cons (pv 0) pa_nil)) pa_nil))))))))), ?_⟩
    refine ⟨_, rfl, _, rfl, _, rfl, a, p, x, y, rfl, hp, s1, s2, _, rfl, rfl, _, rfl, ite2 (fun q => ?_) (fun q => ?_)⟩
    · rw [dI] at q
      have q := Mth.dist0 (dT q)
      refine ⟨a, p, rfl, hp, a, p, rfl, hp, _, rfl, _, rfl, _, _, _, _, rfl, m1, m2, s1, s2, (by show 2 ≤ sizeLine; decide), fun t ht => ?_⟩
      exact k _ t (same_new ht) (by rw [upd_same, q]; rfl)
    · rw [dI] at q
      have q := dF q
      refine ⟨_, rfl, rfl, _, rfl, ite2 (fun r => ?_) (fun r => ?_)⟩
      · rw [dI] at r
        have r := Mth.dist1 (dT r)
        refine ⟨a, p, rfl, hp, a, p, rfl, hp, _, rfl, _, rfl, _, _, _, _, rfl, m3, m4, s1, s2, (by show 2 ≤ sizeLine; decide), fun t ht => ?_⟩
        exact k _ t (same_new ht) (by rw [upd_same, r]; rfl)
      · rw [dI] at r
        have r := Mth.dist2 q (dF r)
        refine ⟨_, rfl, _, rfl, _, rfl, a, p, x, y, rfl, hp, s1, s2, _, rfl, _, rfl, _, _, rfl, rfl, .inl as2, _, rfl, a, p, rfl, hp, (by show 2 ≤ sizeLine; decide), fun t ht => ?_⟩
        exact k _ t (same_new ht) (by rw [upd_same, r])
theorem ok_ends_at (KP : KPiece K mg CP) (D : Dn K mg "ends_at" s_ends_at ["piece", "x", "y"]) : OkF P w K mg base 1 "ends_at" ["piece", "x", "y"] (spEnds CP) := D.ok fun f fd F => by
  refine F.ok sc_ends_at (fun vs H Q E h => ?_) (fun cdv A outer s H vs Q E hr h => ?_)
  · obtain ⟨a, p, x, y, rfl, _⟩ := h
    rfl
  · obtain ⟨a, p, x, y, rfl, hp, k⟩ := h
    refine ⟨_, (pss_one (ps_ret (pe_or (pe_and (pe_cmpR op_eq (p_ax KP (pv 0)) (pv 1) (nomark _)) (pe_one (pe_cmpR op_eq (p_ay KP (pv 0)) (pv 2) (nomark _)))) (pe_one (pe_and (pe_cmpR op_eq (p_bx KP (pv 0)) (pv 1) (nomark _)) (pe_one (pe_cmpR op_eq (p_by KP (pv 0)) (pv 2) (nomark _)))))))), ?_⟩
    have e : Mth.endsB p x y = (decide (V.int p.a.x = V.int x) && decide (V.int p.a.y = V.int y) || (decide (V.int p.b.x = V.int x) && decide (V.int p.b.y = V.int y))) := by
      unfold Mth.endsB; rw [dI, dI, dI, dI]
    rw [e] at k
    have third : (decide (V.int p.a.x = V.int x) && decide (V.int p.a.y = V.int y)) = false → tAndV (tOp rEq (tPc CP 0 fun p => p.b.x) (tVar 1)) (tOp rEq (tPc CP 0 fun p => p.b.y) (tVar 2)) (start ["piece", "x", "y"] [V.ref a, .int x, .int y]) H Q := fun z => by
      rw [z, Bool.false_or] at k
      refine ⟨a, p, rfl, hp, _, rfl, rfl, _, rfl, ite2 (fun q => ?_) (fun q => ?_)⟩
      · rw [q, Bool.true_and] at k
        exact ⟨a, p, rfl, hp, _, rfl, rfl, k⟩
      · rw [q, Bool.false_and] at k
        exact k
    refine ⟨a, p, rfl, hp, _, rfl, rfl, _, rfl, ite2 (fun q => ?_) (fun q => ?_)⟩
    · refine ⟨a, p, rfl, hp, _, rfl, rfl, _, rfl, ite2 (fun r => ?_) (fun r => ?_)⟩
      · rw [q, r] at k
        exact k
      · exact third (by rw [q, r]; rfl)
    · exact ⟨_, rfl, third (by rw [q]; rfl)⟩
theorem ok_share_an_end (KP : KPiece K mg CP) (O_ends_at : OkF P w K mg base 1 "ends_at" ["piece", "x", "y"] (spEnds CP)) (D : Dn K mg "share_an_end" s_share_an_end ["one", "other"]) : OkF P w K mg base 2 "share_an_end" ["one", "other"] (spShare CP) := D.ok fun f fd F => by
  refine F.ok sc_share_an_end (fun vs H Q E h => ?_) (fun cdv A outer s H vs Q E hr h => ?_)
  · obtain ⟨a, b, p, q, rfl, _⟩ := h
    rfl
  · obtain ⟨a, b, p, q, rfl, hp, hq, k⟩ := h
    refine ⟨_, (pss_one (ps_ret (pe_or (pcl O_ends_at hr (by decide) (pa_cons (pv 0) (pa_cons (p_ax KP (pv 1)) (pa_cons (p_ay KP (pv 1)) pa_nil)))) (pe_one (pcl O_ends_at hr (by decide) (pa_cons (pv 0) (pa_cons (p_bx KP (pv 1)) (pa_cons (p_by KP (pv 1)) pa_nil)))))))), ?_⟩
    refine ⟨_, rfl, b, q, rfl, hq, b, q, rfl, hq, a, p, _, _, rfl, hp, _, rfl, ite2 (fun r => ?_) (fun r => ?_)⟩
    · rw [r] at k
      exact k
    · rw [r] at k
      exact ⟨_, rfl, b, q, rfl, hq, b, q, rfl, hq, a, p, _, _, rfl, hp, k⟩
theorem ok_lie_over (KP : KPiece K mg CP) (T : Txt K mg) (O_length_square : OkF P w K mg base 2 "length_square" ["piece"] (spLen CP)) (O_along : OkF P w K mg base 1 "along" ["piece", "x", "y"] (spAlong CP)) (D : Dn K mg "lie_over" s_lie_over ["one", "other"]) :
    OkF P w K mg base 3 "lie_over" ["one", "other"] (spLie CP) := D.ok fun f fd F => by
  refine F.ok sc_lie_over (fun vs H Q E h => ?_) (fun cdv A outer s H vs Q E hr h => ?_)
  · obtain ⟨a, b, p, q, rfl, _⟩ := h
    rfl
  · obtain ⟨a, b, p, q, rfl, hp, hq, k⟩ := h
    obtain ⟨m1, m2, m3, m4⟩ := hq.1.sm
    refine ⟨_, (pss_cons (ps_set (i := 2) sc_lie_over.nd rfl (Or.inl rfl) (pcl O_along hr (by decide) (pa_cons (pv 0) (pa_cons (p_ax KP (pv 1)) (pa_cons (p_ay KP (pv 1)) pa_nil)))))
        (pss_cons (ps_set (i := 3) sc_lie_over.nd rfl (Or.inl rfl) (pcl O_along hr (by decide) (pa_cons (pv 0) (pa_cons (p_bx KP (pv 1)) (pa_cons (p_by KP (pv 1)) pa_nil)))))
        (pss_one (ps_ret (pe_cmpR op_lt (pe_callB (call_max2 rfl) (by rfl) T.b_max PyProof.Rows.boot_max (pa_cons pe_int (pa_cons (pe_callB (call_min2 rfl) (by rfl) T.b_min PyProof.Rows.boot_min (pa_cons (pv 2) (pa_cons (pv 3) pa_nil))) pa_nil))) (pe_callB (call_min2 rfl) (by rfl) T.b_min PyProof.Rows.boot_min (pa_cons (pcl O_length_square hr (by decide) (pa_cons (pv 0) pa_nil)) (pa_cons (pe_callB (call_max2 rfl) (by rfl) T.b_max PyProof.Rows.boot_max (pa_cons (pv 2) (pa_cons (pv 3) pa_nil))) pa_nil))) (nomark _)))))), ?_⟩
    exact ⟨_, rfl, b, q, rfl, hq, b, q, rfl, hq, a, p, _, _, rfl, hp, m1, m2, _, rfl, b, q, rfl, hq, b, q, rfl, hq, a, p, _, _, rfl, hp, m3, m4, _, rfl, _, rfl, _, _, rfl, _, _, rfl, _, rfl, a, p, rfl, hp, _, rfl, _, rfl, _, _, rfl, _, _, rfl, _, _, rfl, rfl, k⟩
theorem ok_meet_badly (KP : KPiece K mg CP) (T : Txt K mg) (O_lie_over : OkF P w K mg base 3 "lie_over" ["one", "other"] (spLie CP)) (O_aside : OkF P w K mg base 1 "aside" ["piece", "x", "y"] (spAside CP)) (O_share_an_end : OkF P w K mg base 2 "share_an_end" ["one", "other"] (spShare CP))
    (D : Dn K mg "meet_badly" s_meet_badly ["one", "other"]) : OkF P w K mg base 4 "meet_badly" ["one", "other"] (spBad CP) := D.ok fun f fd F => by
  refine F.ok sc_meet_badly (fun vs H Q E h => ?_) (fun cdv A outer s H vs Q E hr h => ?_)
  · obtain ⟨a, b, p, q, rfl, _⟩ := h
    rfl
  · obtain ⟨a, b, p, q, rfl, hp, hq, k⟩ := h
    obtain ⟨m1, m2, m3, m4⟩ := hq.1.sm
    obtain ⟨l1, l2, l3, l4⟩ := hp.1.sm
    have as2 := aside_lim
    refine ⟨_, (pss_cons (ps_set (i := 2) sc_meet_badly.nd rfl (Or.inl rfl) (pcl O_aside hr (by decide) (pa_cons (pv 0) (pa_cons (p_ax KP (pv 1)) (pa_cons (p_ay KP (pv 1)) pa_nil)))))
        (pss_cons (ps_set (i := 3) sc_meet_badly.nd rfl (Or.inl rfl) (pcl O_aside hr (by decide) (pa_cons (pv 0) (pa_cons (p_bx KP (pv 1)) (pa_cons (p_by KP (pv 1)) pa_nil)))))
        (pss_cons (ps_if (PW.pt (pw_and (pt_cmpR op_eq (pv 2) pe_int (nomark _)) (pw_and1 (pt_cmpR op_eq (pv 3) pe_int (nomark _))))) (pss_one (ps_ret (pcl O_lie_over hr (by decide) (pa_cons (pv 0) (pa_cons (pv 1) pa_nil))))) pss_nil)
        (pss_cons (ps_if (pt_val (pcl O_share_an_end hr (by decide) (pa_cons (pv 0) (pa_cons (pv 1) pa_nil)))) (pss_one (ps_ret pe_bl)) pss_nil)
        (pss_one (ps_ret (pe_and (pe_cmpR op_le (pe_op op_mul (pv 2) (pv 3)) pe_int (nomark _)) (pe_one (pe_cmpR op_le (pe_op op_mul (pcl O_aside hr (by decide) (pa_cons (pv 1) (pa_cons (p_ax KP (pv 0)) (pa_cons (p_ay KP (pv 0)) pa_nil)))) (pcl O_aside hr (by decide) (pa_cons (pv 1) (pa_cons (p_bx KP (pv 0)) (pa_cons (p_by KP (pv 0)) pa_nil))))) pe_int (nomark _)))))))))), ?_⟩
    unfold Mth.badB at k
    refine ⟨_, rfl, b, q, rfl, hq, b, q, rfl, hq, a, p, _, _, rfl, hp, m1, m2, _, rfl, b, q, rfl, hq, b, q, rfl, hq, a, p, _, _, rfl, hp, m3, m4, _, rfl, rfl, _, rfl, ite2 (fun r => ?_) (fun r => ?_)⟩
    · refine ⟨_, rfl, rfl, _, rfl, ite2 (fun r2 => ?_) (fun r2 => ?_)⟩
      · rw [dI] at r r2
        rw [if_pos ⟨dT r, dT r2⟩] at k
        exact ⟨_, rfl, _, rfl, a, b, p, q, rfl, hp, hq, k⟩
      · rw [dI] at r2
        rw [if_neg fun z => dF r2 z.2] at k
        refine ⟨_, rfl, _, rfl, a, b, p, q, rfl, hp, hq, _, rfl, ite2 (fun r => ?_) (fun r => ?_)⟩
        · rw [if_pos r] at k
          exact k
        · rw [if_neg (by rw [r]; exact Bool.false_ne_true)] at k
          refine ⟨_, rfl, _, rfl, _, _, rfl, rfl, .inl (as2 p _ _ hp.1 m1 m2), _, _, rfl, rfl, _, rfl, ite2 (fun r2 => ?_) (fun r2 => ?_)⟩
          · rw [r2, Bool.true_and] at k
            exact ⟨_, rfl, a, p, rfl, hp, a, p, rfl, hp, b, q, _, _, rfl, hq, l1, l2, _, rfl, a, p, rfl, hp, a, p, rfl, hp, b, q, _, _, rfl, hq, l3, l4, _, _, rfl, rfl, .inl (as2 q _ _ hq.1 l1 l2), _, _, rfl, rfl, k⟩
          · rw [r2, Bool.false_and] at k
            exact k
    · rw [dI] at r
      rw [if_neg fun z => dF r z.1] at k
      refine ⟨_, rfl, _, rfl, a, b, p, q, rfl, hp, hq, _, rfl, ite2 (fun r => ?_) (fun r => ?_)⟩
      · rw [if_pos r] at k
        exact k
      · rw [if_neg (by rw [r]; exact Bool.false_ne_true)] at k
        refine ⟨_, rfl, _, rfl, _, _, rfl, rfl, .inl (as2 p _ _ hp.1 m1 m2), _, _, rfl, rfl, _, rfl, ite2 (fun r2 => ?_) (fun r2 => ?_)⟩
        · rw [r2, Bool.true_and] at k
          exact ⟨_, rfl, a, p, rfl, hp, a, p, rfl, hp, b, q, _, _, rfl, hq, l1, l2, _, rfl, a, p, rfl, hp, a, p, rfl, hp, b, q, _, _, rfl, hq, l3, l4, _, _, rfl, rfl, .inl (as2 q _ _ hq.1 l1 l2), _, _, rfl, rfl, k⟩
        · rw [r2, Bool.false_and] at k
          exact k
end
end Tube
namespace Tube
open PySem PySem.Spec PyProof.Rows L2
open Neon (Piece Point Bytes Stroke)
/-! ### spelling.py -/
theorem lc_str {x : Str} {g : TG} {tt : TT} {te : TE} {vs : List Nat} {σ : L2.St} {H1 : Hp} {D : Addr} {Qd : Hp → Prop} (Pv : Nat → Hp → Prop) (h0 : Pv 0 (upd H1 D (.lst [])))
    (hs : ∀ i c H, x.cps[i]? = some c → Pv i H → g (.str ⟨#[c]⟩) (wipe σ vs) H fun σ2 H2 => wipe σ2 vs = wipe σ vs ∧ tt σ2 H2 fun b H3 =>
      if b = true then te σ2 H3 fun y H4 => ∃ acc, H4 D = some (.lst acc) ∧ acc.length < sizeLine ∧ Pv (i + 1) (upd H4 D (.lst (acc ++ [y]))) else Pv (i + 1) H3) (hd : ∀ H, Pv x.cps.size H → Qd H) :
    ∃ W : Nat → Nat → Hp → Prop, (∃ m, W 0 m (upd H1 D (.lst []))) ∧ ∀ i m H, W i m H →
      ((Its x).stop i H ∧ Qd H) ∨ ((Its x).go i H ∧ ∃ Nx : Hp → Prop, (∀ H', Nx H' → ∃ m', m' < m ∧ W (i + 1) m' H') ∧ ∀ y H', (Its x).yld i H y H' → g y (wipe σ vs) H' fun σ2 H2 => wipe σ2 vs = wipe σ vs ∧ tt σ2 H2 fun b H3 =>
        if b = true then te σ2 H3 fun y H4 => ∃ acc, H4 D = some (.lst acc) ∧ acc.length < sizeLine ∧ Nx (upd H4 D (.lst (acc ++ [y]))) else Nx H3) := by
  refine ⟨fun i m H => m = x.cps.size - i ∧ i ≤ x.cps.size ∧ Pv i H, ⟨x.cps.size, by simp, Nat.zero_le _, h0⟩, ?_⟩
  rintro i m H ⟨rfl, hi, p⟩
  by_cases hlt : i < x.cps.size
  · refine .inr ⟨hlt, Pv (i + 1), fun H' p' => ⟨x.cps.size - (i + 1), by omega, rfl, hlt, p'⟩, fun y H' z => ?_⟩
    obtain ⟨e, c, hc, z⟩ := z
    subst e z
    exact hs i c _ hc p
  · have e : i = x.cps.size := by omega
    subst e
    exact .inl ⟨Nat.le_refl _, hd H p⟩
theorem drop_at {α : Type} {l : List α} {i : Nat} {x : α} (h : l[i]? = some x) : l.drop i = x :: l.drop (i + 1) := by
  obtain ⟨hi, e⟩ := List.getElem?_eq_some_iff.mp h
  rw [List.drop_eq_getElem_cons hi, e]
theorem take_at {α : Type} {l : List α} {i : Nat} {x : α} (h : l[i]? = some x) : l.take (i + 1) = l.take i ++ [x] := by
  rw [List.take_succ, h]; rfl
theorem Each.on {α : Type} {R : Hp → Addr → α → Prop} {H H' : Hp} {as : List Addr} {xs : List α} (h : Each R H as xs) (f : ∀ a ∈ as, ∀ x, R H a x → R H' a x) : Each R H' as xs :=
  ⟨h.1, fun j a x h1 h2 => f a (List.mem_of_getElem? h1) x (h.2 j a x h1 h2)⟩
def spCut (K : PySem.W.Frag) : Sp := fun vs H Q _ => ∃ (a : Addr) (bs : Bytes) (c : UInt8), vs = [.ref a, .int (c.toNat : Nat)] ∧ SqL K H a (bs.map bV) ∧ bs.length ≤ 70000 ∧
  ∀ (H' : Hp) (l : Addr), Same H H' → LstOf BytesAt H' l (Neon.cutAt c bs) → Q (.ref l) H'
def spSpelled : Sp := fun vs H Q _ => ∃ x : Str, vs = [.str x] ∧ x.cps.size ≤ 100 ∧ ∀ (H' : Hp) (l : Addr), Same H H' → H' l = some (.lst (x.cps.toList.map fun c => V.int (c : Nat))) → Q (.ref l) H'
def spDig : Sp := fun vs H Q _ => ∃ b : Int, vs = [.int b] ∧ Q (.bl (Mth.isDig b)) H
def isNm (b : Int) : Bool := Mth.isDig b || ((decide (65 ≤ b) && decide (b ≤ 90)) || (decide (97 ≤ b) && decide (b ≤ 122)))
def spNm : Sp := fun vs H Q _ => ∃ b : Int, vs = [.int b] ∧ Q (.bl (isNm b)) H
def spSign : Sp := fun vs H Q _ => ∃ (a : Addr) (bs : Bytes), vs = [.ref a] ∧ BytesAt H a bs ∧ bs.length ≤ 70000 ∧ ∀ H' : Hp, Same H H' → Q (.bl (Neon.nameIn bs).isSome) H'
def numV (bs : Bytes) : V := match Neon.numberIn bs with
  | none => .non
  | some n => .int ((min n 4096 : Nat) : Int)
def spNum : Sp := fun vs H Q _ => ∃ (a : Addr) (bs : Bytes), vs = [.ref a] ∧ BytesAt H a bs ∧ Q (numV bs) H
def spPt : Sp := fun vs H Q _ => ∃ (a : Addr) (bs : Bytes), vs = [.ref a] ∧ BytesAt H a bs ∧ bs.length ≤ 70000 ∧ (Neon.pointIn bs = none → ∀ H' : Hp, Same H H' → Q .non H') ∧
  ∀ p, Neon.pointIn bs = some p → ∀ (H' : Hp) (t : Addr), Same H H' → PtAt H' t (Mth.capP p) → Q (.ref t) H'
def spPts : Sp := fun vs H Q _ => ∃ (a : Addr) (bs : Bytes), vs = [.ref a] ∧ BytesAt H a bs ∧ bs.length ≤ 70000 ∧ (Neon.strokeIn bs = none → ∀ H' : Hp, Same H H' → Q .non H') ∧
  ∀ s, Neon.strokeIn bs = some s → ∀ (H' : Hp) (l : Addr), Same H H' → LstOf PtAt H' l (s.map Mth.capP) → Q (.ref l) H'
section
variable {P : Program} {w : World} {K : PySem.W.Frag} {mg : Str → Option Value} {base : Heap}
set_option maxHeartbeats 2000000
theorem ok_cut (D : Dn K mg "cut" s_cut ["row", "mark"]) : OkF P w K mg base 1 "cut" ["row", "mark"] (spCut K) := D.ok fun f fd F => by
  refine F.ok sc_cut (fun vs H Q E h => ?_) (fun cdv A outer s H vs Q E hr h => ?_)
  · obtain ⟨a, bs, c, rfl, _⟩ := h
    rfl
  · obtain ⟨a, bs, c, rfl, hS, hlen, k⟩ := h
    refine ⟨_, (pss_cons (ps_set (i := 2) sc_cut.nd rfl (Or.inl rfl) (pe_lst pa_nil))
        (pss_cons (ps_set (i := 3) sc_cut.nd rfl (Or.inl rfl) (pe_lst pa_nil))
        (pss_cons (ps_for PassesOwn.never rfl (pi_list (pv 0)) (pg_name (i := 4) sc_cut.nd rfl (Or.inl rfl)) (pss_one (ps_if (pt_cmpR op_eq (pv 4) (pv 1) (nomark _)) (pss_cons (ps_expr (pe_bm PySem.F.plainAttrs_list PySem.F.slot_list_append PySem.F.type_list_append mt_append (pv 2) (pa_cons (pv 3) pa_nil)))
        (pss_one (ps_set (i := 3) sc_cut.nd rfl (Or.inl rfl) (pe_lst pa_nil)))) (pss_one (ps_expr (pe_bm PySem.F.plainAttrs_list PySem.F.slot_list_append PySem.F.type_list_append mt_append (pv 3) (pa_cons (pv 4) pa_nil)))))))
        (pss_cons (ps_expr (pe_bm PySem.F.plainAttrs_list PySem.F.slot_list_append PySem.F.type_list_append mt_append (pv 2) (pa_cons (pv 3) pa_nil)))
        (pss_one (ps_ret (pv 2))))))), ?_⟩
    refine ⟨Nat.zero_le _, fun l hl => ?_⟩
    refine ⟨Nat.zero_le _, fun q0 hq0 => ?_⟩
    have s0 : Same H (upd (upd H l (.lst [])) q0 (.lst [])) := (same_new hl).trans (same_new hq0)
    have hq0l : q0 ≠ l := fun e => by rw [e, upd_same] at hq0; cases hq0
    have hq0H : H q0 = none := (same_new hl).free hq0
    refine ⟨_, rfl, a, rfl, ⟨_, s0.seq hS⟩, for_list (K := K) (a := a) (xs := bs.map bV) (fun i σ H' => ∃ (q : Addr) (v : Option V) (as : List Addr) (ws : List Bytes) (cur : Bytes),
      σ = [some (.ref a), some (.int (c.toNat : Nat)), some (.ref l), some (.ref q), v] ∧ Same H H' ∧ H' l = some (.lst (as.map V.ref)) ∧ Each BytesAt H' as ws ∧ BytesAt H' q cur ∧ q ∉ as ∧ l ∉ as ∧ q ≠ l ∧ H q = none ∧
      Neon.cutAt c bs = ws ++ Mth.glue cur (Neon.cutAt c (bs.drop i)) ∧ as.length ≤ i ∧ cur.length ≤ i)
      ⟨q0, none, [], [], [], rfl, s0, (upd_ne hq0l.symm).trans upd_same, Each.nil, upd_same, by simp, by simp, hq0l, hq0H, by rw [List.nil_append, List.drop_zero, Mth.glue_nil (Mth.cut_ne _ _)], Nat.le_refl _, Nat.le_refl _⟩
      (fun i σ H' _ ⟨_, _, _, _, _, _, s5, _⟩ => s5.seq hS) ?_ ?_⟩
    · rintro i y σ H' hi ⟨q, v, as, ws, cur, rfl, s5, hL, hE, hQ, nq, nl, ql, qH, ce, c1, c2⟩
      obtain ⟨b, hb, rfl⟩ := map_at hi
      have hil : i < bs.length := (List.getElem?_eq_some_iff.mp hb).1
      rw [drop_at hb] at ce
      refine ⟨_, rfl, _, rfl, rfl, _, rfl, ite2 (fun r => ?_) (fun r => ?_)⟩
      · have r' : b = c := by
          have : V.int (b.toNat : Nat) = V.int (c.toNat : Nat) := dT r
          have h2 : b.toNat = c.toNat := Int.ofNat.inj (V.int.inj this)
          exact UInt8.toNat_inj.mp h2
        refine ⟨_, rfl, .inl ⟨rfl, _, SqL.of hL⟩, _, rfl, l, _, _, rfl, rfl, hL, (by rw [List.length_map]; exact Nat.lt_of_le_of_lt c1 (Nat.lt_of_lt_of_le hil (Nat.le_trans hlen (by decide)))), Nat.zero_le _, fun q2 hq2 => ?_⟩
        rw [Mth.glue_eq cur _ r'] at ce
        have hq2l : q2 ≠ l := fun e => by rw [e, upd_same] at hq2; cases hq2
        have hq2' : H' q2 = none := by rw [upd_ne hq2l] at hq2; exact hq2
        have kq : ∀ b, b ≠ l → b ≠ q2 → (upd (upd H' l (.lst (as.map V.ref ++ [.ref q]))) q2 (.lst [])) b = H' b := fun b h1 h2 => by rw [upd_ne h2, upd_ne h1]
        have qq2 : q ≠ q2 := ne_of_none hQ hq2'
        have asq : ∀ a ∈ as, a ≠ q2 := fun a ha => by
          obtain ⟨j, hj, rfl⟩ := List.mem_iff_getElem.mp ha
          obtain ⟨x, _, hx⟩ := hE.at' (List.getElem?_eq_getElem hj)
          exact ne_of_none hx hq2'
        refine ⟨q2, _, as ++ [q], ws ++ [cur], [], rfl, ?_, ?_, ?_, upd_same, ?_, ?_, hq2l, s5.free hq2', ?_, ?_, Nat.zero_le _⟩
        · intro b o e
          rw [kq b (ne_of_none e hl) (ne_of_none (s5 _ _ e) hq2')]
          exact s5 b o e
        · rw [upd_ne hq2l.symm, upd_same, List.map_append]
          rfl
        · refine Each.snoc (hE.on fun a ha x hx => ?_) ?_
          · show _ = _
            rw [kq a (fun e => nl (e ▸ ha)) (asq a ha)]
            exact hx
          · show _ = _
            rw [kq q ql qq2]
            exact hQ
        · intro hm
          rcases List.mem_append.mp hm with hm | hm
          · exact asq _ hm rfl
          · exact qq2 (List.mem_singleton.mp hm).symm
        · intro hm
          rcases List.mem_append.mp hm with hm | hm
          · exact nl hm
          · exact ql (List.mem_singleton.mp hm).symm
        · rw [ce, List.append_assoc]
          rfl
        · rw [List.length_append]
          exact Nat.add_le_add_right c1 1
      · have r' : ¬ b = c := fun e => dF r (by rw [e]; rfl)
        rw [Mth.glue_not cur _ r'] at ce
        refine ⟨_, rfl, .inl ⟨rfl, _, SqL.of hQ⟩, _, rfl, q, _, _, rfl, rfl, hQ, (by rw [List.length_map]; exact Nat.lt_of_le_of_lt c2 (Nat.lt_of_lt_of_le hil (Nat.le_trans hlen (by decide)))), ?_⟩
        refine ⟨q, _, as, ws, cur ++ [b], rfl, ?_, ?_, ?_, ?_, nq, nl, ql, qH, ce, Nat.le_succ_of_le c1, ?_⟩
        · intro b o e
          rw [upd_ne (ne_of_none e qH)]
          exact s5 b o e
        · rw [upd_ne ql.symm]
          exact hL
        · refine hE.on fun a ha x hx => ?_
          show _ = _
          rw [upd_ne (show a ≠ q from fun e => nq (e ▸ ha))]
          exact hx
        · show _ = _
          rw [upd_same, List.map_append]
          rfl
        · rw [List.length_append]
          exact Nat.add_le_add_right c2 1
    · rintro σ H' ⟨q, v, as, ws, cur, rfl, s5, hL, hE, hQ, nq, nl, ql, qH, ce, c1, c2⟩
      rw [List.length_map] at ce c1
      rw [List.drop_length, Mth.glue_end] at ce
      refine ⟨_, rfl, .inl ⟨rfl, _, SqL.of hL⟩, _, rfl, l, _, _, rfl, rfl, hL, (by rw [List.length_map]; exact Nat.lt_of_le_of_lt (Nat.le_trans c1 hlen) (by decide)), _, rfl, ?_⟩
      refine k _ l (fun b o e => by rw [upd_ne (ne_of_none e hl)]; exact s5 b o e) ⟨as ++ [q], by rw [upd_same, List.map_append]; rfl, ?_⟩
      rw [ce]
      refine Each.snoc (hE.on fun a ha x hx => ?_) ?_
      · show _ = _
        rw [upd_ne (show a ≠ l from fun e => nl (e ▸ ha))]
        exact hx
      · show _ = _
        rw [upd_ne ql]
        exact hQ
end
end Tube
namespace Tube
open PySem PySem.Spec PyProof.Rows L2
open Neon (Piece Point Bytes Stroke)
theorem iteT1 {A B : Prop} (a : A) : if true = true then A else B := by rw [if_pos rfl]; exact a
theorem iteF1 {A B : Prop} (b : B) : if false = true then A else B := by rw [if_neg Bool.false_ne_true]; exact b
theorem dp_ints {K : PySem.W.Frag} {H : Hp} : ∀ ns : List Int, DpAll K H (ns.map V.int) (ns.map PyData.int)
  | [] => .nil
  | n :: ns => .cons (.int n) (dp_ints ns)
theorem lay_ints : ∀ ns : List Int, PyData.canLayAll0 (ns.map PyData.int) = true
  | [] => by rw [List.map_nil, PyData.canLayAll0]
  | n :: ns => by rw [List.map_cons, PyData.canLayAll0, PyData.canLay0, lay_ints ns]; rfl
theorem dep_ints : ∀ ns : List Int, PyData.depthAll (ns.map PyData.int) ≤ 1
  | [] => by rw [List.map_nil, PyData.depthAll]; exact Nat.zero_le _
  | n :: ns => by
    have := dep_ints ns
    rw [List.map_cons, PyData.depthAll, PyData.depth]
    omega
theorem sh_list (ns : List Int) : SeqAt.shaped (.list (ns.map PyData.int)) = true := by
  unfold SeqAt.shaped
  rw [PyData.canLay0, lay_ints, PyData.depth, Bool.true_and, decide_eq_true_eq]
  have := dep_ints ns
  omega
theorem sh_tup (ns : List Int) : SeqAt.shaped (.tuple (ns.map PyData.int)) = true := by
  unfold SeqAt.shaped
  rw [PyData.canLay0, lay_ints, PyData.depth, Bool.true_and, decide_eq_true_eq]
  have := dep_ints ns
  omega
theorem eqv_ints : ∀ ms ns : List Int, PyData.eqvAll (ms.map PyData.int) (ns.map PyData.int) = decide (ms = ns)
  | [], [] => by rw [List.map_nil, PyData.eqvAll]; rfl
  | [], n :: ns => by rw [List.map_nil, List.map_cons, PyData.eqvAll]; rfl
  | m :: ms, [] => by rw [List.map_nil, List.map_cons, PyData.eqvAll]; rfl
  | m :: ms, n :: ns => by
    rw [List.map_cons, List.map_cons, PyData.eqvAll, PyData.eqv, eqv_ints ms ns]
    rw [Bool.eq_iff_iff, Bool.and_eq_true, beq_iff_eq, decide_eq_true_eq, decide_eq_true_eq, List.cons.injEq]
def zs (bs : Bytes) : List Int := bs.map fun b => (b.toNat : Int)
theorem bV_map (bs : Bytes) : bs.map bV = (zs bs).map V.int := by unfold zs; rw [List.map_map]; rfl
theorem zs_inj {a b : Bytes} (h : zs a = zs b) : a = b := by
  unfold zs at h
  refine List.map_inj_right (f := fun b : UInt8 => (b.toNat : Int)) (fun x y e => ?_) |>.mp h
  exact UInt8.toNat_inj.mp (Int.ofNat.inj e)
theorem nm_sign (c : UInt8) : isNm (c.toNat : Int) = Neon.isSign c := by
  unfold isNm Neon.isSign
  rw [Mth.dig_iff]
  have e1 : decide ((65 : Int) ≤ (c.toNat : Int)) = decide (65 ≤ c.toNat) := decide_eq_decide.mpr (by omega)
  have e2 : decide ((c.toNat : Int) ≤ 90) = decide (c.toNat ≤ 90) := decide_eq_decide.mpr (by omega)
  have e3 : decide ((97 : Int) ≤ (c.toNat : Int)) = decide (97 ≤ c.toNat) := decide_eq_decide.mpr (by omega)
  have e4 : decide ((c.toNat : Int) ≤ 122) = decide (c.toNat ≤ 122) := decide_eq_decide.mpr (by omega)
  rw [e1, e2, e3, e4]
  generalize (decide (48 ≤ c.toNat) && decide (c.toNat ≤ 57)) = x
  generalize (decide (65 ≤ c.toNat) && decide (c.toNat ≤ 90)) = y
  generalize (decide (97 ≤ c.toNat) && decide (c.toNat ≤ 122)) = z
  cases x <;> cases y <;> cases z <;> rfl
theorem two_of {α : Type} {l : List α} (h : l.length = 2) : ∃ a b, l = [a, b] := by
  match l, h with
  | [a, b], _ => exact ⟨a, b, rfl⟩
section
variable {P : Program} {w : World} {K : PySem.W.Frag} {mg : Str → Option Value} {base : Heap}
set_option maxHeartbeats 2000000
theorem ok_spelled (T : Txt K mg) (D : Dn K mg "spelled" s_spelled ["word"]) : OkF P w K mg base 1 "spelled" ["word"] spSpelled := D.ok fun f fd F => by
  refine F.ok sc_spelled (fun vs H Q E h => ?_) (fun cdv A outer s H vs Q E hr h => ?_)
  · obtain ⟨x, rfl, _⟩ := h
    rfl
  · obtain ⟨x, rfl, hx, k⟩ := h
    refine ⟨_, (pss_one (ps_ret (pe_lc (own := [("letter", 1)]) rfl sc_spelled.nd (pi_str (pv 0)) (blkOk_by (by show blkC ["word", "letter"] (defScope s_spelled) _ _ = true; decide +kernel)) (fun _ _ _ _ _ => pg_name (i := 1) sc_spelled.nd rfl (Or.inl rfl) (Or.inr rfl)) (fun _ _ _ _ _ => pts_nil) (fun _ _ _ _ _ => (pe_callB call_ord (by rfl) T.b_ord PyProof.Rows.boot_ord (pa_cons (pv 1) pa_nil)))))), ?_⟩
    refine ⟨_, rfl, x, rfl, fun D hD => lc_str (fun i H' => Same H H' ∧ H' D = some (.lst ((x.cps.toList.take i).map fun c => V.int (c : Nat)))) ⟨same_new hD, by rw [upd_same]; rfl⟩ (fun i c H' hc ⟨s1, hD'⟩ => ?_) (fun H' ⟨s1, hD'⟩ => ?_)⟩
    · have hc' : x.cps.toList[i]? = some c := by rw [Array.getElem?_toList]; exact hc
      have hi : i < x.cps.size := (Array.getElem?_eq_some_iff.mp hc).1
      refine ⟨rfl, yesT ⟨_, rfl, _, rfl, rfl, _, hD', ?_, ?_, ?_⟩⟩
      · rw [List.length_map, List.length_take]
        exact Nat.lt_of_le_of_lt (Nat.min_le_left _ _) (Nat.lt_of_lt_of_le hi (Nat.le_trans hx (by decide)))
      · exact fun b o e => by rw [upd_ne (ne_of_none e hD)]; exact s1 b o e
      · rw [upd_same, take_at hc', List.map_append]
        rfl
    · refine k H' D s1 ?_
      rw [hD', List.take_of_length_le (by simp)]
theorem ok_is_digit (T : Txt K mg) (D : Dn K mg "is_digit" s_is_digit ["byte"]) : OkF P w K mg base 1 "is_digit" ["byte"] spDig := D.ok fun f fd F => by
  refine F.ok sc_is_digit (fun vs H Q E h => ?_) (fun cdv A outer s H vs Q E hr h => ?_)
  · obtain ⟨b, rfl, _⟩ := h
    rfl
  · obtain ⟨b, rfl, k⟩ := h
    unfold Mth.isDig at k
    refine ⟨_, (pss_one (ps_ret (pe_chain op_le op_le (pgl T.c_ZERO) (pv 0) (pgl T.c_NINE)))), ?_⟩
    refine ⟨_, rfl, _, _, rfl, rfl, _, rfl, ite2 (fun q => ?_) (fun q => ?_)⟩
    · rw [q, Bool.true_and] at k
      exact ⟨_, _, rfl, rfl, k⟩
    · rw [q, Bool.false_and] at k
      exact k
theorem ok_is_name_byte (T : Txt K mg) (O_is_digit : OkF P w K mg base 1 "is_digit" ["byte"] spDig) (D : Dn K mg "is_name_byte" s_is_name_byte ["byte"]) : OkF P w K mg base 2 "is_name_byte" ["byte"] spNm := D.ok fun f fd F => by
  refine F.ok sc_is_name_byte (fun vs H Q E h => ?_) (fun cdv A outer s H vs Q E hr h => ?_)
  · obtain ⟨b, rfl, _⟩ := h
    rfl
  · obtain ⟨b, rfl, k⟩ := h
    unfold isNm at k
    refine ⟨_, (pss_one (ps_ret (pe_or (pcl O_is_digit hr (by decide) (pa_cons (pv 0) pa_nil)) (pe_or (pe_chain op_le op_le (pe_callB call_ord (by rfl) T.b_ord PyProof.Rows.boot_ord (pa_cons pe_str pa_nil)) (pv 0) (pe_callB call_ord (by rfl) T.b_ord PyProof.Rows.boot_ord (pa_cons pe_str pa_nil))) (pe_one (pe_chain op_le op_le (pe_callB call_ord (by rfl) T.b_ord PyProof.Rows.boot_ord (pa_cons pe_str pa_nil)) (pv 0) (pe_callB call_ord (by rfl) T.b_ord PyProof.Rows.boot_ord (pa_cons pe_str pa_nil)))))))), ?_⟩
    refine ⟨_, rfl, _, rfl, _, rfl, ite2 (fun q => ?_) (fun q => ?_)⟩
    · rw [q, Bool.true_or] at k
      exact k
    · rw [q, Bool.false_or] at k
      refine ⟨_, rfl, rfl, _, rfl, _, _, rfl, rfl, _, rfl, ite2 (fun r => ?_) (fun r => ?_)⟩
      · have r : decide ((65 : Int) ≤ b) = true := r
        rw [r, Bool.true_and] at k
        refine ⟨_, rfl, rfl, _, _, rfl, rfl, _, rfl, ite2 (fun t => ?_) (fun t => ?_)⟩
        · have t : decide (b ≤ (90 : Int)) = true := t
          rw [t, Bool.true_or] at k
          exact k
        · have t : decide (b ≤ (90 : Int)) = false := t
          rw [t, Bool.false_or] at k
          refine ⟨_, rfl, rfl, _, rfl, _, _, rfl, rfl, _, rfl, ite2 (fun u => ?_) (fun u => ?_)⟩
          · have u : decide ((97 : Int) ≤ b) = true := u
            rw [u, Bool.true_and] at k
            exact ⟨_, rfl, rfl, _, _, rfl, rfl, k⟩
          · have u : decide ((97 : Int) ≤ b) = false := u
            rw [u, Bool.false_and] at k
            exact k
      · have r : decide ((65 : Int) ≤ b) = false := r
        rw [r, Bool.false_and, Bool.false_or] at k
        refine ⟨_, rfl, _, rfl, rfl, _, rfl, _, _, rfl, rfl, _, rfl, ite2 (fun u => ?_) (fun u => ?_)⟩
        · have u : decide ((97 : Int) ≤ b) = true := u
          rw [u, Bool.true_and] at k
          exact ⟨_, rfl, rfl, _, _, rfl, rfl, k⟩
        · have u : decide ((97 : Int) ≤ b) = false := u
          rw [u, Bool.false_and] at k
          exact k
end
end Tube
namespace Tube
open PySem PySem.Spec PyProof.Rows L2
open Neon (Piece Point Bytes Stroke)
theorem ifS_of {tc : TT} {t u : TS} {D : Ends} {σ : L2.St} {H : Hp} {c : Bool} (h : ∀ Q' : Bool → Hp → Prop, Q' c H → tc σ H Q') (q : if c = true then t D σ H else u D σ H) : tIfS tc t u D σ H := h _ q
theorem ixL {X : Cx} {K : PySem.W.Frag} (h : X.K = K) : IxR X (rIxL K) := h ▸ ix_list
theorem nextI {D : Ends} {σ : L2.St} {H : Hp} (h : D.nx σ H) : tNext D σ H := h
theorem cut_tail (xs : List V) : cutV xs (some 1) none = xs.drop 1 := by
  unfold cutV
  have e1 : HT.sIx xs.length 0 (some 1) = min 1 xs.length := rfl
  have e2 : HT.sIx xs.length xs.length none = xs.length := rfl
  rw [e1, e2]
  rw [List.take_of_length_le (by rw [List.length_drop]; omega)]
  by_cases h : 1 ≤ xs.length
  · rw [Nat.min_eq_left h]
  · rw [Nat.min_eq_right (by omega), List.drop_eq_nil_of_le (by omega), List.drop_eq_nil_of_le (by omega)]
theorem mapM_snoc {α β : Type} {f : α → Option β} : ∀ {l : List α} {ys : List β} {x : α} {y : β}, l.mapM f = some ys → f x = some y → (l ++ [x]).mapM f = some (ys ++ [y])
  | [], ys, x, y, h, e => by
    simp at h
    subst h
    simp [e]
  | a :: l, ys, x, y, h, e => by
    rw [List.mapM_cons] at h
    cases h1 : f a with
    | none => rw [h1] at h; simp at h
    | some b =>
      rw [h1] at h
      cases h2 : l.mapM f with
      | none => rw [h2] at h; simp at h
      | some bs =>
        rw [h2] at h
        simp at h
        subst h
        have := mapM_snoc h2 e
        rw [List.cons_append, List.mapM_cons, h1, this]
        simp
theorem mapM_none {α β : Type} {f : α → Option β} : ∀ {l : List α} {x : α} {r : List α}, f x = none → (l ++ x :: r).mapM f = none
  | [], x, r, e => by rw [List.nil_append, List.mapM_cons, e]; rfl
  | a :: l, x, r, e => by
    rw [List.cons_append, List.mapM_cons, mapM_none e]
    cases f a <;> rfl
theorem ascii_sign : zs (Neon.ascii "sign") = ("sign" : Str).cps.toList.map fun c => ((c : Nat) : Int) := by decide +kernel
theorem ascii_stroke : zs (Neon.ascii "stroke") = ("stroke" : Str).cps.toList.map fun c => ((c : Nat) : Int) := by decide +kernel
/-- a list of bytes against a word's: != -/
theorem ne_word {K : PySem.W.Frag} {H : Hp} {a b : Addr} {w v : Bytes} {x : Str} {Q : VK} (ha : BytesAt H a w) (hb : H b = some (.lst (x.cps.toList.map fun c => V.int (c : Nat)))) (e : zs v = x.cps.toList.map fun c => ((c : Nat) : Int))
    (q : Q (.bl (!decide (w = v))) H) : rNeD K (.ref a) (.ref b) H Q := by
  have e2 : (x.cps.toList.map fun c => V.int (c : Nat)) = (zs v).map V.int := by rw [e, List.map_map]; rfl
  have e3 : decide (w = v) = decide (zs w = zs v) := decide_eq_decide.mpr ⟨fun h => by rw [h], zs_inj⟩
  refine ⟨.list ((zs w).map PyData.int), .list ((zs v).map PyData.int), .lst (SqL.of ha) (by rw [bV_map]; exact dp_ints _), .lst (SqL.of hb) (by rw [e2]; exact dp_ints _), sh_list _, sh_list _, ?_⟩
  rw [PyData.eqv, eqv_ints, ← e3]
  exact q
section
variable {P : Program} {w : World} {K : PySem.W.Frag} {mg : Str → Option Value} {base : Heap}
set_option maxHeartbeats 4000000
theorem ok_is_sign_line (T : Txt K mg) (O_cut : OkF P w K mg base 1 "cut" ["row", "mark"] (spCut K)) (O_spelled : OkF P w K mg base 1 "spelled" ["word"] spSpelled) (O_is_name_byte : OkF P w K mg base 2 "is_name_byte" ["byte"] spNm)
    (D : Dn K mg "is_sign_line" s_is_sign_line ["row"]) : OkF P w K mg base 3 "is_sign_line" ["row"] spSign := D.ok fun f fd F => by
  refine F.ok sc_is_sign_line (fun vs H Q E h => ?_) (fun cdv A outer s H vs Q E hr h => ?_)
  · obtain ⟨a, bs, rfl, _⟩ := h
    rfl
  · obtain ⟨a, bs, rfl, hB, hlen, k⟩ := h
    have hu := hr.units
    refine ⟨_, (pss_cons (ps_set (i := 1) sc_is_sign_line.nd rfl (Or.inl rfl) (pcl O_cut hr (by decide) (pa_cons (pv 0) (pa_cons (pgl T.c_BLANK) pa_nil))))
        (pss_cons (ps_if (PW.pt (pw_or (pt_cmpR op_ne (pe_callB call_len_seq (by rfl) T.b_len PySem.boot_len (pa_cons (pv 1) pa_nil)) pe_int (nomark _)) (pw_or1 (pt_cmpR (op_neD hu) (pe_ix ix_list (pv 1) pe_int (fun _ _ => rfl)) (pcl O_spelled hr (by decide) (pa_cons pe_str pa_nil)) (nomark _))))) (pss_one (ps_ret pe_bl)) pss_nil)
        (pss_cons (ps_set (i := 2) sc_is_sign_line.nd rfl (Or.inl rfl) (pe_ix ix_list (pv 1) pe_int (fun _ _ => rfl)))
        (pss_one (ps_ret (pe_and (pe_chain op_le op_le pe_int (pe_callB call_len_seq (by rfl) T.b_len PySem.boot_len (pa_cons (pv 2) pa_nil)) (pgl T.c_LONGEST_NAME)) (pe_one (pe_callB (cr_all rfl) (by rfl) T.b_all PyProof.Rows.boot_all (pa_cons (pe_lc (own := [("byte", 3)]) rfl sc_is_sign_line.nd (pi_list (pv 2)) (blkOk_by (by show blkC ["row", "words", "name", "byte"] (defScope s_is_sign_line) _ _ = true; decide +kernel)) (fun _ _ _ _ _ => pg_name (i := 3) sc_is_sign_line.nd rfl (Or.inl rfl) (Or.inr rfl)) (fun _ _ _ _ _ => pts_nil) (fun _ _ _ _ _ => (pcl O_is_name_byte hr (by decide) (pa_cons (pv 3) pa_nil)))) pa_nil))))))))), ?_⟩
    refine ⟨_, rfl, a, bs, 32, rfl, SqL.of hB, hlen, fun H1 l s1 hw => ?_⟩
    obtain ⟨as, hL, hE⟩ := hw
    refine ⟨_, rfl, l, _, rfl, .inl (SqL.of hL), rfl, _, rfl, ite2 (fun r => ?_) (fun r => ?_)⟩
    · have r := dF (nF r)
      refine iteT1 ?_
      have e : (Neon.nameIn bs).isSome = false := by
        unfold Neon.nameIn
        split
        · next h =>
          exfalso
          apply r
          rw [List.length_map, hE.1, h]
          rfl
        · rfl
      have k' := k H1 s1
      rw [e] at k'
      exact k'
    · have r := dT (nT r)
      have r' : as.length = 2 := by
        have := V.int.inj r
        rw [List.length_map] at this
        exact Int.ofNat.inj this
      obtain ⟨a0, a1, rfl⟩ := two_of r'
      obtain ⟨w0, w1, hws⟩ := two_of (hE.1.symm.trans r')
      rw [hws] at hE
      have h0 : BytesAt H1 a0 w0 := hE.2 0 _ _ rfl rfl
      have h1 : BytesAt H1 a1 w1 := hE.2 1 _ _ rfl rfl
      have lw : w1.length ≤ 70000 := by
        have := (Mth.cut_len 32 bs).2 w1 (by rw [hws]; simp)
        omega
      refine ⟨_, rfl, l, _, _, _, rfl, rfl, SqL.of hL, atI_nat (j := 0) rfl, "sign", rfl, (by decide +kernel), fun H2 l2 s2 hl2 => ?_⟩
      refine ne_word (s2 _ _ h0) hl2 ascii_sign ⟨_, rfl, ite2 (fun r2 => ?_) (fun r2 => ?_)⟩
      · have r2 := dF (nF r2)
        have e : (Neon.nameIn bs).isSome = false := by
          unfold Neon.nameIn
          rw [hws]
          show (if w0 = Neon.ascii "sign" ∧ Neon.isName w1 = true then some w1 else none).isSome = false
          rw [if_neg fun z => r2 z.1]
          rfl
        have k' := k H2 (s1.trans s2)
        rw [e] at k'
        exact k'
      · have r2 := dT (nT r2)
        have e : (Neon.nameIn bs).isSome = Neon.isName w1 := by
          unfold Neon.nameIn
          rw [hws]
          show (if w0 = Neon.ascii "sign" ∧ Neon.isName w1 = true then some w1 else none).isSome = _
          cases q : Neon.isName w1 with
          | true => rw [if_pos ⟨r2, rfl⟩]; rfl
          | false => rw [if_neg fun z => Bool.false_ne_true z.2]; rfl
        rw [e] at k
        unfold Neon.isName at k
        have h1' := s2 _ _ h1
        have f1 : decide ((1 : Int) ≤ ((w1.map bV).length : Nat)) = decide (1 ≤ w1.length) := by rw [List.length_map]; exact decide_eq_decide.mpr (by omega)
        have f2 : decide ((((w1.map bV).length : Nat) : Int) ≤ 12) = decide (w1.length ≤ 12) := by rw [List.length_map]; exact decide_eq_decide.mpr (by omega)
        refine ⟨_, rfl, l, _, _, _, rfl, rfl, SqL.of (s2 _ _ hL), atI_nat (j := 1) rfl, _, rfl, a1, _, rfl, .inl (SqL.of h1'), _, _, rfl, rfl, _, rfl, ite2 (fun t => ?_) (fun t => ?_)⟩
        · rw [f1] at t
          rw [t, Bool.true_and] at k
          refine ⟨_, _, rfl, rfl, _, rfl, ite2 (fun u => ?_) (fun u => ?_)⟩
          · rw [f2] at u
            rw [u, Bool.true_and] at k
            refine ⟨_, rfl, a1, rfl, ⟨_, SqL.of h1'⟩, fun D hD => lc_list (K := K) (a := a1) (xs := w1.map bV) (fun i H' => Same H2 H' ∧ H' D = some (.lst ((w1.take i).map fun b => V.bl (isNm (b.toNat : Nat))))) ⟨same_new hD, by rw [upd_same]; rfl⟩
              (fun i H' _ ⟨s3, _⟩ => SqL.of (s3 _ _ h1')) (fun i y H' hi ⟨s3, hD'⟩ => ?_) (fun H' ⟨s3, hD'⟩ => ?_)⟩
            · obtain ⟨b, hb, rfl⟩ := map_at hi
              have hil : i < w1.length := (List.getElem?_eq_some_iff.mp hb).1
              refine ⟨rfl, yesT ⟨_, rfl, _, rfl, _, hD', ?_, ?_, ?_⟩⟩
              · rw [List.length_map, List.length_take]
                exact Nat.lt_of_le_of_lt (Nat.min_le_left _ _) (Nat.lt_of_lt_of_le hil (Nat.le_trans lw (by decide)))
              · exact fun b o e => by rw [upd_ne (ne_of_none e hD)]; exact s3 b o e
              · rw [upd_same, take_at hb, List.map_append]
                rfl
            · rw [List.length_map, List.take_length] at hD'
              refine ⟨D, w1.map fun b => isNm (b.toNat : Nat), rfl, SqL.of (by rw [hD', List.map_map]; rfl), ?_⟩
              have e3 : (w1.map fun b => isNm (b.toNat : Nat)).all id = w1.all Neon.isSign := by
                rw [List.all_map]
                show w1.all (fun b => isNm (b.toNat : Nat)) = _
                congr 1
                funext b
                exact nm_sign b
              rw [e3]
              exact k H' ((s1.trans s2).trans s3)
          · rw [f2] at u
            rw [u, Bool.false_and] at k
            exact k H2 (s1.trans s2)
        · rw [f1] at t
          rw [t, Bool.false_and] at k
          exact ⟨_, rfl, iteF1 (k H2 (s1.trans s2))⟩
theorem ok_read_number (T : Txt K mg) (O_is_digit : OkF P w K mg base 1 "is_digit" ["byte"] spDig) (D : Dn K mg "read_number" s_read_number ["digits"]) : OkF P w K mg base 2 "read_number" ["digits"] spNum := D.ok fun f fd F => by
  refine F.ok sc_read_number (fun vs H Q E h => ?_) (fun cdv A outer s H vs Q E hr h => ?_)
  · obtain ⟨a, bs, rfl, _⟩ := h
    rfl
  · obtain ⟨a, bs, rfl, hB, k⟩ := h
    refine ⟨_, (pss_cons (ps_if (PW.pt (pw_or (pt_cmpR op_eq (pe_callB call_len_seq (by rfl) T.b_len PySem.boot_len (pa_cons (pv 0) pa_nil)) pe_int (nomark _)) (pw_or1 (PW.pt (pw_and (pt_cmpR op_gt (pe_callB call_len_seq (by rfl) T.b_len PySem.boot_len (pa_cons (pv 0) pa_nil)) pe_int (nomark _)) (pw_and1 (pt_cmpR op_eq (pe_ix ix_list (pv 0) pe_int (fun _ _ => rfl)) (pgl T.c_ZERO) (nomark _)))))))) (pss_one (ps_ret pe_non)) pss_nil)
        (pss_cons (ps_set (i := 1) sc_read_number.nd rfl (Or.inl rfl) pe_int)
        (pss_cons (ps_for PassesOwn.never rfl (pi_list (pv 0)) (pg_name (i := 2) sc_read_number.nd rfl (Or.inl rfl)) (pss_cons (ps_if (pt_not (pt_val (pcl O_is_digit hr (by decide) (pa_cons (pv 2) pa_nil)))) (pss_one (ps_ret pe_non)) pss_nil)
        (pss_one (ps_set (i := 1) sc_read_number.nd rfl (Or.inl rfl) (pe_callB (call_min2 rfl) (by rfl) T.b_min PyProof.Rows.boot_min (pa_cons (pe_op op_sub (pe_op op_add (pe_op op_mul (pv 1) pe_int) (pv 2)) (pgl T.c_ZERO)) (pa_cons (pe_op op_add (pgl T.c_FARTHEST) pe_int) pa_nil)))))))
        (pss_one (ps_ret (pv 1)))))), ?_⟩
    refine ifS_of (c := decide (bs = [] ∨ (1 < bs.length ∧ bs.head? = some 48))) (fun Q' hq => ?_) (ite2 (fun r => ?_) (fun r => ?_))
    · refine ⟨_, rfl, a, _, rfl, .inl (SqL.of hB), rfl, _, rfl, ite2 (fun r => ?_) (fun r => ?_)⟩
      · have r := V.int.inj (dT r)
        have e : bs = [] := by
          rw [List.length_map] at r
          exact List.length_eq_zero_iff.mp (Int.ofNat.inj r)
        rw [decide_eq_true (.inl e)] at hq
        exact hq
      · have r := dF r
        have ne : bs ≠ [] := fun e => r (by rw [e]; rfl)
        refine ⟨_, rfl, a, _, rfl, .inl (SqL.of hB), _, _, rfl, rfl, _, rfl, ite2 (fun t => ?_) (fun t => ?_)⟩
        · have t : (1 : Int) < ((bs.map bV).length : Nat) := dT t
          rw [List.length_map] at t
          obtain ⟨b0, rest, rfl⟩ : ∃ b0 rest, bs = b0 :: rest := by
            cases bs with
            | nil => exact absurd rfl ne
            | cons x y => exact ⟨x, y, rfl⟩
          refine ⟨_, rfl, a, _, _, _, rfl, rfl, SqL.of hB, atI_nat (j := 0) rfl, rfl, _, rfl, ?_⟩
          have e : decide (b0 :: rest = [] ∨ (1 < (b0 :: rest).length ∧ (b0 :: rest).head? = some 48)) = decide (bV b0 = V.int 48) := by
            apply decide_eq_decide.mpr
            constructor
            · rintro (z | z)
              · cases z
              · have z2 : b0 = 48 := Option.some.inj z.2
                rw [z2]
                rfl
            · intro z
              refine .inr ⟨by omega, ?_⟩
              have z2 : b0.toNat = (48 : UInt8).toNat := Int.ofNat.inj (V.int.inj z)
              rw [UInt8.toNat_inj.mp z2]
              rfl
          rw [e] at hq
          exact hq
        · have t : ¬ (1 : Int) < ((bs.map bV).length : Nat) := dF t
          rw [List.length_map] at t
          rw [decide_eq_false (by
            rintro (z | z)
            · exact ne z
            · omega)] at hq
          exact hq
    · have r := dT r
      have e : numV bs = .non := by unfold numV; rw [Mth.num_none r]
      rw [e] at k
      exact k
    · have r := dF r
      refine ⟨_, rfl, a, rfl, ⟨_, SqL.of hB⟩, for_list (K := K) (a := a) (xs := bs.map bV) (fun i σ H' => H' = H ∧ (∃ v, σ = [some (.ref a), some (.int ((min (Mth.val (bs.take i)) 4096 : Nat) : Int)), v]) ∧ ∀ c ∈ bs.take i, Mth.isDig (c.toNat : Int) = true)
        ⟨rfl, ⟨none, rfl⟩, by simp⟩ (fun i σ H' _ ⟨e, _⟩ => by rw [e]; exact SqL.of hB) ?_ ?_⟩
      · rintro i y σ H' hi ⟨rfl, ⟨v, rfl⟩, hd⟩
        obtain ⟨b, hb, rfl⟩ := map_at hi
        refine ⟨_, rfl, _, rfl, _, rfl, ite2 (fun q => ?_) (fun q => ?_)⟩
        · have e : numV bs = .non := by unfold numV; rw [Mth.num_bad (List.mem_of_getElem? hb) (nF q)]
          rw [e] at k
          exact k
        · have q := nT q
          refine ⟨_, rfl, _, _, rfl, rfl, .inr ⟨by decide, by decide⟩, _, rfl, _, _, rfl, rfl, _, _, rfl, rfl, _, _, rfl, rfl, _, _, rfl, rfl, ⟨some (bV b), ?_⟩, ?_⟩
          · have e := Mth.cap_step (Mth.val (bs.take i)) b.toNat (b.toNat : Int) q rfl
            rw [← Mth.val_snoc, ← take_at hb] at e
            exact congrArg (fun z => [some (V.ref a), some (V.int z), some (bV b)]) e
          · intro c hc
            rw [take_at hb] at hc
            rcases List.mem_append.mp hc with hc | hc
            · exact hd c hc
            · rw [List.mem_singleton.mp hc]
              exact q
      · rintro σ H' ⟨rfl, ⟨v, rfl⟩, hd⟩
        rw [List.length_map, List.take_length] at hd
        have e : numV bs = .int ((min (Mth.val bs) 4096 : Nat) : Int) := by unfold numV; rw [Mth.num_some r hd]
        rw [e] at k
        refine ⟨_, rfl, ?_⟩
        rw [List.length_map, List.take_length]
        exact k
end
end Tube
namespace Tube
open PySem PySem.Spec PyProof.Rows L2
open Neon (Piece Point Bytes Stroke)
theorem numV_none {bs : Bytes} (h : Neon.numberIn bs = none) : numV bs = .non := by unfold numV; rw [h]
theorem numV_some {bs : Bytes} {n : Nat} (h : Neon.numberIn bs = some n) : numV bs = .int ((min n 4096 : Nat) : Int) := by unfold numV; rw [h]
theorem sOff {H H' : Hp} {l : Addr} {o : HO} (hl : H l = none) (s : Same H H') : Same H (upd H' l o) := fun b u e => by rw [upd_ne (ne_of_none e hl)]; exact s b u e
section
variable {P : Program} {w : World} {K : PySem.W.Frag} {mg : Str → Option Value} {base : Heap}
set_option maxHeartbeats 4000000
theorem ok_read_point (T : Txt K mg) (O_cut : OkF P w K mg base 1 "cut" ["row", "mark"] (spCut K)) (O_read_number : OkF P w K mg base 2 "read_number" ["digits"] spNum)
    (D : Dn K mg "read_point" s_read_point ["word"]) : OkF P w K mg base 3 "read_point" ["word"] spPt := D.ok fun f fd F => by
  refine F.ok sc_read_point (fun vs H Q E h => ?_) (fun cdv A outer s H vs Q E hr h => ?_)
  · obtain ⟨a, bs, rfl, _⟩ := h
    rfl
  · obtain ⟨a, bs, rfl, hB, hlen, k1, k2⟩ := h
    refine ⟨_, (pss_cons (ps_set (i := 1) sc_read_point.nd rfl (Or.inl rfl) (pcl O_cut hr (by decide) (pa_cons (pv 0) (pa_cons (pgl T.c_COMMA) pa_nil))))
        (pss_cons (ps_if (pt_cmpR op_ne (pe_callB call_len_seq (by rfl) T.b_len PySem.boot_len (pa_cons (pv 1) pa_nil)) pe_int (nomark _)) (pss_one (ps_ret pe_non)) pss_nil)
        (pss_cons (ps_set (i := 2) sc_read_point.nd rfl (Or.inl rfl) (pcl O_read_number hr (by decide) (pa_cons (pe_ix ix_list (pv 1) pe_int (fun _ _ => rfl)) pa_nil)))
        (pss_cons (ps_set (i := 3) sc_read_point.nd rfl (Or.inl rfl) (pcl O_read_number hr (by decide) (pa_cons (pe_ix ix_list (pv 1) pe_int (fun _ _ => rfl)) pa_nil)))
        (pss_cons (ps_if (PW.pt (pw_or (pt_cmpR op_isN (pv 2) pe_non (nomark _)) (pw_or1 (pt_cmpR op_isN (pv 3) pe_non (nomark _))))) (pss_one (ps_ret pe_non)) pss_nil)
        (pss_one (ps_ret (pe_tup (pa_cons (pv 2) (pa_cons (pv 3) pa_nil)))))))))), ?_⟩
    refine ⟨_, rfl, a, bs, 44, rfl, SqL.of hB, hlen, fun H1 l s1 hw => ?_⟩
    obtain ⟨as, hL, hE⟩ := hw
    refine ⟨_, rfl, l, _, rfl, .inl (SqL.of hL), rfl, _, rfl, ite2 (fun r => ?_) (fun r => ?_)⟩
    · have r := dF (nF r)
      refine k1 ?_ H1 s1
      unfold Neon.pointIn
      split
      · next h =>
        exfalso
        apply r
        rw [List.length_map, hE.1, h]
        rfl
      · rfl
    · have r := dT (nT r)
      have r' : as.length = 2 := by
        have := V.int.inj r
        rw [List.length_map] at this
        exact Int.ofNat.inj this
      obtain ⟨a0, a1, rfl⟩ := two_of r'
      obtain ⟨w0, w1, hws⟩ := two_of (hE.1.symm.trans r')
      rw [hws] at hE
      have h0 : BytesAt H1 a0 w0 := hE.2 0 _ _ rfl rfl
      have h1 : BytesAt H1 a1 w1 := hE.2 1 _ _ rfl rfl
      refine ⟨_, rfl, l, _, _, _, rfl, rfl, SqL.of hL, atI_nat (j := 0) rfl, a0, w0, rfl, h0, ?_⟩
      refine ⟨_, rfl, l, _, _, _, rfl, rfl, SqL.of hL, atI_nat (j := 1) rfl, a1, w1, rfl, h1, ?_⟩
      cases n0 : Neon.numberIn w0 with
      | none =>
        rw [numV_none n0]
        refine ⟨_, rfl, rfl, _, rfl, ite2 (fun _ => iteT1 ?_) (fun q => absurd rfl (dF q))⟩
        exact k1 (by unfold Neon.pointIn; rw [hws]; simp only [n0]) H1 s1
      | some x =>
        rw [numV_some n0]
        cases n1 : Neon.numberIn w1 with
        | none =>
          rw [numV_none n1]
          refine ⟨_, rfl, rfl, _, rfl, ite2 (fun q => by cases dT q) (fun _ => ⟨_, rfl, rfl, _, rfl, ite2 (fun _ => ?_) (fun q => absurd rfl (dF q))⟩)⟩
          exact k1 (by unfold Neon.pointIn; rw [hws]; simp only [n0, n1]) H1 s1
        | some y =>
          rw [numV_some n1]
          refine ⟨_, rfl, rfl, _, rfl, ite2 (fun q => by cases dT q) (fun _ => ⟨_, rfl, rfl, _, rfl, ite2 (fun q => by cases dT q) (fun _ => ?_)⟩)⟩
          refine ⟨_, rfl, _, rfl, (by show 2 ≤ sizeLine; decide), fun t ht => ?_⟩
          exact k2 ⟨x, y⟩ (by unfold Neon.pointIn; rw [hws]; simp only [n0, n1]) _ t (s1.trans (same_new ht)) upd_same
theorem ok_read_points (T : Txt K mg) (O_cut : OkF P w K mg base 1 "cut" ["row", "mark"] (spCut K)) (O_spelled : OkF P w K mg base 1 "spelled" ["word"] spSpelled) (O_read_point : OkF P w K mg base 3 "read_point" ["word"] spPt)
    (D : Dn K mg "read_points" s_read_points ["row"]) : OkF P w K mg base 4 "read_points" ["row"] spPts := D.ok fun f fd F => by
  refine F.ok sc_read_points (fun vs H Q E h => ?_) (fun cdv A outer s H vs Q E hr h => ?_)
  · obtain ⟨a, bs, rfl, _⟩ := h
    rfl
  · obtain ⟨a, bs, rfl, hB, hlen, k1, k2⟩ := h
    have hu := hr.units
    refine ⟨_, (pss_cons (ps_set (i := 1) sc_read_points.nd rfl (Or.inl rfl) (pcl O_cut hr (by decide) (pa_cons (pv 0) (pa_cons (pgl T.c_BLANK) pa_nil))))
        (pss_cons (ps_if (pt_cmpR (op_neD hu) (pe_ix ix_list (pv 1) pe_int (fun _ _ => rfl)) (pcl O_spelled hr (by decide) (pa_cons pe_str pa_nil)) (nomark _)) (pss_one (ps_ret pe_non)) pss_nil)
        (pss_cons (ps_if (pt_not (pt_chain op_le op_le (pgl T.c_FEWEST_POINTS) (pe_op op_sub (pe_callB call_len_seq (by rfl) T.b_len PySem.boot_len (pa_cons (pv 1) pa_nil)) pe_int) (pgl T.c_MOST_POINTS))) (pss_one (ps_ret pe_non)) pss_nil)
        (pss_cons (ps_set (i := 2) sc_read_points.nd rfl (Or.inl rfl) (pe_lst pa_nil))
        (pss_cons (ps_for PassesOwn.never rfl (pi_list (pe_slice sl_list (pv 1) (po_some pe_int) po_none)) (pg_name (i := 3) sc_read_points.nd rfl (Or.inl rfl)) (pss_cons (ps_set (i := 4) sc_read_points.nd rfl (Or.inl rfl) (pcl O_read_point hr (by decide) (pa_cons (pv 3) pa_nil)))
        (pss_cons (ps_if (pt_cmpR op_isN (pv 4) pe_non (nomark _)) (pss_one (ps_ret pe_non)) pss_nil)
        (pss_one (ps_expr (pe_bm PySem.F.plainAttrs_list PySem.F.slot_list_append PySem.F.type_list_append mt_append (pv 2) (pa_cons (pv 4) pa_nil)))))))
        (pss_one (ps_ret (pv 2)))))))), ?_⟩
    refine ⟨_, rfl, a, bs, 32, rfl, SqL.of hB, hlen, fun H1 l s1 hw => ?_⟩
    obtain ⟨as, hL, hE⟩ := hw
    obtain ⟨w0, ws, hws⟩ : ∃ w0 ws, Neon.cutAt 32 bs = w0 :: ws := by
      cases e : Neon.cutAt 32 bs with
      | nil => exact absurd e (Mth.cut_ne _ _)
      | cons x y => exact ⟨x, y, rfl⟩
    have hcl := Mth.cut_len 32 bs
    rw [hws] at hE hcl
    obtain ⟨a0, ar, rfl⟩ : ∃ a0 ar, as = a0 :: ar := by
      cases as with
      | nil => have := hE.1; simp at this
      | cons x y => exact ⟨x, y, rfl⟩
    have h0 : BytesAt H1 a0 w0 := hE.2 0 _ _ rfl rfl
    have hR : Each BytesAt H1 ar ws := hE.drop 1
    refine ⟨_, rfl, l, _, _, _, rfl, rfl, SqL.of hL, atI_nat (j := 0) rfl, "stroke", rfl, (by decide +kernel), fun H2 l2 s2 hl2 => ?_⟩
    have sk : ¬ (w0 = Neon.ascii "stroke" ∧ 2 ≤ ws.length ∧ ws.length ≤ 65) → Neon.strokeIn bs = none := fun n => by
      unfold Neon.strokeIn
      rw [hws]
      exact if_neg n
    refine ne_word (s2 _ _ h0) hl2 ascii_stroke ⟨_, rfl, ite2 (fun r2 => ?_) (fun r2 => ?_)⟩
    · exact k1 (sk fun z => dF (nF r2) z.1) H2 (s1.trans s2)
    have r2 := dT (nT r2)
    have el : (((a0 :: ar).map V.ref).length : Int) - 1 = (ws.length : Nat) := by
      have := hR.1
      rw [List.length_map, List.length_cons, this]
      omega
    refine nextI ?_
    dsimp only
    refine ifS_of (c := decide (¬ (2 ≤ ws.length ∧ ws.length ≤ 65))) (fun Q' hq => ?_) (ite2 (fun r => ?_) (fun r => ?_))
    · refine ⟨_, rfl, l, _, rfl, .inl (SqL.of (s2 _ _ hL)), _, _, rfl, rfl, _, _, rfl, rfl, _, rfl, ite2 (fun t => ?_) (fun t => ?_)⟩
      · rw [el] at t
        have t : (2 : Int) ≤ (ws.length : Nat) := dT t
        refine ⟨_, _, rfl, rfl, _, rfl, ?_⟩
        rw [el]
        have e : (!decide (((ws.length : Nat) : Int) ≤ 65)) = decide (¬ (2 ≤ ws.length ∧ ws.length ≤ 65)) := by
          rw [← decide_not]
          exact decide_eq_decide.mpr (by omega)
        rw [← e] at hq
        exact hq
      · rw [el] at t
        have t : ¬ (2 : Int) ≤ (ws.length : Nat) := dF t
        rw [decide_eq_true (show ¬ (2 ≤ ws.length ∧ ws.length ≤ 65) by omega)] at hq
        exact ⟨_, rfl, hq⟩
    · exact k1 (sk fun z => dT r ⟨z.2.1, z.2.2⟩) H2 (s1.trans s2)
    have r : 2 ≤ ws.length ∧ ws.length ≤ 65 := Decidable.not_not.mp (dF r)
    have se : Neon.strokeIn bs = ws.mapM Neon.pointIn := by
      unfold Neon.strokeIn
      rw [hws]
      exact if_pos ⟨r2, r.1, r.2⟩
    refine ⟨Nat.zero_le _, fun q hq => ?_⟩
    have sq := same_new (o := .lst []) hq
    refine ⟨_, rfl, _, rfl, l, _, rfl, SqL.of (sq _ _ (s2 _ _ hL)), fun pa hpa => ?_⟩
    have hqp : q ≠ pa := ne_of_none upd_same hpa
    have hpaH : H2 pa = none := sq.free hpa
    have s2' := s1.trans s2
    refine ⟨pa, rfl, ⟨_, SqL.of upd_same⟩, for_list (K := K) (a := pa) (xs := cutV ((a0 :: ar).map V.ref) (some 1) none) (fun i σ H' => ∃ (v3 v4 : Option V) (ps : List Addr) (st : Stroke),
      σ = [some (.ref a), some (.ref l), some (.ref q), v3, v4] ∧ Same H2 H' ∧ H' pa = some (.lst (cutV ((a0 :: ar).map V.ref) (some 1) none)) ∧ H' q = some (.lst (ps.map V.ref)) ∧ Each PtAt H' ps (st.map Mth.capP) ∧ (ws.take i).mapM Neon.pointIn = some st ∧ ps.length ≤ i)
      ⟨none, none, [], [], rfl, sq.trans (same_new hpa), upd_same, (upd_ne hqp).trans upd_same, Each.nil, rfl, Nat.le_refl _⟩
      (fun i σ H' _ ⟨_, _, _, _, _, _, hp, _⟩ => SqL.of hp) ?_ ?_⟩
    · rintro i y σ H' hi ⟨v3, v4, ps, st, rfl, s3, hp, hQ, hP, hm, hc⟩
      rw [cut_tail] at hi
      obtain ⟨b, hb, rfl⟩ := ref_of (as := ar) hi
      obtain ⟨wd, hwd, hbb⟩ := hR.at' hb
      have hbb : BytesAt H' b wd := s3 _ _ (s2 _ _ hbb)
      have hil : i < ws.length := (List.getElem?_eq_some_iff.mp hwd).1
      have lw : wd.length ≤ 70000 := by
        have := hcl.2 wd (List.mem_cons_of_mem _ (List.mem_of_getElem? hwd))
        omega
      have wse : ws = ws.take i ++ wd :: ws.drop (i + 1) := by rw [← drop_at hwd, List.take_append_drop]
      refine ⟨_, rfl, b, wd, rfl, hbb, lw, fun hn H5 s5 => ?_, fun pt hpt H5 t s5 ht => ?_⟩
      · refine ⟨_, rfl, rfl, _, rfl, ite2 (fun _ => ?_) (fun q => absurd rfl (dF q))⟩
        exact k1 (by rw [se, wse]; exact mapM_none hn) H5 ((s2'.trans s3).trans s5)
      · refine ⟨_, rfl, rfl, _, rfl, ite2 (fun q => by cases dT q) (fun _ => ?_)⟩
        have hQ5 := s5 _ _ hQ
        refine ⟨_, rfl, .inl ⟨rfl, _, SqL.of hQ5⟩, _, rfl, q, _, _, rfl, rfl, hQ5, (by rw [List.length_map]; exact Nat.lt_of_le_of_lt hc (Nat.lt_of_lt_of_le hil (Nat.le_trans r.2 (by decide)))), ?_⟩
        have ntq : t ≠ q := ne_of ht hQ5 (by intro z; cases z)
        refine ⟨_, _, ps ++ [t], st ++ [pt], rfl, ?_, ?_, ?_, ?_, ?_, ?_⟩
        · exact sOff hq (s3.trans s5)
        · rw [upd_ne hqp.symm]
          exact s5 _ _ hp
        · rw [upd_same, List.map_append]
          rfl
        · rw [List.map_append]
          refine Each.snoc ((hP.keep kp_pt s5).on fun c hc x hx => ?_) ?_
          · show _ = _
            rw [upd_ne (ne_of hx hQ5 (by intro z; cases z))]
            exact hx
          · show _ = _
            rw [upd_ne ntq]
            exact ht
        · rw [take_at hwd]
          exact mapM_snoc hm hpt
        · rw [List.length_append]
          exact Nat.add_le_add_right hc 1
    · rintro σ H' ⟨v3, v4, ps, st, rfl, s3, hp, hQ, hP, hm, hc⟩
      rw [cut_tail] at hm
      have e : (((a0 :: ar).map V.ref).drop 1).length = ws.length := by
        rw [List.map_cons, List.drop_succ_cons, List.drop_zero, List.length_map]
        exact hR.1
      rw [e, List.take_length, ← se] at hm
      refine ⟨_, rfl, ?_⟩
      exact k2 st hm H' q (s2'.trans s3) ⟨ps, hQ, hP⟩
end
end Tube
namespace Tube
open PySem PySem.Spec PyProof.Rows L2
open Neon (Piece Point Bytes Stroke)
/-! ### drawings.py: the parts -/
def jf (v1 v2 v3 v4 : V) : List (Str × V) := putF "which" v4 (putF "line" v3 (putF "kind" v2 (putF "pieces" v1 [])))
theorem jf_kind (v1 v2 v3 v4 : V) : (jf v1 v2 v3 v4).lookup ("kind" : Str) = some v2 := by
  unfold jf; rw [lookup_putF, if_neg (by decide +kernel), lookup_putF, if_neg (by decide +kernel), lookup_putF, if_pos rfl]
theorem jf_pieces (v1 v2 v3 v4 : V) : (jf v1 v2 v3 v4).lookup ("pieces" : Str) = some v1 := by
  unfold jf; rw [lookup_putF, if_neg (by decide +kernel), lookup_putF, if_neg (by decide +kernel), lookup_putF, if_neg (by decide +kernel), lookup_putF, if_pos rfl]
abbrev KJudged (K : PySem.W.Frag) (mg : Str → Option Value) (C : Addr) : Prop := Kl K mg C "Judged" "Judged.__init__" ["pieces", "kind", "line", "which"] s_Judged_init ["self", "pieces", "kind", "line", "which"]
def spJudged (C : Addr) : Sp := fun vs H Q _ => ∃ (p dx : Addr) (v1 v2 v3 v4 : V), vs = [.ref p, v1, v2, v3, v4] ∧ H p = some (.ins C dx []) ∧
  ∀ H' : Hp, H' p = some (.ins C dx (jf v1 v2 v3 v4)) → (∀ c o, H c = some o → c ≠ p → H' c = some o) → Q .non H'
/-- points by themselves: fine, and no two alike behind one another -/
def okS (s : Stroke) : Prop := (∀ p ∈ s, p.fine = true) ∧ ∀ i, 1 ≤ i → i < s.length → s[i]? ≠ s[i - 1]?
theorem fine_iff (p : Point) : p.fine = true ↔ p.x ≤ 4095 ∧ p.y ≤ 4095 := by
  unfold Neon.Point.fine Neon.FAR
  rw [Bool.and_eq_true, decide_eq_true_eq, decide_eq_true_eq]
theorem cap_back {p : Point} (h : (Mth.capP p).fine = true) : p.fine = true := by
  rw [fine_iff] at h ⊢
  unfold Mth.capP at h
  dsimp only at h
  omega
theorem okS_cap (s : Stroke) : okS (s.map Mth.capP) ↔ okS s := by
  have e : (∀ p ∈ s, p.fine = true) → s.map Mth.capP = s := fun h => by
    refine (List.map_congr_left (g := id) fun p hp => Mth.cap_fine (h p hp)).trans (List.map_id _)
  constructor
  · intro h
    have f : ∀ p ∈ s, p.fine = true := fun p hp => cap_back (h.1 _ (List.mem_map_of_mem hp))
    rw [e f] at h
    exact h
  · intro h
    rw [e h.1]
    exact h
def okP (ps : List Piece) (n : Nat) : Prop := ps.length ≤ 64 ∧ (∀ j p, n ≤ j → ps[j]? = some p → ((ps.take j).any fun q => Mth.badB q p) = false) ∧ ∀ j p, n ≤ j → ps[j]? = some p → Mth.manyB ps j p = false
theorem stroke_ok (past : List Piece) (s : Stroke) (hp : okS s → ∀ p ∈ past ++ Neon.piecesOf s, p.a ≠ p.b) : Neon.wrongStroke past s = none ↔ okS s ∧ okP (past ++ Neon.piecesOf s) past.length := by
  rw [Mth.wrong_none]
  have A : okS s → ∀ j p, (past ++ Neon.piecesOf s)[j]? = some p → (((past ++ Neon.piecesOf s).take j).any fun q => Neon.meets q p == 2) = (((past ++ Neon.piecesOf s).take j).any fun q => Mth.badB q p) := fun o j p h => by
    have nd := hp o
    generalize past ++ Neon.piecesOf s = l at nd h
    have hq : ∀ q ∈ l.take j, q.a ≠ q.b := fun q hq => nd q (List.mem_of_mem_take hq)
    generalize l.take j = m at hq
    induction m with
    | nil => rfl
    | cons q m ih =>
      rw [List.any_cons, List.any_cons, ih fun q h => hq q (List.mem_cons_of_mem _ h), Mth.bad_meets (hq q (List.mem_cons_self ..)) (nd p (List.mem_of_getElem? h))]
  constructor
  · rintro ⟨h1, h2, h3, h4, h5⟩
    refine ⟨⟨h1, h2⟩, h3, fun j p hj e => ?_, fun j p hj e => ?_⟩
    · rw [← A ⟨h1, h2⟩ j p e]
      exact h4 j p hj e
    · rw [Mth.many_eq e]
      exact h5 j p hj e
  · rintro ⟨o, h3, h4, h5⟩
    refine ⟨o.1, o.2, h3, fun j p hj e => ?_, fun j p hj e => ?_⟩
    · rw [A o j p e]
      exact h4 j p hj e
    · rw [← Mth.many_eq e]
      exact h5 j p hj e
def spBetween (C : Addr) : Sp := fun vs H Q _ => ∃ (a : Addr) (s : Stroke), vs = [.ref a] ∧ LstOf PtAt H a s ∧ s.length ≤ 65 ∧ okS s ∧ ∀ (H' : Hp) (l : Addr), Same H H' → LstOf (PieceAt C) H' l (Neon.piecesOf s) → Q (.ref l) H'
def spPtF : Sp := fun vs H Q _ => ∃ (a : Addr) (s : Stroke), vs = [.ref a] ∧ LstOf PtAt H a s ∧ s.length ≤ 65 ∧ ∀ (H' : Hp) (t : Addr) (k n : Int), Same H H' → H' t = some (.tup [.int k, .int n]) → (k = 0 ↔ okS s) → Q (.ref t) H'
theorem piece_off {C : Addr} {H : Hp} {D : Addr} {xs : List V} {o : HO} (hD : H D = some (.lst xs)) {a : Addr} {p : Piece} (h : PieceAt C H a p) : PieceAt C (upd H D o) a p := by
  obtain ⟨b, dx, e⟩ := h
  exact ⟨b, dx, by rw [upd_ne (ne_of e hD (by intro z; cases z))]; exact e⟩
section
variable {P : Program} {w : World} {K : PySem.W.Frag} {mg : Str → Option Value} {base : Heap} {CP CJ : Addr}
set_option maxHeartbeats 4000000
theorem ok_Judged (KJ : KJudged K mg CJ) : OkC P w K mg base 1 "Judged" CJ ["self", "pieces", "kind", "line", "which"] (spJudged CJ) := KJ.ok fun f fd F => by
  refine F.ok sc_Judged_init (fun vs H Q E h => ?_) (fun cdv A outer s H vs Q E hr h => ?_)
  · obtain ⟨p, dx, v1, v2, v3, v4, rfl, _⟩ := h
    rfl
  · obtain ⟨p, dx, v1, v2, v3, v4, rfl, hp, k⟩ := h
    refine ⟨_, (pss_cons (ps_fld (pv 0) (pv 1) rfl)
        (pss_cons (ps_fld (pv 0) (pv 2) rfl)
        (pss_cons (ps_fld (pv 0) (pv 3) rfl)
        (pss_one (ps_fld (pv 0) (pv 4) rfl))))), ?_⟩
    refine ⟨_, rfl, _, rfl, p, CJ, dx, _, rfl, hp, KJ.cl, KJ.no _ (by simp), (by show 0 < 1000; decide), ?_⟩
    refine ⟨_, rfl, _, rfl, p, CJ, dx, _, rfl, upd_same, KJ.cl, KJ.no _ (by simp), Nat.lt_of_le_of_lt (pl (Nat.le_refl 0)) (by decide), ?_⟩
    refine ⟨_, rfl, _, rfl, p, CJ, dx, _, rfl, upd_same, KJ.cl, KJ.no _ (by simp), Nat.lt_of_le_of_lt (pl (pl (Nat.le_refl 0))) (by decide), ?_⟩
    refine ⟨_, rfl, _, rfl, p, CJ, dx, _, rfl, upd_same, KJ.cl, KJ.no _ (by simp), Nat.lt_of_le_of_lt (pl (pl (pl (Nat.le_refl 0)))) (by decide), ?_⟩
    exact k _ upd_same fun c o e hc => by rw [upd_ne hc, upd_ne hc, upd_ne hc, upd_ne hc]; exact e
theorem ok_pieces_between (T : Txt K mg) (O_Piece : OkC P w K mg base 1 "Piece" CP ["self", "first", "second"] (spPiece CP)) (D : Dn K mg "pieces_between" s_pieces_between ["points"]) :
    OkF P w K mg base 3 "pieces_between" ["points"] (spBetween CP) := D.ok fun f fd F => by
  refine F.ok sc_pieces_between (fun vs H Q E h => ?_) (fun cdv A outer s H vs Q E hr h => ?_)
  · obtain ⟨a, s, rfl, _⟩ := h
    rfl
  · obtain ⟨a, s, rfl, ⟨as, hL, hE⟩, hlen, hok, k⟩ := h
    have ha : as.length = s.length := hE.1
    refine ⟨_, (pss_one (ps_ret (pe_lc (own := [("i", 1)]) rfl sc_pieces_between.nd (pi_range2 rfl T.b_range (pa_cons pe_int (pa_cons (pe_callB call_len_seq (by rfl) T.b_len PySem.boot_len (pa_cons (pv 0) pa_nil)) pa_nil))) (blkOk_by (by show blkC ["points", "i"] (defScope s_pieces_between) _ _ = true; decide +kernel)) (fun _ _ _ _ _ => pg_name (i := 1) sc_pieces_between.nd rfl (Or.inl rfl) (Or.inr rfl)) (fun _ _ _ _ _ => pts_nil) (fun _ _ _ _ _ => (pmk O_Piece hr (by decide) (pa_cons (pe_ix (ixL (K := K) rfl) (pv 0) (pe_op op_sub (pv 1) pe_int) (fun _ _ => rfl)) (pa_cons (pe_ix (ixL (K := K) rfl) (pv 0) (pv 1) (fun _ _ => rfl)) pa_nil))))))), ?_⟩
    refine ⟨_, rfl, a, _, rfl, .inl (SqL.of hL), _, _, rfl, ⟨by decide, by decide, by rw [List.length_map, ha]; omega, by rw [List.length_map, ha]; omega⟩, fun D hD => ?_⟩
    refine lc_range (fun i H' => ∃ bs : List Addr, Same H H' ∧ H' D = some (.lst (bs.map V.ref)) ∧ Each (PieceAt CP) H' bs ((Neon.piecesOf s).take i)) ⟨[], same_new hD, upd_same, Each.nil⟩ (fun i H' hi ⟨bs, s1, hD', hP⟩ => ?_) (fun H' ⟨bs, s1, hD', hP⟩ => ?_)
    · rw [List.length_map, ha] at hi
      have i1 : i < s.length := by omega
      have i2 : i + 1 < s.length := by omega
      obtain ⟨b1, hb1, p1⟩ := hE.get (List.getElem?_eq_getElem i1)
      obtain ⟨b2, hb2, p2⟩ := hE.get (List.getElem?_eq_getElem i2)
      have e1 : s[i]? = some s[i] := List.getElem?_eq_getElem i1
      have e2 : s[i + 1]? = some s[i + 1] := List.getElem?_eq_getElem i2
      have f1 := (fine_iff _).mp (hok.1 _ (List.mem_of_getElem? e1))
      have f2 := (fine_iff _).mp (hok.1 _ (List.mem_of_getElem? e2))
      have ne : s[i] ≠ s[i + 1] := fun e => hok.2 (i + 1) (by omega) i2 (by rw [e2, Nat.add_sub_cancel, e1, e])
      refine ⟨rfl, yesT ?_⟩
      refine ⟨_, rfl, _, rfl, _, _, rfl, rfl, a, _, _, _, rfl, rfl, SqL.of (s1 _ _ hL), at_of (j := i) (by omega) (ref_at hb1), _, rfl, _, rfl, a, _, _, _, rfl, rfl, SqL.of (s1 _ _ hL), at_of (j := i + 1) (by omega) (ref_at hb2), fun x dx hx hdx hne => ?_⟩
      have n1 : ∀ b o, H' b = some o → (upd (upd H' dx (.own x)) x (.ins CP dx [])) b = some o := fun b o e => by rw [upd_ne (ne_of_none e hx), upd_ne (ne_of_none e hdx)]; exact e
      refine ⟨x, dx, b1, b2, s[i], s[i + 1], rfl, upd_same, n1 _ _ (s1 _ _ p1), n1 _ _ (s1 _ _ p2), ⟨by show ((s[i].x : Nat) : Int) ≤ 4095; omega, by show ((s[i].y : Nat) : Int) ≤ 4095; omega, by show ((s[i + 1].x : Nat) : Int) ≤ 4095; omega, by show ((s[i + 1].y : Nat) : Int) ≤ 4095; omega, ne⟩, fun H5 hp5 k5 => ⟨rfl, ?_⟩⟩
      have s5 : Same H' H5 := Same.made hx hdx k5
      have hD5 := s5 _ _ hD'
      have hlb : bs.length ≤ i := by
        have := hP.1
        rw [List.length_take] at this
        omega
      refine ⟨_, hD5, ?_, bs ++ [x], sOff hD (s1.trans s5), ?_, ?_⟩
      · rw [List.length_map]
        exact Nat.lt_of_le_of_lt hlb (Nat.lt_of_lt_of_le i1 (Nat.le_trans hlen (by decide)))
      · rw [upd_same, List.map_append]
        rfl
      · rw [take_at (Mth.pieces_at s i _ _ e1 e2)]
        exact Each.snoc ((hP.keep (kp_piece CP) s5).on fun a _ x hx => piece_off hD5 hx) (piece_off hD5 hp5)
    · rw [List.length_map, ha, List.take_of_length_le (by rw [Mth.pieces_len]; omega)] at hP
      exact k H' D s1 ⟨bs, hD', hP⟩
theorem ok_points_fault (T : Txt K mg) (D : Dn K mg "points_fault" s_points_fault ["points"]) : OkF P w K mg base 1 "points_fault" ["points"] spPtF := D.ok fun f fd F => by
  refine F.ok sc_points_fault (fun vs H Q E h => ?_) (fun cdv A outer s H vs Q E hr h => ?_)
  · obtain ⟨a, s, rfl, _⟩ := h
    rfl
  · obtain ⟨a, s, rfl, ⟨as, hL, hE⟩, hlen, k⟩ := h
    have hu := hr.units
    have ha : as.length = s.length := hE.1
    refine ⟨_, (pss_cons (ps_for PassesOwn.never rfl (pi_range1 rfl T.b_range (pa_cons (pe_callB call_len_seq (by rfl) T.b_len PySem.boot_len (pa_cons (pv 0) pa_nil)) pa_nil)) (pg_name (i := 1) sc_points_fault.nd rfl (Or.inl rfl)) (pss_one (ps_if (PW.pt (pw_or (pt_cmpR op_gt (pe_ix ix_tup (pe_ix ix_list (pv 0) (pv 1) (fun _ _ => rfl)) pe_int (fun _ _ => rfl)) (pgl T.c_FARTHEST) (nomark _)) (pw_or1 (pt_cmpR op_gt (pe_ix ix_tup (pe_ix ix_list (pv 0) (pv 1) (fun _ _ => rfl)) pe_int (fun _ _ => rfl)) (pgl T.c_FARTHEST) (nomark _))))) (pss_one (ps_ret (pe_tup (pa_cons pe_int (pa_cons (pv 1) pa_nil))))) pss_nil)))
        (pss_cons (ps_for PassesOwn.never rfl (pi_range2 rfl T.b_range (pa_cons pe_int (pa_cons (pe_callB call_len_seq (by rfl) T.b_len PySem.boot_len (pa_cons (pv 0) pa_nil)) pa_nil))) (pg_name (i := 1) sc_points_fault.nd rfl (Or.inl rfl)) (pss_one (ps_if (pt_cmpR (op_eqD hu) (pe_ix ix_list (pv 0) (pv 1) (fun _ _ => rfl)) (pe_ix ix_list (pv 0) (pe_op op_sub (pv 1) pe_int) (fun _ _ => rfl)) (nomark _)) (pss_one (ps_ret (pe_tup (pa_cons pe_int (pa_cons (pv 1) pa_nil))))) pss_nil)))
        (pss_one (ps_ret (pe_tup (pa_cons pe_int (pa_cons pe_int pa_nil))))))), ?_⟩
    refine ⟨_, rfl, a, _, rfl, .inl (SqL.of hL), _, rfl, by rw [List.length_map, ha]; omega, by rw [List.length_map, ha]; omega, for_range (fun i σ H' => H' = H ∧ (∃ v, σ = [some (.ref a), v]) ∧ ∀ j p, j < i → s[j]? = some p → p.fine = true) ⟨rfl, ⟨none, rfl⟩, fun j p h => absurd h (Nat.not_lt_zero _)⟩ ?_ ?_⟩
    · rintro i σ H' hi ⟨rfl, ⟨v, rfl⟩, hf⟩
      rw [List.length_map, ha, Int.toNat_natCast] at hi
      obtain ⟨b, hb, hp⟩ := hE.get (List.getElem?_eq_getElem hi)
      refine ifS_of (c := decide (4095 < ((s[i].x : Nat) : Int) ∨ 4095 < ((s[i].y : Nat) : Int))) (fun Q' hq => ?_) (ite2 (fun r => ?_) (fun r => ?_))
      · refine ⟨_, rfl, _, rfl, a, _, _, _, rfl, rfl, SqL.of hL, at_of (j := i) (by omega) (ref_at hb), b, _, _, _, rfl, rfl, SqT.of hp, atI_nat (j := 0) rfl, _, _, rfl, rfl, _, rfl, ite2 (fun r => ?_) (fun r => ?_)⟩
        · have r : 4095 < ((s[i].x : Nat) : Int) := dT r
          rw [decide_eq_true (.inl r)] at hq
          exact hq
        · have r : ¬ 4095 < ((s[i].x : Nat) : Int) := dF r
          refine ⟨_, rfl, _, rfl, a, _, _, _, rfl, rfl, SqL.of hL, at_of (j := i) (by omega) (ref_at hb), b, _, _, _, rfl, rfl, SqT.of hp, atI_nat (j := 1) rfl, _, _, rfl, rfl, _, rfl, ?_⟩
          have e : decide (4095 < ((s[i].x : Nat) : Int) ∨ 4095 < ((s[i].y : Nat) : Int)) = decide (4095 < ((s[i].y : Nat) : Int)) := decide_eq_decide.mpr ⟨fun z => z.resolve_left r, .inr⟩
          rw [e] at hq
          exact hq
      · have r := dT r
        refine ⟨_, rfl, (by show 2 ≤ sizeLine; decide), fun t ht => ?_⟩
        refine k _ t _ _ (same_new ht) upd_same ⟨fun z => absurd z (by decide), fun o => ?_⟩
        have := (fine_iff _).mp (o.1 _ (List.getElem_mem hi))
        omega
      · have r := dF r
        refine ⟨rfl, ⟨_, rfl⟩, fun j p hj e => ?_⟩
        by_cases q : j = i
        · subst q
          rw [List.getElem?_eq_getElem hi] at e
          cases e
          exact (fine_iff _).mpr (by omega)
        · exact hf j p (by omega) e
    · rintro σ H' ⟨rfl, ⟨v, rfl⟩, hf⟩
      rw [List.length_map, ha, Int.toNat_natCast] at hf
      have hfine : ∀ p ∈ s, p.fine = true := fun p hp => by
        obtain ⟨j, hj, rfl⟩ := List.mem_iff_getElem.mp hp
        exact hf j _ hj (List.getElem?_eq_getElem hj)
      refine ⟨_, rfl, a, _, rfl, .inl (SqL.of hL), _, _, rfl, ⟨by decide, by decide, by rw [List.length_map, ha]; omega, by rw [List.length_map, ha]; omega⟩, for_range (fun i σ H2 => H2 = H' ∧ (∃ v, σ = [some (.ref a), v]) ∧ ∀ j, 1 ≤ j → j < i + 1 → j < s.length → s[j]? ≠ s[j - 1]?)
        ⟨rfl, ⟨_, rfl⟩, fun j h1 h2 => by omega⟩ ?_ ?_⟩
      · rintro i σ H2 hi ⟨rfl, ⟨v2, rfl⟩, hf2⟩
        rw [List.length_map, ha] at hi
        have i1 : i < s.length := by omega
        have i2 : i + 1 < s.length := by omega
        obtain ⟨b1, hb1, p1⟩ := hE.get (List.getElem?_eq_getElem i1)
        obtain ⟨b2, hb2, p2⟩ := hE.get (List.getElem?_eq_getElem i2)
        have e1 : s[i]? = some s[i] := List.getElem?_eq_getElem i1
        have e2 : s[i + 1]? = some s[i + 1] := List.getElem?_eq_getElem i2
        have ee : decide ([((s[i + 1].x : Nat) : Int), ((s[i + 1].y : Nat) : Int)] = [((s[i].x : Nat) : Int), ((s[i].y : Nat) : Int)]) = decide (s[i + 1]? = s[i]?) := by
          rw [e1, e2]
          refine decide_eq_decide.mpr ⟨fun z => ?_, fun z => ?_⟩
          · simp only [List.cons.injEq, and_true] at z
            exact congrArg some ((Mth.pt_eq _ _).mpr z)
          · rw [Option.some.inj z]
        refine ⟨_, rfl, _, rfl, a, _, _, _, rfl, rfl, SqL.of hL, at_of (j := i + 1) (by omega) (ref_at hb2), _, rfl, _, rfl, _, _, rfl, rfl, a, _, _, _, rfl, rfl, SqL.of hL, at_of (j := i) (by omega) (ref_at hb1),
          .tuple ([((s[i + 1].x : Nat) : Int), ((s[i + 1].y : Nat) : Int)].map PyData.int), .tuple ([((s[i].x : Nat) : Int), ((s[i].y : Nat) : Int)].map PyData.int), .tup (SqT.of p2) (dp_ints [_, _]), .tup (SqT.of p1) (dp_ints [_, _]), sh_tup _, sh_tup _, ?_⟩
        rw [PyData.eqv, eqv_ints, ee]
        refine ⟨_, rfl, ite2 (fun r => ?_) (fun r => ?_)⟩
        · have r := dT r
          refine ⟨_, rfl, (by show 2 ≤ sizeLine; decide), fun t ht => ?_⟩
          exact k _ t _ _ (same_new ht) upd_same ⟨fun z => absurd z (by decide), fun o => absurd r (o.2 (i + 1) (by omega) i2)⟩
        · have r := dF r
          refine ⟨rfl, ⟨_, rfl⟩, fun j h1 h2 h3 => ?_⟩
          by_cases q : j = i + 1
          · subst q
            exact r
          · exact hf2 j h1 (by omega) h3
      · rintro σ H2 ⟨rfl, ⟨v2, rfl⟩, hf2⟩
        rw [List.length_map, ha] at hf2
        refine ⟨(by show 2 ≤ sizeLine; decide), fun t ht => ?_⟩
        exact k _ t _ _ (same_new ht) upd_same ⟨fun _ => ⟨hfine, fun j h1 h2 => hf2 j h1 (by omega) h2⟩, fun _ => rfl⟩
end
end Tube
namespace Tube
open PySem PySem.Spec PyProof.Rows L2
open Neon (Piece Point Bytes Stroke)
theorem cut_head (xs : List V) (n : Nat) (z : Int) (hz : z = (n : Int)) (hn : n ≤ xs.length) : cutV xs none (some z) = xs.take n := by
  subst hz
  unfold cutV
  have e1 : HT.sIx xs.length 0 none = 0 := rfl
  have e2 : HT.sIx xs.length xs.length (some (n : Int)) = min n xs.length := HT.sIx_nat _ _ _
  rw [e1, e2, Nat.min_eq_left hn, List.drop_zero, Nat.sub_zero]
def spMB (C : Addr) : Sp := fun vs H Q _ => ∃ (l : Addr) (ps : List Piece) (j : Nat) (p : Piece) (z : Int), vs = [.ref l, .int z] ∧ z = (j : Int) ∧ LstOf (PieceAt C) H l ps ∧ ps[j]? = some p ∧ ps.length ≤ 200 ∧ ∀ H' : Hp, Same H H' → Q (.bl ((ps.take j).any fun q => Mth.badB q p)) H'
def spCE (C : Addr) : Sp := fun vs H Q _ => ∃ (l : Addr) (ps : List Piece) (x y : Int), vs = [.ref l, .int x, .int y] ∧ LstOf (PieceAt C) H l ps ∧ ps.length ≤ 200 ∧ ∀ H' : Hp, Same H H' → Q (.int (Mth.countE ps x y : Nat)) H'
def spOM (C : Addr) : Sp := fun vs H Q _ => ∃ (l : Addr) (ps : List Piece) (j : Nat) (p : Piece) (z : Int), vs = [.ref l, .int z] ∧ z = (j : Int) ∧ LstOf (PieceAt C) H l ps ∧ ps[j]? = some p ∧ ps.length ≤ 200 ∧ ∀ H' : Hp, Same H H' → Q (.bl (Mth.manyB ps j p)) H'
def spPcF (C : Addr) : Sp := fun vs H Q _ => ∃ (l : Addr) (ps : List Piece) (st : Nat), vs = [.ref l, .int (st : Nat)] ∧ LstOf (PieceAt C) H l ps ∧ ps.length ≤ 200 ∧ st ≤ ps.length ∧
  ∀ (H' : Hp) (t : Addr) (k n : Int), Same H H' → H' t = some (.tup [.int k, .int n]) → (k = 0 ↔ okP ps st) → Q (.ref t) H'
theorem count_le (ps : List Piece) (x y : Int) : Mth.countE ps x y ≤ ps.length := by unfold Mth.countE; exact List.length_filter_le ..
theorem count_snoc (ps : List Piece) (p : Piece) (x y : Int) : Mth.countE (ps ++ [p]) x y = Mth.countE ps x y + if Mth.endsB p x y = true then 1 else 0 := by
  unfold Mth.countE
  rw [List.filter_append, List.length_append, List.filter_cons, List.filter_nil]
  split <;> rfl
section
variable {P : Program} {w : World} {K : PySem.W.Frag} {mg : Str → Option Value} {base : Heap} {CP CJ : Addr}
set_option maxHeartbeats 4000000
theorem ok_meets_one (T : Txt K mg) (O_meet_badly : OkF P w K mg base 4 "meet_badly" ["one", "other"] (spBad CP)) (D : Dn K mg "meets_one_before_badly" s_meets_one_before_badly ["pieces", "i"]) :
    OkF P w K mg base 6 "meets_one_before_badly" ["pieces", "i"] (spMB CP) := D.ok fun f fd F => by
  refine F.ok sc_meets_one_before_badly (fun vs H Q E h => ?_) (fun cdv A outer s H vs Q E hr h => ?_)
  · obtain ⟨l, ps, j, p, z, rfl, _⟩ := h
    rfl
  · obtain ⟨l, ps, j, p, z, rfl, hz, ⟨as, hL, hE⟩, hp, hlen, k⟩ := h
    have ha : as.length = ps.length := hE.1
    have hj : j < ps.length := (List.getElem?_eq_some_iff.mp hp).1
    obtain ⟨b, hb, hpb⟩ := hE.get hp
    refine ⟨_, (pss_one (ps_ret (pe_callB (cr_any rfl) (by rfl) T.b_any PyProof.Rows.boot_any (pa_cons (pe_lc (own := [("piece", 2)]) rfl sc_meets_one_before_badly.nd (pi_list (pe_slice sl_list (pv 0) po_none (po_some (pv 1)))) (blkOk_by (by show blkC ["pieces", "i", "piece"] (defScope s_meets_one_before_badly) _ _ = true; decide +kernel)) (fun _ _ _ _ _ => pg_name (i := 2) sc_meets_one_before_badly.nd rfl (Or.inl rfl) (Or.inr rfl)) (fun _ _ _ _ _ => pts_nil) (fun _ _ _ _ _ => (pcl O_meet_badly hr (by decide) (pa_cons (pv 2) (pa_cons (pe_ix (ixL (K := K) rfl) (pv 0) (pv 1) (fun _ _ => rfl)) pa_nil))))) pa_nil)))), ?_⟩
    have ec : cutV (as.map V.ref) none (some z) = (as.take j).map V.ref := by
      rw [cut_head _ j z hz (by rw [List.length_map, ha]; omega), List.map_take]
    refine ⟨_, rfl, _, rfl, _, rfl, l, _, rfl, SqL.of hL, fun pa hpa => ?_⟩
    rw [ec]
    have s0 := same_new (o := .lst ((as.take j).map V.ref)) hpa
    refine ⟨pa, rfl, ⟨_, SqL.of upd_same⟩, fun D hD => ?_⟩
    have hDp : pa ≠ D := ne_of_none upd_same hD
    have hDH : H D = none := s0.free hD
    refine lc_list (K := K) (a := pa) (xs := (as.take j).map V.ref) (fun i H' => Same H H' ∧ H' pa = some (.lst ((as.take j).map V.ref)) ∧ H' D = some (.lst (((ps.take j).take i).map fun q => V.bl (Mth.badB q p))))
      ⟨s0.trans (same_new hD), (upd_ne hDp).trans upd_same, upd_same⟩ (fun i H' _ ⟨_, hp', _⟩ => SqL.of hp') (fun i y H' hi ⟨s1, hp', hD'⟩ => ?_) (fun H' ⟨s1, hp', hD'⟩ => ?_)
    · obtain ⟨c, hc, rfl⟩ := ref_of hi
      obtain ⟨q, hq, hqc⟩ := (hE.take j).at' hc
      have hil : i < (ps.take j).length := (List.getElem?_eq_some_iff.mp hq).1
      refine ⟨rfl, yesT ⟨_, rfl, _, rfl, _, rfl, l, _, _, _, rfl, rfl, SqL.of (s1 _ _ hL), at_of (j := j) hz (ref_at hb), c, b, q, p, rfl, kp_piece CP _ _ _ _ s1 hqc, kp_piece CP _ _ _ _ s1 hpb, _, hD', ?_, ?_, ?_, ?_⟩⟩
      · rw [List.length_map, List.length_take]
        exact Nat.lt_of_le_of_lt (Nat.min_le_left _ _) (Nat.lt_of_lt_of_le hil (by rw [List.length_take]; exact Nat.le_trans (Nat.min_le_right _ _) (Nat.le_trans hlen (by decide))))
      · exact sOff hDH s1
      · rw [upd_ne hDp]
        exact hp'
      · rw [upd_same, take_at hq, List.map_append]
        rfl
    · have e : ((as.take j).map V.ref).length = (ps.take j).length := by rw [List.length_map]; exact (hE.take j).1
      rw [e, List.take_length] at hD'
      refine ⟨D, (ps.take j).map fun q => Mth.badB q p, rfl, SqL.of (by rw [hD', List.map_map]; rfl), ?_⟩
      rw [List.any_map]
      exact k H' s1
theorem ok_count_ends (T : Txt K mg) (O_ends_at : OkF P w K mg base 1 "ends_at" ["piece", "x", "y"] (spEnds CP)) (D : Dn K mg "count_ends" s_count_ends ["pieces", "x", "y"]) :
    OkF P w K mg base 3 "count_ends" ["pieces", "x", "y"] (spCE CP) := D.ok fun f fd F => by
  refine F.ok sc_count_ends (fun vs H Q E h => ?_) (fun cdv A outer s H vs Q E hr h => ?_)
  · obtain ⟨l, ps, x, y, rfl, _⟩ := h
    rfl
  · obtain ⟨l, ps, x, y, rfl, ⟨as, hL, hE⟩, hlen, k⟩ := h
    have ha : as.length = ps.length := hE.1
    refine ⟨_, (pss_one (ps_ret (pe_callB call_len_seq (by rfl) T.b_len PySem.boot_len (pa_cons (pe_lc (own := [("piece", 3)]) rfl sc_count_ends.nd (pi_list (pv 0)) (blkOk_by (by show blkC ["pieces", "x", "y", "piece"] (defScope s_count_ends) _ _ = true; decide +kernel)) (fun _ _ _ _ _ => pg_name (i := 3) sc_count_ends.nd rfl (Or.inl rfl) (Or.inr rfl)) (fun _ _ _ _ _ => pts_one (pt_val (pcl O_ends_at hr (by decide) (pa_cons (pv 3) (pa_cons (pv 1) (pa_cons (pv 2) pa_nil)))))) (fun _ _ _ _ _ => (pv 3))) pa_nil)))), ?_⟩
    refine ⟨_, rfl, l, rfl, ⟨_, SqL.of hL⟩, fun D hD => ?_⟩
    refine lc_list (K := K) (a := l) (xs := as.map V.ref) (fun i H' => Same H H' ∧ ∃ xs : List V, H' D = some (.lst xs) ∧ xs.length = Mth.countE (ps.take i) x y)
      ⟨same_new hD, [], upd_same, rfl⟩ (fun i H' _ ⟨s1, _⟩ => SqL.of (s1 _ _ hL)) (fun i v H' hi ⟨s1, xs, hD', hx⟩ => ?_) (fun H' ⟨s1, xs, hD', hx⟩ => ?_)
    · obtain ⟨c, hc, rfl⟩ := ref_of hi
      obtain ⟨q, hq, hqc⟩ := hE.at' hc
      refine ⟨rfl, _, rfl, _, rfl, _, rfl, c, q, _, _, rfl, kp_piece CP _ _ _ _ s1 hqc, _, rfl, ite2 (fun r => ?_) (fun r => ?_)⟩
      · refine ⟨_, rfl, _, hD', ?_, sOff hD s1, _, upd_same, ?_⟩
        · rw [hx]
          exact Nat.lt_of_le_of_lt (count_le ..) (by rw [List.length_take]; exact Nat.lt_of_le_of_lt (Nat.le_trans (Nat.min_le_right _ _) hlen) (by decide))
        · rw [List.length_append, hx, take_at hq, count_snoc, if_pos r]
          rfl
      · refine ⟨s1, xs, hD', ?_⟩
        rw [take_at hq, count_snoc, if_neg (by rw [r]; exact Bool.false_ne_true)]
        exact hx
    · rw [List.length_map, ha, List.take_length] at hx
      refine ⟨D, _, rfl, .inl (SqL.of hD'), ?_⟩
      rw [hx]
      exact k H' s1
theorem ok_one_too_many (KP : KPiece K mg CP) (T : Txt K mg) (O_count_ends : OkF P w K mg base 3 "count_ends" ["pieces", "x", "y"] (spCE CP)) (D : Dn K mg "is_one_too_many" s_is_one_too_many ["pieces", "i"]) :
    OkF P w K mg base 4 "is_one_too_many" ["pieces", "i"] (spOM CP) := D.ok fun f fd F => by
  refine F.ok sc_is_one_too_many (fun vs H Q E h => ?_) (fun cdv A outer s H vs Q E hr h => ?_)
  · obtain ⟨l, ps, j, p, z, rfl, _⟩ := h
    rfl
  · obtain ⟨l, ps, j, p, z, rfl, hz, ⟨as, hL, hE⟩, hp, hlen, k⟩ := h
    have ha : as.length = ps.length := hE.1
    have hj : j < ps.length := (List.getElem?_eq_some_iff.mp hp).1
    obtain ⟨b, hb, hpb⟩ := hE.get hp
    refine ⟨_, (pss_cons (ps_set (i := 2) sc_is_one_too_many.nd rfl (Or.inl rfl) (pe_ix ix_list (pv 0) (pv 1) (fun _ _ => rfl)))
        (pss_cons (ps_set (i := 3) sc_is_one_too_many.nd rfl (Or.inl rfl) (pe_slice sl_list (pv 0) po_none (po_some (pe_op op_add (pv 1) pe_int))))
        (pss_cons (ps_set (i := 4) sc_is_one_too_many.nd rfl (Or.inl rfl) (pcl O_count_ends hr (by decide) (pa_cons (pv 3) (pa_cons (p_ax KP (pv 2)) (pa_cons (p_ay KP (pv 2)) pa_nil)))))
        (pss_cons (ps_set (i := 5) sc_is_one_too_many.nd rfl (Or.inl rfl) (pcl O_count_ends hr (by decide) (pa_cons (pv 3) (pa_cons (p_bx KP (pv 2)) (pa_cons (p_by KP (pv 2)) pa_nil)))))
        (pss_one (ps_ret (pe_or (pe_cmpR op_gt (pv 4) (pgl T.c_MOST_AT_A_POINT) (nomark _)) (pe_one (pe_cmpR op_gt (pv 5) (pgl T.c_MOST_AT_A_POINT) (nomark _)))))))))), ?_⟩
    have ec : cutV (as.map V.ref) none (some (z + 1)) = (as.take (j + 1)).map V.ref := by
      rw [cut_head _ (j + 1) (z + 1) (by omega) (by rw [List.length_map, ha]; omega), List.map_take]
    refine ⟨_, rfl, _, rfl, l, _, _, _, rfl, rfl, SqL.of hL, at_of (j := j) hz (ref_at hb), ?_⟩
    refine ⟨_, rfl, _, rfl, _, _, rfl, rfl, _, rfl, l, _, rfl, SqL.of hL, fun pa hpa => ?_⟩
    rw [ec]
    have s0 := same_new (o := .lst ((as.take (j + 1)).map V.ref)) hpa
    have hU : LstOf (PieceAt CP) (upd H pa (.lst ((as.take (j + 1)).map V.ref))) pa (ps.take (j + 1)) := ⟨_, upd_same, (hE.take (j + 1)).keep (kp_piece CP) s0⟩
    have lU : (ps.take (j + 1)).length ≤ 200 := by rw [List.length_take]; omega
    have hpb0 := kp_piece CP _ _ _ _ s0 hpb
    refine ⟨_, rfl, b, p, rfl, hpb0, b, p, rfl, hpb0, pa, _, _, _, rfl, hU, lU, fun H1 s1 => ?_⟩
    have hpb1 := kp_piece CP _ _ _ _ s1 hpb0
    refine ⟨_, rfl, b, p, rfl, hpb1, b, p, rfl, hpb1, pa, _, _, _, rfl, hU.keep (kp_piece CP) s1, lU, fun H2 s2 => ?_⟩
    have k' := k H2 ((s0.trans s1).trans s2)
    unfold Mth.manyB at k'
    refine ⟨_, rfl, _, _, rfl, rfl, _, rfl, ite2 (fun r => ?_) (fun r => ?_)⟩
    · have r : decide ((Mth.countE (ps.take (j + 1)) p.a.x p.a.y : Int) > 8) = true := r
      rw [r, Bool.true_or] at k'
      exact k'
    · have r : decide ((Mth.countE (ps.take (j + 1)) p.a.x p.a.y : Int) > 8) = false := r
      rw [r, Bool.false_or] at k'
      exact ⟨_, rfl, _, _, rfl, rfl, k'⟩
theorem ok_pieces_fault (T : Txt K mg) (O_meets_one_before_badly : OkF P w K mg base 6 "meets_one_before_badly" ["pieces", "i"] (spMB CP)) (O_is_one_too_many : OkF P w K mg base 4 "is_one_too_many" ["pieces", "i"] (spOM CP))
    (D : Dn K mg "pieces_fault" s_pieces_fault ["pieces", "start"]) : OkF P w K mg base 7 "pieces_fault" ["pieces", "start"] (spPcF CP) := D.ok fun f fd F => by
  refine F.ok sc_pieces_fault (fun vs H Q E h => ?_) (fun cdv A outer s H vs Q E hr h => ?_)
  · obtain ⟨l, ps, st, rfl, _⟩ := h
    rfl
  · obtain ⟨l, ps, st, rfl, hLs, hlen, hst, k⟩ := h
    obtain ⟨as, hL, hE⟩ := id hLs
    have ha : as.length = ps.length := hE.1
    refine ⟨_, (pss_cons (ps_if (pt_cmpR op_gt (pe_callB call_len_seq (by rfl) T.b_len PySem.boot_len (pa_cons (pv 0) pa_nil)) (pgl T.c_MOST_PIECES) (nomark _)) (pss_one (ps_ret (pe_tup (pa_cons pe_int (pa_cons pe_int pa_nil))))) pss_nil)
        (pss_cons (ps_for PassesOwn.never rfl (pi_range2 rfl T.b_range (pa_cons (pv 1) (pa_cons (pe_callB call_len_seq (by rfl) T.b_len PySem.boot_len (pa_cons (pv 0) pa_nil)) pa_nil))) (pg_name (i := 2) sc_pieces_fault.nd rfl (Or.inl rfl)) (pss_one (ps_if (pt_val (pcl O_meets_one_before_badly hr (by decide) (pa_cons (pv 0) (pa_cons (pv 2) pa_nil)))) (pss_one (ps_ret (pe_tup (pa_cons pe_int (pa_cons (pv 2) pa_nil))))) pss_nil)))
        (pss_cons (ps_for PassesOwn.never rfl (pi_range2 rfl T.b_range (pa_cons (pv 1) (pa_cons (pe_callB call_len_seq (by rfl) T.b_len PySem.boot_len (pa_cons (pv 0) pa_nil)) pa_nil))) (pg_name (i := 2) sc_pieces_fault.nd rfl (Or.inl rfl)) (pss_one (ps_if (pt_val (pcl O_is_one_too_many hr (by decide) (pa_cons (pv 0) (pa_cons (pv 2) pa_nil)))) (pss_one (ps_ret (pe_tup (pa_cons pe_int (pa_cons (pv 2) pa_nil))))) pss_nil)))
        (pss_one (ps_ret (pe_tup (pa_cons pe_int (pa_cons pe_int pa_nil)))))))), ?_⟩
    refine ⟨_, rfl, l, _, rfl, .inl (SqL.of hL), _, _, rfl, rfl, _, rfl, ite2 (fun r => ?_) (fun r => ?_)⟩
    · have r : (64 : Int) < ((as.map V.ref).length : Nat) := dT r
      rw [List.length_map, ha] at r
      refine ⟨(by show 2 ≤ sizeLine; decide), fun t ht => ?_⟩
      refine k _ t _ _ (same_new ht) upd_same ⟨fun z => absurd z (by decide), fun o => ?_⟩
      have := o.1
      omega
    have r : ¬ (64 : Int) < ((as.map V.ref).length : Nat) := dF r
    rw [List.length_map, ha] at r
    refine ⟨_, rfl, _, rfl, l, _, rfl, .inl (SqL.of hL), _, _, rfl, ⟨by omega, by omega, by rw [List.length_map, ha]; omega, by rw [List.length_map, ha]; omega⟩, for_range (fun i σ H' => Same H H' ∧ (∃ v, σ = [some (.ref l), some (.int (st : Nat)), v]) ∧ ∀ j p, st ≤ j → j < st + i → ps[j]? = some p → ((ps.take j).any fun q => Mth.badB q p) = false)
      ⟨Same.refl, ⟨none, rfl⟩, fun j p h1 h2 => by omega⟩ ?_ ?_⟩
    · rintro i σ H' hi ⟨s1, ⟨v, rfl⟩, hf⟩
      rw [List.length_map, ha] at hi
      have hi2 : st + i < ps.length := by omega
      refine ⟨_, rfl, _, rfl, l, ps, st + i, _, _, rfl, by omega, hLs.keep (kp_piece CP) s1, List.getElem?_eq_getElem hi2, hlen, fun H2 s2 => ⟨_, rfl, ite2 (fun q => ?_) (fun q => ?_)⟩⟩
      · refine ⟨_, rfl, (by show 2 ≤ sizeLine; decide), fun t ht => ?_⟩
        refine k _ t _ _ ((s1.trans s2).trans (same_new ht)) upd_same ⟨fun z => absurd z (by decide), fun o => ?_⟩
        rw [o.2.1 (st + i) _ (by omega) (List.getElem?_eq_getElem hi2)] at q
        cases q
      · refine ⟨s1.trans s2, ⟨_, rfl⟩, fun j p h1 h2 e => ?_⟩
        by_cases z : j = st + i
        · subst z
          rw [List.getElem?_eq_getElem hi2] at e
          cases e
          exact q
        · exact hf j p h1 (by omega) e
    · rintro σ H' ⟨s1, ⟨v, rfl⟩, hf⟩
      rw [List.length_map, ha] at hf
      have hf : ∀ j p, st ≤ j → ps[j]? = some p → ((ps.take j).any fun q => Mth.badB q p) = false := fun j p h1 e => hf j p h1 (by have := (List.getElem?_eq_some_iff.mp e).1; omega) e
      refine ⟨_, rfl, _, rfl, l, _, rfl, .inl (SqL.of (s1 _ _ hL)), _, _, rfl, ⟨by omega, by omega, by rw [List.length_map, ha]; omega, by rw [List.length_map, ha]; omega⟩, for_range (fun i σ H' => Same H H' ∧ (∃ v, σ = [some (.ref l), some (.int (st : Nat)), v]) ∧ ∀ j p, st ≤ j → j < st + i → ps[j]? = some p → Mth.manyB ps j p = false)
        ⟨s1, ⟨_, rfl⟩, fun j p h1 h2 => by omega⟩ ?_ ?_⟩
      · rintro i σ H' hi ⟨s1, ⟨v, rfl⟩, hg⟩
        rw [List.length_map, ha] at hi
        have hi2 : st + i < ps.length := by omega
        refine ⟨_, rfl, _, rfl, l, ps, st + i, _, _, rfl, by omega, hLs.keep (kp_piece CP) s1, List.getElem?_eq_getElem hi2, hlen, fun H2 s2 => ⟨_, rfl, ite2 (fun q => ?_) (fun q => ?_)⟩⟩
        · refine ⟨_, rfl, (by show 2 ≤ sizeLine; decide), fun t ht => ?_⟩
          refine k _ t _ _ ((s1.trans s2).trans (same_new ht)) upd_same ⟨fun z => absurd z (by decide), fun o => ?_⟩
          rw [o.2.2 (st + i) _ (by omega) (List.getElem?_eq_getElem hi2)] at q
          cases q
        · refine ⟨s1.trans s2, ⟨_, rfl⟩, fun j p h1 h2 e => ?_⟩
          by_cases z : j = st + i
          · subst z
            rw [List.getElem?_eq_getElem hi2] at e
            cases e
            exact q
          · exact hg j p h1 (by omega) e
      · rintro σ H' ⟨s1, ⟨v, rfl⟩, hg⟩
        rw [List.length_map, ha] at hg
        refine ⟨(by show 2 ≤ sizeLine; decide), fun t ht => ?_⟩
        exact k _ t _ _ (s1.trans (same_new ht)) upd_same ⟨fun _ => ⟨by omega, hf, fun j p h1 e => hg j p h1 (by have := (List.getElem?_eq_some_iff.mp e).1; omega) e⟩, fun _ => rfl⟩
end
end Tube
namespace Tube
open PySem PySem.Spec PyProof.Rows L2
open Neon (Piece Point Bytes Stroke)
def BadJ (C : Addr) (H : Hp) (j : Addr) : Prop := ∃ (dx : Addr) (v1 v3 v4 : V) (k : Int), H j = some (.ins C dx (jf v1 (.int k) v3 v4)) ∧ k ≠ 0
def GoodJ (C CP : Addr) (H : Hp) (j : Addr) (ps : List Piece) : Prop := ∃ (dx l : Addr) (v3 v4 : V), H j = some (.ins C dx (jf (.ref l) (.int 0) v3 v4)) ∧ LstOf (PieceAt CP) H l ps
def spJS (C CP : Addr) : Sp := fun vs H Q _ => ∃ (a : Addr) (rws : List Bytes), vs = [.ref a] ∧ LstOf BytesAt H a rws ∧ rws.length ≤ 70001 ∧ (∀ w ∈ rws, w.length ≤ 70000) ∧ 1 ≤ rws.length ∧
  (Mth.goodRows [] (rws.drop 1) = none → ∀ (H' : Hp) (j : Addr), Same H H' → BadJ C H' j → Q (.ref j) H') ∧
  ∀ sts, Mth.goodRows [] (rws.drop 1) = some sts → ∀ (H' : Hp) (j : Addr), Same H H' → GoodJ C CP H' j (sts.flatMap Neon.piecesOf) → Q (.ref j) H'
def spJudge (K : PySem.W.Frag) (C CP : Addr) : Sp := fun vs H Q _ => ∃ (a : Addr) (bs : Bytes), vs = [.ref a] ∧ SqL K H a (bs.map bV) ∧ bs.length ≤ 70000 ∧
  (Mth.piecesIn bs = none → ∀ (H' : Hp) (j : Addr), Same H H' → BadJ C H' j → Q (.ref j) H') ∧
  ∀ ps, Mth.piecesIn bs = some ps → ps.length ≤ 64 → ∀ (H' : Hp) (j : Addr), Same H H' → GoodJ C CP H' j ps → Q (.ref j) H'
theorem good_some {past : List Stroke} {w : Bytes} {r : List Bytes} {s : Stroke} (h : Neon.strokeIn w = some s) : Mth.goodRows past (w :: r) = match Neon.wrongStroke (past.flatMap Neon.piecesOf) s with
    | some _ => none
    | none => Mth.goodRows (past ++ [s]) r := by
  rw [Mth.goodRows, h]
  all_goals (try dsimp only)
  all_goals (cases e : Neon.wrongStroke (past.flatMap Neon.piecesOf) s <;> rfl)
theorem good_no {past : List Stroke} {w : Bytes} {r : List Bytes} (h : Neon.strokeIn w = none) : Mth.goodRows past (w :: r) = none := by rw [Mth.goodRows, h]
theorem good_bad {past : List Stroke} {w : Bytes} {r : List Bytes} {s : Stroke} (h : Neon.strokeIn w = some s) (n : ¬ Neon.wrongStroke (past.flatMap Neon.piecesOf) s = none) : Mth.goodRows past (w :: r) = none := by
  rw [good_some h]
  cases e : Neon.wrongStroke (past.flatMap Neon.piecesOf) s with
  | none => exact absurd e n
  | some x => rfl
theorem good_go {past : List Stroke} {w : Bytes} {r : List Bytes} {s : Stroke} (h : Neon.strokeIn w = some s) (n : Neon.wrongStroke (past.flatMap Neon.piecesOf) s = none) : Mth.goodRows past (w :: r) = Mth.goodRows (past ++ [s]) r := by
  rw [good_some h, n]
theorem mapM_len {α β : Type} {f : α → Option β} : ∀ {l : List α} {ys : List β}, l.mapM f = some ys → ys.length = l.length
  | [], ys, h => by simp at h; subst h; rfl
  | a :: l, ys, h => by
    rw [List.mapM_cons] at h
    cases h1 : f a with
    | none => rw [h1] at h; simp at h
    | some b =>
      rw [h1] at h
      cases h2 : l.mapM f with
      | none => rw [h2] at h; simp at h
      | some bs =>
        rw [h2] at h
        simp at h
        subst h
        rw [List.length_cons, List.length_cons, mapM_len h2]
theorem stroke_len {w : Bytes} {s : Stroke} (h : Neon.strokeIn w = some s) : 2 ≤ s.length ∧ s.length ≤ 65 := by
  unfold Neon.strokeIn at h
  split at h
  · split at h
    · next c => rw [mapM_len h]; exact c.2
    · cases h
  · cases h
theorem LstOf.all {α : Type} {R : Hp → Addr → α → Prop} {H : Hp} {l : Addr} {xs : List α} (h : LstOf R H l xs) : ∀ x ∈ xs, ∃ a, R H a x := fun x hx => by
  obtain ⟨as, _, hE⟩ := h
  obtain ⟨j, hj, rfl⟩ := List.mem_iff_getElem.mp hx
  obtain ⟨a, _, r⟩ := hE.get (List.getElem?_eq_getElem hj)
  exact ⟨a, r⟩
theorem good_many : ∀ (rows : List Bytes) (past sts : List Stroke), Mth.goodRows past rows = some sts → (past.flatMap Neon.piecesOf).length ≤ 64 → (sts.flatMap Neon.piecesOf).length ≤ 64
  | [], past, sts, h, q => by cases h; exact q
  | w :: r, past, sts, h, q => by
    cases e : Neon.strokeIn w with
    | none => rw [good_no e] at h; cases h
    | some s =>
      by_cases n : Neon.wrongStroke (past.flatMap Neon.piecesOf) s = none
      · rw [good_go e n] at h
        refine good_many r _ _ h ?_
        rw [List.flatMap_append]
        have := ((Mth.wrong_none _ _).mp n).2.2.1
        simpa using this
      · rw [good_bad e n] at h; cases h
section
variable {P : Program} {w : World} {K : PySem.W.Frag} {mg : Str → Option Value} {base : Heap} {CP CJ : Addr}
set_option maxHeartbeats 8000000
theorem ok_judge_strokes (T : Txt K mg) (O_Judged : OkC P w K mg base 1 "Judged" CJ ["self", "pieces", "kind", "line", "which"] (spJudged CJ)) (O_read_points : OkF P w K mg base 4 "read_points" ["row"] spPts) (O_points_fault : OkF P w K mg base 1 "points_fault" ["points"] spPtF)
    (O_pieces_between : OkF P w K mg base 3 "pieces_between" ["points"] (spBetween CP)) (O_pieces_fault : OkF P w K mg base 7 "pieces_fault" ["pieces", "start"] (spPcF CP))
    (D : Dn K mg "judge_strokes" s_judge_strokes ["rows"]) : OkF P w K mg base 8 "judge_strokes" ["rows"] (spJS CJ CP) := D.ok fun f fd F => by
  refine F.ok sc_judge_strokes (fun vs H Q E h => ?_) (fun cdv A outer s H vs Q E hr h => ?_)
  · obtain ⟨a, rws, rfl, _⟩ := h
    rfl
  · obtain ⟨a, rws, rfl, ⟨as, hL, hE⟩, hlen, hwl, hne, k1, k2⟩ := h
    have ha : as.length = rws.length := hE.1
    refine ⟨_, (pss_cons (ps_set (i := 1) sc_judge_strokes.nd rfl (Or.inl rfl) (pe_lst pa_nil))
        (pss_cons (ps_for PassesOwn.never rfl (pi_range2 rfl T.b_range (pa_cons pe_int (pa_cons (pe_callB call_len_seq (by rfl) T.b_len PySem.boot_len (pa_cons (pv 0) pa_nil)) pa_nil))) (pg_name (i := 2) sc_judge_strokes.nd rfl (Or.inl rfl)) (pss_cons (ps_set (i := 3) sc_judge_strokes.nd rfl (Or.inl rfl) (pcl O_read_points hr (by decide) (pa_cons (pe_ix ix_list (pv 0) (pv 2) (fun _ _ => rfl)) pa_nil)))
        (pss_cons (ps_if (pt_cmpR op_isN (pv 3) pe_non (nomark _)) (pss_one (ps_ret (pmk O_Judged hr (by decide) (pa_cons (pe_lst pa_nil) (pa_cons pe_int (pa_cons (pv 2) (pa_cons pe_int pa_nil))))))) pss_nil)
        (pss_cons (ps_set (i := 4) sc_judge_strokes.nd rfl (Or.inl rfl) (pcl O_points_fault hr (by decide) (pa_cons (pv 3) pa_nil)))
        (pss_cons (ps_if (pt_cmpR op_eq (pe_ix ix_tup (pv 4) pe_int (fun _ _ => rfl)) pe_int (nomark _)) (pss_cons (ps_set (i := 5) sc_judge_strokes.nd rfl (Or.inl rfl) (pe_callB call_len_seq (by rfl) T.b_len PySem.boot_len (pa_cons (pv 1) pa_nil)))
        (pss_cons (ps_set (i := 1) sc_judge_strokes.nd rfl (Or.inl rfl) (pe_op op_cat (pv 1) (pcl O_pieces_between hr (by decide) (pa_cons (pv 3) pa_nil))))
        (pss_one (ps_set (i := 4) sc_judge_strokes.nd rfl (Or.inl rfl) (pcl O_pieces_fault hr (by decide) (pa_cons (pv 1) (pa_cons (pv 5) pa_nil))))))) pss_nil)
        (pss_one (ps_if (pt_cmpR op_ne (pe_ix ix_tup (pv 4) pe_int (fun _ _ => rfl)) pe_int (nomark _)) (pss_one (ps_ret (pmk O_Judged hr (by decide) (pa_cons (pe_lst pa_nil) (pa_cons (pe_ix ix_tup (pv 4) pe_int (fun _ _ => rfl)) (pa_cons (pv 2) (pa_cons (pe_ix ix_tup (pv 4) pe_int (fun _ _ => rfl)) pa_nil))))))) pss_nil)))))))
        (pss_one (ps_ret (pmk O_Judged hr (by decide) (pa_cons (pv 1) (pa_cons pe_int (pa_cons pe_int (pa_cons pe_int pa_nil))))))))), ?_⟩
    refine ⟨Nat.zero_le _, fun l0 hl0 => ?_⟩
    have s0 := same_new (o := .lst []) hl0
    refine ⟨_, rfl, a, _, rfl, .inl (SqL.of (s0 _ _ hL)), _, _, rfl, ⟨by decide, by decide, by rw [List.length_map, ha]; omega, by rw [List.length_map, ha]; omega⟩, for_range (fun i σ H' => ∃ (l : Addr) (v2 v3 v4 v5 : Option V) (past : List Stroke), σ = [some (.ref a), some (.ref l), v2, v3, v4, v5] ∧
      Same H H' ∧ LstOf (PieceAt CP) H' l (past.flatMap Neon.piecesOf) ∧ Mth.goodRows [] (rws.drop 1) = Mth.goodRows past (rws.drop (i + 1)) ∧ (past.flatMap Neon.piecesOf).length ≤ 64)
      ⟨l0, none, none, none, none, [], rfl, s0, ⟨[], upd_same, Each.nil⟩, rfl, Nat.zero_le _⟩ ?_ ?_⟩
    · rintro i σ H' hi ⟨l, v2, v3, v4, v5, past, rfl, s1, hP, hg, hpl⟩
      rw [List.length_map, ha] at hi
      have i1 : i + 1 < rws.length := by omega
      have ew : rws[i + 1]? = some rws[i + 1] := List.getElem?_eq_getElem i1
      obtain ⟨b, hb, hwb⟩ := hE.get ew
      have hwb : BytesAt H' b rws[i + 1] := s1 _ _ hwb
      rw [drop_at ew] at hg
      refine ⟨_, rfl, _, rfl, a, _, _, _, rfl, rfl, SqL.of (s1 _ _ hL), at_of (j := i + 1) (by omega) (ref_at hb), b, _, rfl, hwb, hwl _ (List.getElem_mem i1), fun hn H2 s2 => ?_, fun st hst H2 lp s2 hpts => ?_⟩
      · refine ⟨_, rfl, rfl, _, rfl, ite2 (fun _ => ?_) (fun q => absurd rfl (dF q))⟩
        refine ⟨Nat.zero_le _, fun l9 hl9 => ⟨_, rfl, fun x dx hx hdx hne => ?_⟩⟩
        refine ⟨x, dx, _, _, _, _, rfl, upd_same, fun H5 hp5 k5 => ⟨rfl, ?_⟩⟩
        have s5 := Same.made hx hdx k5
        exact k1 (by rw [hg, good_no hn]) H5 x (((s1.trans s2).trans (same_new hl9)).trans s5) ⟨dx, _, _, _, 1, hp5, by decide⟩
      have sl := stroke_len hst
      refine ⟨_, rfl, rfl, _, rfl, ite2 (fun q => by cases dT q) (fun _ => ?_)⟩
      refine ⟨_, rfl, lp, _, rfl, hpts, by rw [List.length_map]; exact sl.2, fun H3 t k n s3 ht hk => ?_⟩
      have s3' := (s1.trans s2).trans s3
      have hP3 := (hP.keep (kp_piece CP) s2).keep (kp_piece CP) s3
      rw [okS_cap] at hk
      have bad : ∀ (Hc : Hp) (kk nn : Int) (tt : Addr) (lc : Addr) (v5 : Option V), Same H Hc → Hc tt = some (.tup [.int kk, .int nn]) → kk ≠ 0 → ¬ Neon.wrongStroke (past.flatMap Neon.piecesOf) st = none →
          ∀ (l9 : Addr), Hc l9 = none → ∀ (x dx : Addr), (upd Hc l9 (.lst [])) x = none → (upd Hc l9 (.lst [])) dx = none → dx ≠ x → ∀ (v1 v3 v4 : V), spJudged CJ (.ref x :: ([v1, .int kk, v3, v4] ++ [])) (upd (upd (upd Hc l9 (.lst [])) dx (.own x)) x (.ins CJ dx [])) (fun v H2 => v = .non ∧ Q (.ref x) H2) E0 := by
        intro Hc kk nn tt lc v5 sc htt hkk hw l9 hl9 x dx hx hdx hne v1 v3 v4
        refine ⟨x, dx, _, _, _, _, rfl, upd_same, fun H5 hp5 k5 => ⟨rfl, ?_⟩⟩
        have s5 := Same.made hx hdx k5
        exact k1 (by rw [hg, good_bad hst hw]) H5 x ((sc.trans (same_new hl9)).trans s5) ⟨dx, _, _, _, kk, hp5, hkk⟩
      refine ⟨_, rfl, t, _, _, _, rfl, rfl, SqT.of ht, atI_nat (j := 0) rfl, rfl, _, rfl, ite2 (fun q => ?_) (fun q => ?_)⟩
      · have q : k = 0 := V.int.inj (dT q)
        have ok := hk.mp q
        have ecap : st.map Mth.capP = st := (List.map_congr_left (g := id) fun p hp => Mth.cap_fine (ok.1 p hp)).trans (List.map_id _)
        rw [ecap] at hpts
        obtain ⟨pas, hpL, hpE⟩ := id hP3
        refine ⟨_, rfl, l, _, rfl, .inl (SqL.of hpL), ?_⟩
        refine ⟨_, rfl, _, rfl, lp, st, rfl, hpts.keep kp_pt s3, sl.2, ok, fun H4 lb s4 hB => ?_⟩
        obtain ⟨nas, hnL, hnE⟩ := hB
        have hpE4 := hpE.keep (kp_piece CP) s4
        have lpas : pas.length ≤ 64 := by rw [hpE.1]; exact hpl
        have lnas : nas.length ≤ 64 := by rw [hnE.1, Mth.pieces_len]; omega
        refine ⟨l, lb, _, _, rfl, rfl, s4 _ _ hpL, hnL, by rw [List.length_map, List.length_map]; exact Nat.le_trans (Nat.add_le_add lpas lnas) (by decide), fun ln hln => ?_⟩
        have s5 := same_new (o := .lst (pas.map V.ref ++ nas.map V.ref)) hln
        have hA : LstOf (PieceAt CP) (upd H4 ln (.lst (pas.map V.ref ++ nas.map V.ref))) ln (past.flatMap Neon.piecesOf ++ Neon.piecesOf st) :=
          ⟨pas ++ nas, by rw [upd_same, List.map_append], (hpE4.append hnE).keep (kp_piece CP) s5⟩
        have lA : (past.flatMap Neon.piecesOf ++ Neon.piecesOf st).length ≤ 200 := by
          rw [List.length_append, Mth.pieces_len]
          omega
        have est : ((pas.map V.ref).length : Int) = ((past.flatMap Neon.piecesOf).length : Nat) := by rw [List.length_map, hpE.1]
        rw [est]
        refine ⟨_, rfl, _, rfl, ln, _, (past.flatMap Neon.piecesOf).length, rfl, hA, lA, by rw [List.length_append]; omega, fun H6 t6 k6 n6 s6 ht6 hk6 => ?_⟩
        have s6' := ((s3'.trans s4).trans s5).trans s6
        have wok : Neon.wrongStroke (past.flatMap Neon.piecesOf) st = none ↔ k6 = 0 := by
          rw [hk6, stroke_ok]
          · exact ⟨fun z => z.2, fun z => ⟨ok, z⟩⟩
          · intro _ p hp
            obtain ⟨_, z⟩ := hA.all p hp
            exact z.1.ne
        refine ⟨_, rfl, t6, _, _, _, rfl, rfl, SqT.of ht6, atI_nat (j := 0) rfl, rfl, _, rfl, ite2 (fun q6 => ?_) (fun q6 => ?_)⟩
        · have q6 : k6 ≠ 0 := fun z => dF (nF q6) (by rw [z])
          refine ⟨Nat.zero_le _, fun l9 hl9 => ?_⟩
          have ht9 := (same_new (o := .lst []) hl9) _ _ ht6
          refine ⟨_, rfl, t6, _, _, _, rfl, rfl, SqT.of ht9, atI_nat (j := 0) rfl, _, rfl, _, rfl, t6, _, _, _, rfl, rfl, SqT.of ht9, atI_nat (j := 1) rfl, fun x dx hx hdx hne => ?_⟩
          exact bad H6 k6 n6 t6 ln none s6' ht6 q6 (fun z => q6 (wok.mp z)) l9 hl9 x dx hx hdx hne _ _ _
        · have q6 : k6 = 0 := V.int.inj (dT (nT q6))
          refine ⟨ln, _, _, _, _, past ++ [st], rfl, s6', ?_, ?_, ?_⟩
          · rw [List.flatMap_append]
            have e : ([st] : List Stroke).flatMap Neon.piecesOf = Neon.piecesOf st := by simp
            rw [e]
            exact hA.keep (kp_piece CP) s6
          · rw [hg, good_go hst (wok.mpr q6)]
          · rw [List.flatMap_append]
            have e : ([st] : List Stroke).flatMap Neon.piecesOf = Neon.piecesOf st := by simp
            rw [e]
            exact ((hk6.mp q6)).1
      · have q : k ≠ 0 := fun z => dF q (by rw [z])
        refine ⟨_, rfl, t, _, _, _, rfl, rfl, SqT.of ht, atI_nat (j := 0) rfl, rfl, _, rfl, ite2 (fun q6 => ?_) (fun q6 => absurd (V.int.inj (dT (nT q6))) q)⟩
        refine ⟨Nat.zero_le _, fun l9 hl9 => ?_⟩
        have ht9 := (same_new (o := .lst []) hl9) _ _ ht
        refine ⟨_, rfl, t, _, _, _, rfl, rfl, SqT.of ht9, atI_nat (j := 0) rfl, _, rfl, _, rfl, t, _, _, _, rfl, rfl, SqT.of ht9, atI_nat (j := 1) rfl, fun x dx hx hdx hne => ?_⟩
        refine bad H3 k n t l none s3' ht q (fun z => ?_) l9 hl9 x dx hx hdx hne _ _ _
        have z := (Mth.wrong_none _ _).mp z
        exact q (hk.mpr ⟨z.1, z.2.1⟩)
    · rintro σ H' ⟨l, v2, v3, v4, v5, past, rfl, s1, hP, hg, hpl⟩
      have e : rws.drop ((((as.map V.ref).length : Int) - 1).toNat + 1) = [] := by
        rw [List.length_map, ha]
        exact List.drop_eq_nil_of_le (by omega)
      rw [e] at hg
      refine ⟨_, rfl, fun x dx hx hdx hne => ?_⟩
      refine ⟨x, dx, _, _, _, _, rfl, upd_same, fun H5 hp5 k5 => ⟨rfl, ?_⟩⟩
      have s5 := Same.made hx hdx k5
      exact k2 past (by rw [hg]; rfl) H5 x (s1.trans s5) ⟨dx, l, _, _, hp5, hP.keep (kp_piece CP) s5⟩
end
end Tube
namespace Tube
open PySem PySem.Spec PyProof.Rows L2
open Neon (Piece Point Bytes Stroke)
section
variable {P : Program} {w : World} {K : PySem.W.Frag} {mg : Str → Option Value} {base : Heap} {CP CJ : Addr}
set_option maxHeartbeats 8000000
theorem ok_judge (KJ : KJudged K mg CJ) (T : Txt K mg) (O_Judged : OkC P w K mg base 1 "Judged" CJ ["self", "pieces", "kind", "line", "which"] (spJudged CJ)) (O_cut : OkF P w K mg base 1 "cut" ["row", "mark"] (spCut K)) (O_is_sign_line : OkF P w K mg base 3 "is_sign_line" ["row"] spSign)
    (O_judge_strokes : OkF P w K mg base 8 "judge_strokes" ["rows"] (spJS CJ CP)) (D : Dn K mg "judge" s_judge ["t"]) : OkF P w K mg base 9 "judge" ["t"] (spJudge K CJ CP) := D.ok fun f fd F => by
  refine F.ok sc_judge (fun vs H Q E h => ?_) (fun cdv A outer s H vs Q E hr h => ?_)
  · obtain ⟨a, bs, rfl, _⟩ := h
    rfl
  · obtain ⟨a, bs, rfl, hS, hlen, k1, k2⟩ := h
    refine ⟨_, (pss_cons (ps_set (i := 1) sc_judge.nd rfl (Or.inl rfl) (pcl O_cut hr (by decide) (pa_cons (pv 0) (pa_cons (pgl T.c_LINE_FEED) pa_nil))))
        (pss_cons (ps_set (i := 2) sc_judge.nd rfl (Or.inl rfl) (pe_op op_sub (pe_callB call_len_seq (by rfl) T.b_len PySem.boot_len (pa_cons (pv 1) pa_nil)) pe_int))
        (pss_cons (ps_if (PW.pt (pw_or (pt_cmpR op_eq (pv 2) pe_int (nomark _)) (pw_or1 (pt_not (pt_val (pcl O_is_sign_line hr (by decide) (pa_cons (pe_ix ix_list (pv 1) pe_int (fun _ _ => rfl)) pa_nil))))))) (pss_one (ps_ret (pmk O_Judged hr (by decide) (pa_cons (pe_lst pa_nil) (pa_cons pe_int (pa_cons pe_int (pa_cons pe_int pa_nil))))))) pss_nil)
        (pss_cons (ps_set (i := 3) sc_judge.nd rfl (Or.inl rfl) (pcl O_judge_strokes hr (by decide) (pa_cons (pe_slice sl_list (pv 1) po_none (po_some (pv 2))) pa_nil)))
        (pss_cons (ps_if (PW.pt (pw_and (pt_cmpR op_eq (pe_fld (pv 3) rfl) pe_int (nomark _)) (pw_and1 (PW.pt (pw_or (pt_cmpR op_eq (pv 2) pe_int (nomark _)) (pw_or1 (pt_cmpR op_gt (pe_callB call_len_seq (by rfl) T.b_len PySem.boot_len (pa_cons (pe_ix ix_list (pv 1) (pv 2) (fun _ _ => rfl)) pa_nil)) pe_int (nomark _)))))))) (pss_one (ps_ret (pmk O_Judged hr (by decide) (pa_cons (pe_lst pa_nil) (pa_cons pe_int (pa_cons (pv 2) (pa_cons pe_int pa_nil))))))) pss_nil)
        (pss_one (ps_ret (pv 3)))))))), ?_⟩
    refine ⟨_, rfl, a, bs, 10, rfl, hS, hlen, fun H1 l s1 hw => ?_⟩
    obtain ⟨as, hL, hE⟩ := hw
    have hcl := Mth.cut_len 10 bs
    obtain ⟨mid, last, ews⟩ : ∃ mid last, Neon.cutAt 10 bs = mid ++ [last] := ⟨_, _, (List.dropLast_concat_getLast (Mth.cut_ne 10 bs)).symm⟩
    rw [ews] at hE hcl
    have ha : as.length = mid.length + 1 := by rw [hE.1, List.length_append]; rfl
    have el : ((as.map V.ref).length : Int) - 1 = (mid.length : Nat) := by rw [List.length_map, ha]; omega
    refine ⟨_, rfl, l, _, rfl, .inl (SqL.of hL), _, _, rfl, rfl, ?_⟩
    dsimp only
    rw [el]
    have badr : ∀ (Hc : Hp), Same H Hc → Mth.piecesIn bs = none → ∀ (l9 : Addr), Hc l9 = none → ∀ (x dx : Addr), (upd Hc l9 (.lst [])) x = none → (upd Hc l9 (.lst [])) dx = none → dx ≠ x → ∀ (v1 v3 v4 : V),
        spJudged CJ (.ref x :: ([v1, .int 1, v3, v4] ++ [])) (upd (upd (upd Hc l9 (.lst [])) dx (.own x)) x (.ins CJ dx [])) (fun v H2 => v = .non ∧ Q (.ref x) H2) E0 := by
      intro Hc sc hn l9 hl9 x dx hx hdx hne v1 v3 v4
      refine ⟨x, dx, _, _, _, _, rfl, upd_same, fun H5 hp5 k5 => ⟨rfl, ?_⟩⟩
      have s5 := Same.made hx hdx k5
      exact k1 hn H5 x ((sc.trans (same_new hl9)).trans s5) ⟨dx, _, _, _, 1, hp5, by decide⟩
    refine ⟨_, rfl, rfl, _, rfl, ite2 (fun r => iteT1 ?_) (fun r => ?_)⟩
    · have r := V.int.inj (dT r)
      have e : mid = [] := List.length_eq_zero_iff.mp (Int.ofNat.inj r)
      rw [e] at ews
      exact ⟨Nat.zero_le _, fun l9 hl9 x dx hx hdx hne => badr H1 s1 (Mth.pieces_short ews) l9 hl9 x dx hx hdx hne _ _ _⟩
    have r : mid ≠ [] := fun e => dF r (by rw [e]; rfl)
    obtain ⟨w0, m2, rfl⟩ : ∃ w0 m2, mid = w0 :: m2 := by
      cases mid with
      | nil => exact absurd rfl r
      | cons x y => exact ⟨x, y, rfl⟩
    have h0g : (w0 :: m2 ++ [last])[0]? = some w0 := rfl
    obtain ⟨b0, hb0, h0⟩ := hE.get h0g
    have lw0 : w0.length ≤ 70000 := Nat.le_trans (hcl.2 w0 (by simp)) hlen
    refine ⟨_, rfl, l, _, _, _, rfl, rfl, SqL.of hL, atI_nat (j := 0) (ref_at hb0), b0, w0, rfl, h0, lw0, fun H2 s2 => ⟨_, rfl, ite2 (fun r2 => ?_) (fun r2 => ?_)⟩⟩
    · have r2 := nF r2
      have hn : Neon.nameIn w0 = none := by
        cases e : Neon.nameIn w0 with
        | none => rfl
        | some x => rw [e] at r2; cases r2
      have pn : Mth.piecesIn bs = none := by
        cases m2 with
        | nil => exact Mth.pieces_head ews hn
        | cons x y => exact Mth.pieces_head ews hn
      exact ⟨Nat.zero_le _, fun l9 hl9 x dx hx hdx hne => badr H2 (s1.trans s2) pn l9 hl9 x dx hx hdx hne _ _ _⟩
    have r2 := nT r2
    have pl := Mth.pieces_lines ews r2
    have ec : cutV (as.map V.ref) none (some (((w0 :: m2).length : Nat) : Int)) = (as.take (w0 :: m2).length).map V.ref := by
      rw [cut_head _ (w0 :: m2).length _ rfl (by rw [List.length_map, ha]; omega), List.map_take]
    have hL2 := s2 _ _ hL
    refine ⟨_, rfl, _, rfl, _, rfl, l, _, rfl, SqL.of hL2, fun pa hpa => ?_⟩
    rw [ec]
    have s3 := same_new (o := .lst ((as.take (w0 :: m2).length).map V.ref)) hpa
    have etk : (w0 :: m2 ++ [last]).take (w0 :: m2).length = w0 :: m2 := List.take_left
    have hE3 := ((hE.take (w0 :: m2).length).keep kp_bytes s2).keep kp_bytes s3
    rw [etk] at hE3
    have s3' := (s1.trans s2).trans s3
    refine ⟨pa, w0 :: m2, rfl, ⟨_, upd_same, hE3⟩, ?_, fun x hx => Nat.le_trans (hcl.2 x (by simp at hx ⊢; exact hx.elim .inl fun q => .inr (.inl q))) hlen, by simp, fun hn H4 j s4 hJ => ?_, fun sts hg H4 j s4 hJ => ?_⟩
    · have := hcl.1
      rw [List.length_append] at this
      simp only [List.length_cons, List.length_nil] at this ⊢
      omega
    · obtain ⟨dx, v1, v3, v4, k, hj, hk⟩ := hJ
      refine ⟨_, rfl, j, CJ, dx, _, _, rfl, hj, KJ.cl, KJ.no _ (by simp), jf_kind .., rfl, _, rfl, ite2 (fun q => absurd (V.int.inj (dT q)) hk) (fun _ => iteF1 ?_)⟩
      refine ⟨_, rfl, ?_⟩
      have hn : Mth.goodRows [] m2 = none := hn
      exact k1 (by rw [pl, hn]) H4 j (s3'.trans s4) ⟨dx, v1, v3, v4, k, hj, hk⟩
    · have hg : Mth.goodRows [] m2 = some sts := hg
      have pl' : Mth.piecesIn bs = if last ≠ [] ∨ sts = [] then none else some (sts.flatMap Neon.piecesOf) := by rw [pl, hg]
      have gl := Mth.good_len _ _ _ hg
      rw [List.length_nil, Nat.zero_add] at gl
      obtain ⟨dx, lp, v3, v4, hj, hP⟩ := id hJ
      have s4' := s3'.trans s4
      refine ⟨_, rfl, j, CJ, dx, _, _, rfl, hj, KJ.cl, KJ.no _ (by simp), jf_kind .., rfl, _, rfl, ite2 (fun _ => ?_) (fun q => absurd rfl (dF q))⟩
      refine ⟨_, rfl, rfl, _, rfl, ite2 (fun q => iteT1 ?_) (fun q => ?_)⟩
      · have q := Int.ofNat.inj (V.int.inj (dT q))
        have e : sts = [] := by
          apply List.length_eq_zero_iff.mp
          have : m2.length + 1 = 1 := q
          omega
        refine ⟨Nat.zero_le _, fun l9 hl9 => ⟨_, rfl, fun x dx hx hdx hne => ?_⟩⟩
        exact badr H4 s4' (by rw [pl', if_pos (.inr e)]) l9 hl9 x dx hx hdx hne _ _ _
      · have q : sts ≠ [] := fun e => by
          rw [e] at gl
          have : m2 = [] := List.length_eq_zero_iff.mp gl.symm
          exact dF q (by rw [this]; rfl)
        have hlg : (w0 :: m2 ++ [last])[(w0 :: m2).length]? = some last := by
          rw [List.getElem?_append_right (Nat.le_refl _), Nat.sub_self]
          rfl
        obtain ⟨bl, hbl, hlst⟩ := hE.get hlg
        have hlst : BytesAt H4 bl last := s4 _ _ (s3 _ _ (s2 _ _ hlst))
        refine ⟨_, rfl, _, rfl, l, _, _, _, rfl, rfl, SqL.of (s4 _ _ (s3 _ _ hL2)), at_of (j := (w0 :: m2).length) rfl (ref_at hbl), bl, _, rfl, .inl (SqL.of hlst), _, _, rfl, rfl, _, rfl, ite2 (fun z => ?_) (fun z => ?_)⟩
        · have z : (0 : Int) < ((last.map bV).length : Nat) := dT z
          have e : last ≠ [] := fun e => by rw [e] at z; exact absurd z (by decide)
          refine ⟨Nat.zero_le _, fun l9 hl9 => ⟨_, rfl, fun x dx hx hdx hne => ?_⟩⟩
          exact badr H4 s4' (by rw [pl', if_pos (.inl e)]) l9 hl9 x dx hx hdx hne _ _ _
        · have z : ¬ (0 : Int) < ((last.map bV).length : Nat) := dF z
          have e : last = [] := by
            apply List.length_eq_zero_iff.mp
            rw [List.length_map] at z
            omega
          refine ⟨_, rfl, ?_⟩
          refine k2 _ (by rw [pl', if_neg (by rintro (u | u); exact u e; exact q u)]) (good_many _ _ _ hg (Nat.zero_le _)) H4 j s4' hJ
end
end Tube
namespace Tube
open PySem PySem.Spec PyProof.Rows L2
open Neon (Piece Point Bytes Stroke)
/-! ### glow.py -/
/-- what a part gives, where it writes nothing -/
def Gv (t : TE) (σ : L2.St) (H : Hp) (v : V) : Prop := ∀ Q : VK, Q v H → t σ H Q
section
variable {σ : L2.St} {H : Hp} {ta tb tc : TE} {i j k : Int} {b c : Bool}
theorem gv_c {v : V} : Gv (tC v) σ H v := fun _ q => q
theorem gv_var {n : Nat} {v : V} (h : σ[n]? = some (some v)) : Gv (tVar n) σ H v := fun _ q => ⟨v, h, q⟩
theorem gv_chain (ha : Gv ta σ H (.int i)) (hb : Gv tb σ H (.int j)) (hc : Gv tc σ H (.int k)) : Gv (tChain (rI0 fun i j => .bl (decide (i ≤ j))) (rI0 fun i j => .bl (decide (i ≤ j))) ta tb tc) σ H (.bl (decide (i ≤ j) && decide (j ≤ k))) := fun Q q => by
  refine ha _ (hb _ ⟨_, _, rfl, rfl, _, rfl, ite2 (fun r => ?_) (fun r => ?_)⟩)
  · rw [r, Bool.true_and] at q
    exact hc _ ⟨_, _, rfl, rfl, q⟩
  · rw [r, Bool.false_and] at q
    exact q
theorem gv_and (ha : Gv ta σ H (.bl b)) (hb : Gv tb σ H (.bl c)) : Gv (tAndV ta tb) σ H (.bl (b && c)) := fun Q q => by
  refine ha _ ⟨_, rfl, ite2 (fun r => ?_) (fun r => ?_)⟩
  · rw [r, Bool.true_and] at q
    exact hb _ q
  · rw [r, Bool.false_and] at q
    exact q
end
def spMiss (C : Addr) : Sp := fun vs H Q _ => ∃ (n : Nat) (l : Addr) (ps : List Piece), vs = [.int (n : Nat), .ref l] ∧ LstOf (PieceAt C) H l ps ∧ ps.length ≤ 64 ∧ Q (.bl (!decide (n < 2 ^ ps.length))) H
def nV (i : Nat) : V := .int (i : Nat)
def spNums (C : Addr) : Sp := fun vs H Q _ => ∃ (n : Nat) (l : Addr) (ps : List Piece), vs = [.int (n : Nat), .ref l] ∧ LstOf (PieceAt C) H l ps ∧ ps.length ≤ 64 ∧ ∀ (H' : Hp) (l' : Addr), Same H H' → H' l' = some (.lst ((Mth.numsTo n ps.length).map nV)) → Q (.ref l') H'
section
variable {P : Program} {w : World} {K : PySem.W.Frag} {mg : Str → Option Value} {base : Heap} {CP CJ CW CL : Addr}
set_option maxHeartbeats 8000000
theorem ok_has_missing (T : Txt K mg) (D : Dn K mg "has_missing_piece" s_has_missing_piece ["a", "pieces"]) : OkF P w K mg base 1 "has_missing_piece" ["a", "pieces"] (spMiss CP) := D.ok fun f fd F => by
  refine F.ok sc_has_missing_piece (fun vs H Q E h => ?_) (fun cdv A outer s H vs Q E hr h => ?_)
  · obtain ⟨n, l, ps, rfl, _⟩ := h
    rfl
  · obtain ⟨n, l, ps, rfl, ⟨as, hL, hE⟩, hlen, k⟩ := h
    refine ⟨_, (pss_one (ps_ret (pe_cmpR op_ne (pe_op op_shr (pv 0) (pe_callB call_len_seq (by rfl) T.b_len PySem.boot_len (pa_cons (pv 1) pa_nil))) pe_int (nomark _)))), ?_⟩
    refine ⟨_, rfl, _, rfl, l, _, rfl, .inl (SqL.of hL), _, _, rfl, rfl, Int.natCast_nonneg _, rfl, ?_⟩
    rw [dI, Int.toNat_natCast, List.length_map, hE.1, Mth.set_iff]
    exact k
theorem ok_numbers_of_set (T : Txt K mg) (D : Dn K mg "numbers_of_set" s_numbers_of_set ["a", "pieces"]) : OkF P w K mg base 2 "numbers_of_set" ["a", "pieces"] (spNums CP) := D.ok fun f fd F => by
  refine F.ok sc_numbers_of_set (fun vs H Q E h => ?_) (fun cdv A outer s H vs Q E hr h => ?_)
  · obtain ⟨n, l, ps, rfl, _⟩ := h
    rfl
  · obtain ⟨n, l, ps, rfl, ⟨as, hL, hE⟩, hlen, k⟩ := h
    have ha : as.length = ps.length := hE.1
    refine ⟨_, (pss_one (ps_ret (pe_lc (own := [("i", 2)]) rfl sc_numbers_of_set.nd (pi_range1 rfl T.b_range (pa_cons (pe_callB call_len_seq (by rfl) T.b_len PySem.boot_len (pa_cons (pv 1) pa_nil)) pa_nil)) (blkOk_by (by show blkC ["a", "pieces", "i"] (defScope s_numbers_of_set) _ _ = true; decide +kernel)) (fun _ _ _ _ _ => pg_name (i := 2) sc_numbers_of_set.nd rfl (Or.inl rfl) (Or.inr rfl)) (fun _ _ _ _ _ => pts_one (pt_cmpR op_eq (pe_op op_mod (pe_op op_shr (pv 0) (pv 2)) pe_int) pe_int (nomark _))) (fun _ _ _ _ _ => (pv 2))))), ?_⟩
    refine ⟨_, rfl, l, _, rfl, .inl (SqL.of hL), _, rfl, by rw [List.length_map, ha]; omega, by rw [List.length_map, ha]; omega, fun D hD => ?_⟩
    refine lc_range (fun i H' => Same H H' ∧ H' D = some (.lst ((Mth.numsTo n i).map nV))) ⟨same_new hD, upd_same⟩ (fun i H' hi ⟨s1, hD'⟩ => ?_) (fun H' ⟨s1, hD'⟩ => ?_)
    · rw [List.length_map, ha, Int.toNat_natCast] at hi
      have e0 : ((0 : Int) + (i : Nat)).toNat = i := by omega
      refine ⟨rfl, _, rfl, _, rfl, _, _, rfl, rfl, (by omega), _, _, rfl, rfl, (by show (0 : Int) < 2; decide), rfl, _, rfl, ?_⟩
      rw [dI, e0]
      refine ite2 (fun r => ?_) (fun r => ?_)
      · have r : Mth.bitB n i = true := r
        refine ⟨_, rfl, _, hD', ?_, sOff hD s1, ?_⟩
        · rw [List.length_map]
          exact Nat.lt_of_le_of_lt (Mth.nums_len ..) (Nat.lt_of_lt_of_le hi (Nat.le_trans hlen (by decide)))
        · rw [upd_same, Mth.nums_yes r, List.map_append]
          show some (HO.lst (_ ++ [V.int (0 + (i : Nat))])) = some (HO.lst (_ ++ [V.int (i : Nat)]))
          rw [Int.zero_add]
      · have r : Mth.bitB n i = false := r
        exact ⟨s1, by rw [Mth.nums_no r]; exact hD'⟩
    · rw [List.length_map, ha, Int.toNat_natCast] at hD'
      exact k H' D s1 hD'
end
end Tube
namespace Tube
open PySem PySem.Spec PyProof.Rows L2
open Neon (Piece Point Bytes Stroke)
/-! ### squares.py -/
def spLess : Sp := fun vs H Q _ => ∃ (t1 t2 : Addr) (a b c d : Int), vs = [.ref t1, .ref t2] ∧ H t1 = some (.tup [.int a, .int b]) ∧ H t2 = some (.tup [.int c, .int d]) ∧ (-(2 ^ 64) < b ∧ b < 2 ^ 64) ∧ (-(2 ^ 64) < d ∧ d < 2 ^ 64) ∧ Q (.bl (decide (a * d < c * b))) H
theorem PB.den {p : Piece} (b : PB p) (x y : Int) : 0 < (Mth.distP p x y).2 ∧ (Mth.distP p x y).2 ≤ 33538050 := Mth.dist_den x y b.ax b.ay b.bx b.by_ b.ne
section
variable {P : Program} {w : World} {K : PySem.W.Frag} {mg : Str → Option Value} {base : Heap} {CP CJ CW CL : Addr}
set_option maxHeartbeats 8000000
theorem ok_is_less (D : Dn K mg "is_less" s_is_less ["one", "other"]) : OkF P w K mg base 1 "is_less" ["one", "other"] spLess := D.ok fun f fd F => by
  refine F.ok sc_is_less (fun vs H Q E h => ?_) (fun cdv A outer s H vs Q E hr h => ?_)
  · obtain ⟨t1, t2, a, b, c, d, rfl, _⟩ := h
    rfl
  · obtain ⟨t1, t2, a, b, c, d, rfl, h1, h2, hb, hd, k⟩ := h
    refine ⟨_, (pss_one (ps_ret (pe_cmpR op_lt (pe_op op_mul (pe_ix ix_tup (pv 0) pe_int (fun _ _ => rfl)) (pe_ix ix_tup (pv 1) pe_int (fun _ _ => rfl))) (pe_op op_mul (pe_ix ix_tup (pv 1) pe_int (fun _ _ => rfl)) (pe_ix ix_tup (pv 0) pe_int (fun _ _ => rfl))) (nomark _)))), ?_⟩
    exact ⟨_, rfl, t1, _, _, _, rfl, rfl, SqT.of h1, atI_nat (j := 0) rfl, _, rfl, t2, _, _, _, rfl, rfl, SqT.of h2, atI_nat (j := 1) rfl, _, _, rfl, rfl, .inr hd, _, rfl, t2, _, _, _, rfl, rfl, SqT.of h2, atI_nat (j := 0) rfl, _, rfl, t1, _, _, _, rfl, rfl, SqT.of h1, atI_nat (j := 1) rfl, _, _, rfl, rfl, .inr hb, _, _, rfl, rfl, k⟩
end
end Tube
namespace Tube
open PySem PySem.Spec PyProof.Rows L2
open Neon (Piece Point Bytes Stroke)
/-! ### the answers -/
def outZ (r : Neon.Reply) : List Int := r.ret :: ((r.nums.map fun (n : Nat) => (n : Int)) ++ r.bytes.map fun (b : UInt8) => (b.toNat : Int))
def ansZ (c : NeonG.Call) : List Int := outZ (NeonG.answer c)
theorem of_set (t : Bytes) (a : Nat) (ok : Bool) (f : List Piece → Neon.Reply) : NeonG.ofSet t a ok f = if 65536 < t.length then Neon.MUCH else match Mth.piecesIn t with
    | none => Neon.WRONG
    | some l => if ok = false then Neon.BAD else if NeonG.isSet l a = false then Neon.NO else f l := by
  unfold NeonG.ofSet Neon.ofDrawing Mth.piecesIn
  show (if 65536 < t.length then _ else _) = _
  cases Neon.judge t <;> rfl
theorem set_much {t : Bytes} {a : Nat} {ok : Bool} {f : List Piece → Neon.Reply} (h : 65536 < t.length) : NeonG.ofSet t a ok f = Neon.MUCH := by rw [of_set, if_pos h]
theorem set_wrong {t : Bytes} {a : Nat} {ok : Bool} {f : List Piece → Neon.Reply} (h : ¬ 65536 < t.length) (e : Mth.piecesIn t = none) : NeonG.ofSet t a ok f = Neon.WRONG := by rw [of_set, if_neg h, e]
theorem set_bad {t : Bytes} {a : Nat} {ok : Bool} {f : List Piece → Neon.Reply} {l : List Piece} (h : ¬ 65536 < t.length) (e : Mth.piecesIn t = some l) (o : ok = false) : NeonG.ofSet t a ok f = Neon.BAD := by
  rw [of_set, if_neg h, e]; exact if_pos o
theorem set_no {t : Bytes} {a : Nat} {ok : Bool} {f : List Piece → Neon.Reply} {l : List Piece} (h : ¬ 65536 < t.length) (e : Mth.piecesIn t = some l) (o : ok = true) (m : ¬ a < 2 ^ l.length) : NeonG.ofSet t a ok f = Neon.NO := by
  rw [of_set, if_neg h, e, o]
  show (if true = false then _ else if NeonG.isSet l a = false then _ else _) = _
  rw [if_neg (by decide), if_pos (show NeonG.isSet l a = false from decide_eq_false m)]
theorem set_go {t : Bytes} {a : Nat} {ok : Bool} {f : List Piece → Neon.Reply} {l : List Piece} (h : ¬ 65536 < t.length) (e : Mth.piecesIn t = some l) (o : ok = true) (m : a < 2 ^ l.length) : NeonG.ofSet t a ok f = f l := by
  rw [of_set, if_neg h, e, o]
  show (if true = false then _ else if NeonG.isSet l a = false then _ else _) = _
  rw [if_neg (by decide), if_neg (by unfold NeonG.isSet; rw [decide_eq_true m]; decide)]
/-! ### a look at a call -/
def kf (v1 v2 : V) : List (Str × V) := putF "pieces" v2 (putF "refusal" v1 [])
theorem kf_pieces (v1 v2 : V) : (kf v1 v2).lookup ("pieces" : Str) = some v2 := by
  unfold kf; rw [lookup_putF, if_pos rfl]
theorem kf_refusal (v1 v2 : V) : (kf v1 v2).lookup ("refusal" : Str) = some v1 := by
  unfold kf; rw [lookup_putF, if_neg (by decide +kernel), lookup_putF, if_pos rfl]
abbrev KLooked (K : PySem.W.Frag) (mg : Str → Option Value) (C : Addr) : Prop := Kl K mg C "Looked" "Looked.__init__" ["refusal", "pieces"] s_Looked_init ["self", "refusal", "pieces"]
def spLooked (C : Addr) : Sp := fun vs H Q _ => ∃ (p dx : Addr) (v1 v2 : V), vs = [.ref p, v1, v2] ∧ H p = some (.ins C dx []) ∧
  ∀ H' : Hp, H' p = some (.ins C dx (kf v1 v2)) → (∀ c o, H c = some o → c ≠ p → H' c = some o) → Q .non H'
def RefZ (bs : Bytes) (n : Nat) (ok : Bool) (z : Int) : Prop := z ≠ 0 ∧ ∀ f, outZ (NeonG.ofSet bs n ok f) = [z]
def spLook (K : PySem.W.Frag) (CL CP : Addr) : Sp := fun vs H Q _ => ∃ (n : Nat) (a : Addr) (bs : Bytes) (ok : Bool), vs = [.int n, .ref a, .bl ok] ∧ SqL K H a (bs.map bV) ∧ bs.length ≤ 66000 ∧
  (∀ z, RefZ bs n ok z → ∀ (H' : Hp) (j dx : Addr) (v : V), Same H H' → H' j = some (.ins CL dx (kf (.int z) v)) → Q (.ref j) H') ∧
  ∀ ps : List Piece, (∀ f, NeonG.ofSet bs n ok f = f ps) → ok = true → ps.length ≤ 64 → ∀ (H' : Hp) (j dx l : Addr), Same H H' → H' j = some (.ins CL dx (kf (.int 0) (.ref l))) → LstOf (PieceAt CP) H' l ps → Q (.ref j) H'
section
variable {P : Program} {w : World} {K : PySem.W.Frag} {mg : Str → Option Value} {base : Heap} {CP CJ CW CL : Addr}
set_option maxHeartbeats 8000000
theorem ok_Looked (KL : KLooked K mg CL) : OkC P w K mg base 1 "Looked" CL ["self", "refusal", "pieces"] (spLooked CL) := KL.ok fun f fd F => by
  refine F.ok sc_Looked_init (fun vs H Q E h => ?_) (fun cdv A outer s H vs Q E hr h => ?_)
  · obtain ⟨p, dx, v1, v2, rfl, _⟩ := h
    rfl
  · obtain ⟨p, dx, v1, v2, rfl, hp, k⟩ := h
    refine ⟨_, (pss_cons (ps_fld (pv 0) (pv 1) rfl)
        (pss_one (ps_fld (pv 0) (pv 2) rfl))), ?_⟩
    refine ⟨_, rfl, _, rfl, p, CL, dx, _, rfl, hp, KL.cl, KL.no _ (by simp), (by show 0 < 1000; decide), ?_⟩
    refine ⟨_, rfl, _, rfl, p, CL, dx, _, rfl, upd_same, KL.cl, KL.no _ (by simp), Nat.lt_of_le_of_lt (pl (Nat.le_refl 0)) (by decide), ?_⟩
    exact k _ upd_same fun c o e hc => by rw [upd_ne hc, upd_ne hc]; exact e
theorem ok_look (KJ : KJudged K mg CJ) (T : Txt K mg) (O_judge : OkF P w K mg base 9 "judge" ["t"] (spJudge K CJ CP)) (O_Looked : OkC P w K mg base 1 "Looked" CL ["self", "refusal", "pieces"] (spLooked CL))
    (O_has_missing_piece : OkF P w K mg base 1 "has_missing_piece" ["a", "pieces"] (spMiss CP)) (D : Dn K mg "look" s_look ["a", "t", "place_fits"]) : OkF P w K mg base 10 "look" ["a", "t", "place_fits"] (spLook K CL CP) := D.ok fun f fd F => by
  refine F.ok sc_look (fun vs H Q E h => ?_) (fun cdv A outer s H vs Q E hr h => ?_)
  · obtain ⟨n, a, bs, ok, rfl, _⟩ := h
    rfl
  · obtain ⟨n, a, bs, ok, rfl, hS, hlen, k1, k2⟩ := h
    refine ⟨_, (pss_cons (ps_if (pt_cmpR op_gt (pe_callB call_len_seq (by rfl) T.b_len PySem.boot_len (pa_cons (pv 1) pa_nil)) (pgl T.c_MOST_BYTES) (nomark _)) (pss_one (ps_ret (pmk O_Looked hr (by decide) (pa_cons (pgl T.c_TEXT_TOO_LONG) (pa_cons (pe_lst pa_nil) pa_nil))))) pss_nil)
        (pss_cons (ps_set (i := 3) sc_look.nd rfl (Or.inl rfl) (pcl O_judge hr (by decide) (pa_cons (pv 1) pa_nil)))
        (pss_cons (ps_if (pt_cmpR op_ne (pe_fld (pv 3) rfl) pe_int (nomark _)) (pss_one (ps_ret (pmk O_Looked hr (by decide) (pa_cons (pgl T.c_NO_DRAWING) (pa_cons (pe_lst pa_nil) pa_nil))))) pss_nil)
        (pss_cons (ps_if (pt_not (pt_val (pv 2))) (pss_one (ps_ret (pmk O_Looked hr (by decide) (pa_cons (pgl T.c_WRONG_PLACE) (pa_cons (pe_lst pa_nil) pa_nil))))) pss_nil)
        (pss_cons (ps_if (pt_val (pcl O_has_missing_piece hr (by decide) (pa_cons (pv 0) (pa_cons (pe_fld (pv 3) rfl) pa_nil)))) (pss_one (ps_ret (pmk O_Looked hr (by decide) (pa_cons (pgl T.c_NO_SUCH_PIECE) (pa_cons (pe_lst pa_nil) pa_nil))))) pss_nil)
        (pss_one (ps_ret (pmk O_Looked hr (by decide) (pa_cons (pgl T.c_NOT_REFUSED) (pa_cons (pe_fld (pv 3) rfl) pa_nil)))))))))), ?_⟩
    have badr : ∀ (Hc : Hp), Same H Hc → ∀ z, RefZ bs n ok z → ∀ (l9 : Addr), Hc l9 = none → ∀ (x dx : Addr), (upd Hc l9 (.lst [])) x = none → (upd Hc l9 (.lst [])) dx = none →
        spLooked CL (.ref x :: ([.int z, .ref l9] ++ [])) (upd (upd (upd Hc l9 (.lst [])) dx (.own x)) x (.ins CL dx [])) (fun v H2 => v = .non ∧ Q (.ref x) H2) E0 := by
      intro Hc sc z hz l9 hl9 x dx hx hdx
      refine ⟨x, dx, _, _, rfl, upd_same, fun H5 hp5 k5 => ⟨rfl, ?_⟩⟩
      exact k1 z hz H5 x dx _ ((sc.trans (same_new hl9)).trans (Same.made hx hdx k5)) hp5
    refine sq fun N1 h1 => ?_
    refine ⟨_, rfl, a, _, rfl, .inl hS, _, _, rfl, rfl, _, rfl, ite2 (fun r => ?_) (fun r => h1 _ _ ?_)⟩
    · have r : (65536 : Int) < ((bs.map bV).length : Nat) := dT r
      rw [List.length_map] at r
      exact ⟨Nat.zero_le _, fun l9 hl9 x dx hx hdx hne => badr H Same.refl (-2) ⟨by decide, fun f => by rw [set_much (show 65536 < bs.length by omega)]; rfl⟩ l9 hl9 x dx hx hdx⟩
    have r : ¬ (65536 : Int) < ((bs.map bV).length : Nat) := dF r
    rw [List.length_map] at r
    have r : ¬ 65536 < bs.length := by omega
    refine sq fun N2 h2 => ?_
    refine ⟨_, rfl, a, bs, rfl, hS, by omega, fun hn H1 j s1 hJ => h2 _ _ ?_, fun ps hp hl H1 j s1 hJ => h2 _ _ ?_⟩
    · obtain ⟨dx, v1, v3, v4, kk, hj, hk⟩ := hJ
      refine sq fun N3 h3 => ?_
      refine ⟨_, rfl, j, CJ, dx, _, _, rfl, hj, KJ.cl, KJ.no _ (by simp), jf_kind .., rfl, _, rfl, ite2 (fun _ => ?_) (fun q => absurd (V.int.inj (dT (nT q))) hk)⟩
      exact ⟨Nat.zero_le _, fun l9 hl9 x dx hx hdx hne => badr H1 s1 (-6) ⟨by decide, fun f => by rw [set_wrong r hn]; rfl⟩ l9 hl9 x dx hx hdx⟩
    obtain ⟨dx, lp, v3, v4, hj, hP⟩ := hJ
    refine sq fun N3 h3 => ?_
    refine ⟨_, rfl, j, CJ, dx, _, _, rfl, hj, KJ.cl, KJ.no _ (by simp), jf_kind .., rfl, _, rfl, ite2 (fun q => absurd rfl (dF (nF q))) (fun _ => h3 _ _ ?_)⟩
    refine sq fun N4 h4 => ?_
    refine ⟨_, rfl, _, rfl, ite2 (fun q => ?_) (fun q => h4 _ _ ?_)⟩
    · exact ⟨Nat.zero_le _, fun l9 hl9 x dx hx hdx hne => badr H1 s1 (-1) ⟨by decide, fun f => by rw [set_bad r hp (nF q)]; rfl⟩ l9 hl9 x dx hx hdx⟩
    have q := nT q
    refine sq fun N5 h5 => ?_
    refine ⟨_, rfl, _, rfl, j, CJ, dx, _, _, rfl, hj, KJ.cl, KJ.no _ (by simp), jf_pieces .., n, lp, ps, rfl, hP, hl, _, rfl, ite2 (fun z => ?_) (fun z => h5 _ _ ?_)⟩
    · exact ⟨Nat.zero_le _, fun l9 hl9 x dx hx hdx hne => badr H1 s1 (-4) ⟨by decide, fun f => by rw [set_no r hp q (dF (nF z))]; rfl⟩ l9 hl9 x dx hx hdx⟩
    have z := dT (nT z)
    refine ⟨_, rfl, j, CJ, dx, _, _, rfl, hj, KJ.cl, KJ.no _ (by simp), jf_pieces .., fun x dy hx hdy hne => ⟨x, dy, _, _, rfl, upd_same, fun H5 hp5 k5 => ⟨rfl, ?_⟩⟩⟩
    have s5 := Same.made hx hdy k5
    exact k2 ps (fun f => set_go r hp q z) q hl H5 x dy lp (s1.trans s5) hp5 (hP.keep (kp_piece CP) s5)
end
end Tube
namespace Tube
open PySem PySem.Spec PyProof.Rows L2
open Neon (Piece Point Bytes Stroke)
def spReach : Sp := fun vs H Q _ => ∃ z : Int, vs = [.int z] ∧ Q (.bl (decide (0 ≤ z) && decide (z ≤ 4095))) H
section
variable {P : Program} {w : World} {K : PySem.W.Frag} {mg : Str → Option Value} {base : Heap} {CP CJ CW CL : Addr}
set_option maxHeartbeats 8000000
theorem ok_is_right_reach (T : Txt K mg) (D : Dn K mg "is_right_reach" s_is_right_reach ["reach"]) : OkF P w K mg base 1 "is_right_reach" ["reach"] spReach := D.ok fun f fd F => by
  refine F.ok sc_is_right_reach (fun vs H Q E h => ?_) (fun cdv A outer s H vs Q E hr h => ?_)
  · obtain ⟨z, rfl, _⟩ := h
    rfl
  · obtain ⟨z, rfl, k⟩ := h
    refine ⟨_, (pss_one (ps_ret (pe_chain op_le op_le pe_int (pv 0) (pgl T.c_GREATEST_REACH)))), ?_⟩
    exact gv_chain gv_c (gv_var rfl) gv_c _ k
end
end Tube
namespace Tube
open PySem PySem.Spec PyProof.Rows L2
open Neon (Piece Point Bytes Stroke)
def spPick (C : Addr) : Sp := fun vs H Q _ => ∃ (n : Nat) (l : Addr) (ps : List Piece), vs = [.int (n : Nat), .ref l] ∧ LstOf (PieceAt C) H l ps ∧ ps.length ≤ 64 ∧ ∀ (H' : Hp) (l' : Addr), Same H H' → LstOf (PieceAt C) H' l' (Mth.picked ps n) → Q (.ref l') H'
def litS (ps : List Piece) (x y : Int) (r : Nat) : Bool := ps.any fun p => Neon.litBy p ⟨x, y⟩ r
def spLit (C : Addr) : Sp := fun vs H Q _ => ∃ (x y : Int) (l : Addr) (ps : List Piece) (r : Nat), vs = [.int x, .int y, .ref l, .int (r : Nat)] ∧ LstOf (PieceAt C) H l ps ∧ Sm x ∧ Sm y ∧ r ≤ 4095 ∧ ∀ H' : Hp, Same H H' → Q (.bl (litS ps x y r)) H'
theorem sq_lim {r : Nat} (h : r ≤ 4095) : -(2 ^ 64) < (r : Int) * r ∧ (r : Int) * r < 2 ^ 64 := by
  have e : (r : Int) * r = ((r * r : Nat) : Int) := by rw [Int.natCast_mul]
  have : r * r ≤ 4095 * 4095 := Nat.mul_le_mul h h
  omega
section
variable {P : Program} {w : World} {K : PySem.W.Frag} {mg : Str → Option Value} {base : Heap} {CP CJ CW CL : Addr}
set_option maxHeartbeats 8000000
theorem ok_pieces_of_set (T : Txt K mg) (O_numbers_of_set : OkF P w K mg base 2 "numbers_of_set" ["a", "pieces"] (spNums CP)) (D : Dn K mg "pieces_of_set" s_pieces_of_set ["a", "pieces"]) : OkF P w K mg base 3 "pieces_of_set" ["a", "pieces"] (spPick CP) := D.ok fun f fd F => by
  refine F.ok sc_pieces_of_set (fun vs H Q E h => ?_) (fun cdv A outer s H vs Q E hr h => ?_)
  · obtain ⟨n, l, ps, rfl, _⟩ := h
    rfl
  · obtain ⟨n, l, ps, rfl, hP, hlen, k⟩ := h
    refine ⟨_, (pss_one (ps_ret (pe_lc (own := [("i", 2)]) rfl sc_pieces_of_set.nd (pi_list (pcl O_numbers_of_set hr (by decide) (pa_cons (pv 0) (pa_cons (pv 1) pa_nil)))) (blkOk_by (by show blkC ["a", "pieces", "i"] (defScope s_pieces_of_set) _ _ = true; decide +kernel)) (fun _ _ _ _ _ => pg_name (i := 2) sc_pieces_of_set.nd rfl (Or.inl rfl) (Or.inr rfl)) (fun _ _ _ _ _ => pts_nil) (fun _ _ _ _ _ => (pe_ix (ixL (K := K) rfl) (pv 1) (pv 2) (fun _ _ => rfl)))))), ?_⟩
    refine ⟨_, rfl, _, rfl, n, l, ps, rfl, hP, hlen, fun H1 l1 s0 hN => ⟨l1, rfl, ⟨_, SqL.of hN⟩, fun D hD => ?_⟩⟩
    obtain ⟨as, hL, hE⟩ := hP
    have hDH : H D = none := s0.free hD
    have hDl : l1 ≠ D := ne_of_none hN hD
    refine lc_list (K := K) (a := l1) (xs := (Mth.numsTo n ps.length).map nV) (fun i H' => ∃ bs : List Addr, Same H H' ∧ H' l1 = some (.lst ((Mth.numsTo n ps.length).map nV)) ∧ H' D = some (.lst (bs.map V.ref)) ∧ Each (PieceAt CP) H' bs (((Mth.numsTo n ps.length).take i).filterMap fun j => ps[j]?))
      ⟨[], s0.trans (same_new hD), (upd_ne hDl).trans hN, upd_same, Each.nil⟩ (fun i H' _ ⟨_, _, hl, _⟩ => SqL.of hl) (fun i v H' hi ⟨bs, s1, hl, hD', hP⟩ => ?_) (fun H' ⟨bs, s1, hl, hD', hP⟩ => ?_)
    · obtain ⟨j, hj, rfl⟩ := map_at hi
      have hjl : j < ps.length := Mth.nums_lt (List.mem_of_getElem? hj)
      obtain ⟨b, hb, hp⟩ := hE.get (List.getElem?_eq_getElem hjl)
      have hp := kp_piece CP _ _ _ _ s1 hp
      refine ⟨rfl, yesT ⟨_, rfl, _, rfl, l, _, _, _, rfl, rfl, SqL.of (s1 _ _ hL), at_of (j := j) rfl (ref_at hb), _, hD', ?_, bs ++ [b], sOff hDH s1, ?_, ?_, ?_⟩⟩
      · rw [List.length_map, hP.1]
        refine Nat.lt_of_le_of_lt (Nat.le_trans (List.length_filterMap_le _ _) (List.length_take_le _ _)) ?_
        exact Nat.lt_of_lt_of_le (List.getElem?_eq_some_iff.mp hj).1 (Nat.le_trans (Mth.nums_len ..) (Nat.le_trans hlen (by decide)))
      · rw [upd_ne hDl]
        exact hl
      · rw [upd_same, List.map_append]
        rfl
      · rw [take_at hj, List.filterMap_append, show [j].filterMap (fun j => ps[j]?) = [ps[j]] from by rw [List.filterMap_cons, List.getElem?_eq_getElem hjl]; rfl]
        exact Each.snoc (hP.on fun a _ x hx => piece_off hD' hx) (piece_off hD' hp)
    · rw [List.length_map, List.take_length, ← Mth.picked_nums] at hP
      exact k H' D s1 ⟨bs, hD', hP⟩
theorem ok_is_lit (O_distance_square : OkF P w K mg base 4 "distance_square" ["piece", "x", "y"] (spDist CP)) (O_is_less : OkF P w K mg base 1 "is_less" ["one", "other"] spLess) (D : Dn K mg "is_lit" s_is_lit ["x", "y", "shining", "reach"]) : OkF P w K mg base 5 "is_lit" ["x", "y", "shining", "reach"] (spLit CP) := D.ok fun f fd F => by
  refine F.ok sc_is_lit (fun vs H Q E h => ?_) (fun cdv A outer s H vs Q E hr h => ?_)
  · obtain ⟨x, y, l, ps, r, rfl, _⟩ := h
    rfl
  · obtain ⟨x, y, l, ps, r, rfl, ⟨as, hL, hE⟩, sx, sy, hr4, k⟩ := h
    have ha : as.length = ps.length := hE.1
    have lim := sq_lim hr4
    refine ⟨_, (pss_cons (ps_set (i := 4) sc_is_lit.nd rfl (Or.inl rfl) (pe_tup (pa_cons (pe_op op_mul (pv 3) (pv 3)) (pa_cons pe_int pa_nil))))
        (pss_cons (ps_for PassesOwn.never rfl (pi_list (pv 2)) (pg_name (i := 5) sc_is_lit.nd rfl (Or.inl rfl)) (pss_one (ps_if (pt_not (pt_val (pcl O_is_less hr (by decide) (pa_cons (pv 4) (pa_cons (pcl O_distance_square hr (by decide) (pa_cons (pv 5) (pa_cons (pv 0) (pa_cons (pv 1) pa_nil)))) pa_nil))))) (pss_one (ps_ret pe_bl)) pss_nil)))
        (pss_one (ps_ret pe_bl)))), ?_⟩
    refine ⟨_, rfl, _, rfl, _, _, rfl, rfl, .inl ⟨by omega, by omega⟩, (by show 2 ≤ sizeLine; decide), fun t ht => ?_⟩
    have s0 := same_new (o := .tup [.int ((r : Int) * r), .int 1]) ht
    refine ⟨_, rfl, l, rfl, ⟨_, SqL.of (s0 _ _ hL)⟩, for_list (K := K) (a := l) (xs := as.map V.ref) (fun i σ H' => Same H H' ∧ H' t = some (.tup [.int ((r : Int) * r), .int 1]) ∧ (∃ v5, σ = [some (.int x), some (.int y), some (.ref l), some (.int (r : Nat)), some (.ref t), v5]) ∧ litS (ps.take i) x y r = false)
      ⟨s0, upd_same, ⟨none, rfl⟩, rfl⟩ (fun i σ H' _ ⟨s1, _⟩ => SqL.of (s1 _ _ hL)) ?_ ?_⟩
    · rintro i v σ H' hi ⟨s1, ht', ⟨v5, rfl⟩, hf⟩
      obtain ⟨c, hc, rfl⟩ := ref_of hi
      obtain ⟨p, hp, hpc⟩ := hE.at' hc
      have hpc := kp_piece CP _ _ _ _ s1 hpc
      have hden := hpc.1.den x y
      refine ⟨_, rfl, _, rfl, _, rfl, _, rfl, c, p, _, _, rfl, hpc, sx, sy, fun H2 t2 s2 ht2 => ?_⟩
      have e : litS (ps.take (i + 1)) x y r = !decide ((r : Int) * r * (Mth.distP p x y).2 < (Mth.distP p x y).1 * 1) := by
        unfold litS at hf ⊢
        rw [take_at hp, List.any_append, hf, Bool.false_or, List.any_cons, List.any_nil, Bool.or_false, Mth.lit_by, Int.mul_one, ← decide_not]
        exact decide_eq_decide.mpr Int.not_lt.symm
      refine ⟨t, t2, _, _, _, _, rfl, s2 _ _ ht', ht2, ⟨by decide, by decide⟩, ⟨by omega, by omega⟩, _, rfl, ?_⟩
      dsimp only
      rw [← e]
      refine ite2 (fun q => ?_) (fun q => ?_)
      · have e2 : litS ps x y r = true := by
          unfold litS at q ⊢
          rw [← List.take_append_drop (i + 1) ps, List.any_append, q, Bool.true_or]
        have k' := k H2 (s1.trans s2)
        rw [e2] at k'
        exact k'
      · exact ⟨s1.trans s2, s2 _ _ ht', ⟨_, rfl⟩, q⟩
    · rintro σ H' ⟨s1, _, ⟨v5, rfl⟩, hf⟩
      rw [List.length_map, ha, List.take_length] at hf
      have k' := k H' s1
      rw [hf] at k'
      exact k'
end
end Tube
namespace Tube
open PySem PySem.Spec PyProof.Rows L2
open Neon (Piece Point Bytes Stroke)
/-! ### windows.py -/
def wf (v : Neon.Window) : List (Str × V) := putF "reach" (.int v.r) (putF "step" (.int v.s) (putF "rows" (.int v.h) (putF "columns" (.int v.w) (putF "y" (.int v.y) (putF "x" (.int v.x) [])))))
theorem wf_reach (v : Neon.Window) : (wf v).lookup ("reach" : Str) = some (.int v.r) := by
  unfold wf; rw [lookup_putF, if_pos rfl]
theorem wf_step (v : Neon.Window) : (wf v).lookup ("step" : Str) = some (.int v.s) := by
  unfold wf; rw [lookup_putF, if_neg (by decide +kernel), lookup_putF, if_pos rfl]
theorem wf_rows (v : Neon.Window) : (wf v).lookup ("rows" : Str) = some (.int v.h) := by
  unfold wf; rw [lookup_putF, if_neg (by decide +kernel), lookup_putF, if_neg (by decide +kernel), lookup_putF, if_pos rfl]
theorem wf_columns (v : Neon.Window) : (wf v).lookup ("columns" : Str) = some (.int v.w) := by
  unfold wf; rw [lookup_putF, if_neg (by decide +kernel), lookup_putF, if_neg (by decide +kernel), lookup_putF, if_neg (by decide +kernel), lookup_putF, if_pos rfl]
theorem wf_y (v : Neon.Window) : (wf v).lookup ("y" : Str) = some (.int v.y) := by
  unfold wf; rw [lookup_putF, if_neg (by decide +kernel), lookup_putF, if_neg (by decide +kernel), lookup_putF, if_neg (by decide +kernel), lookup_putF, if_neg (by decide +kernel), lookup_putF, if_pos rfl]
theorem wf_x (v : Neon.Window) : (wf v).lookup ("x" : Str) = some (.int v.x) := by
  unfold wf; rw [lookup_putF, if_neg (by decide +kernel), lookup_putF, if_neg (by decide +kernel), lookup_putF, if_neg (by decide +kernel), lookup_putF, if_neg (by decide +kernel), lookup_putF, if_neg (by decide +kernel), lookup_putF, if_pos rfl]
def WinAt (C : Addr) (H : Hp) (a : Addr) (v : Neon.Window) : Prop := ∃ dx, H a = some (.ins C dx (wf v))
theorem kp_win (C : Addr) : Keeps (WinAt C) := fun _ _ _ _ s h => h.elim fun dx e => ⟨dx, s _ _ e⟩
def tWn (C : Addr) (i : Nat) (g : Neon.Window → Int) : TE := fun σ H Q => ∃ a v, σ[i]? = some (some (.ref a)) ∧ WinAt C H a v ∧ Q (.int (g v)) H
abbrev KWin (K : PySem.W.Frag) (mg : Str → Option Value) (C : Addr) : Prop := Kl K mg C "Window" "Window.__init__" ["x", "y", "columns", "rows", "step", "reach"] s_Window_init ["self", "x", "y", "columns", "rows", "step", "reach"]
section
variable {X : Cx} {C : Addr} {i : Nat} {x : Str} {p1 p2 : Pos}
theorem w_fld {f : Str} {g : Neon.Window → Int} (cl : Cls X.K C) (no : NoAttr X.K C f) (hl : ∀ p, (wf p).lookup f = some (.int (g p))) (h : PE X (.Name x p1) (tVar i))
    (hb : attributeBase (.Name x p1) f X.env (eval (.Name x p1) X.env) = eval (.Name x p1) X.env) : PE X (.Attribute (.Name x p1) f p2) (tWn C i g) := by
  intro pins s σ H Q I hw
  obtain ⟨a, p, h1, ⟨dx, h2⟩, q⟩ := hw
  exact pe_fld h hb pins s σ H Q I ⟨_, h1, a, C, dx, _, _, rfl, h2, cl, no, hl p, q⟩
theorem w_x (KW : KWin X.K X.mg C) (h : PE X (.Name x p1) (tVar i)) (hb : attributeBase (.Name x p1) "x" X.env (eval (.Name x p1) X.env) = eval (.Name x p1) X.env := by rfl) : PE X (.Attribute (.Name x p1) "x" p2) (tWn C i fun v => v.x) :=
  w_fld KW.cl (KW.no _ (by simp)) wf_x h hb
theorem w_y (KW : KWin X.K X.mg C) (h : PE X (.Name x p1) (tVar i)) (hb : attributeBase (.Name x p1) "y" X.env (eval (.Name x p1) X.env) = eval (.Name x p1) X.env := by rfl) : PE X (.Attribute (.Name x p1) "y" p2) (tWn C i fun v => v.y) :=
  w_fld KW.cl (KW.no _ (by simp)) wf_y h hb
theorem w_columns (KW : KWin X.K X.mg C) (h : PE X (.Name x p1) (tVar i)) (hb : attributeBase (.Name x p1) "columns" X.env (eval (.Name x p1) X.env) = eval (.Name x p1) X.env := by rfl) : PE X (.Attribute (.Name x p1) "columns" p2) (tWn C i fun v => v.w) :=
  w_fld KW.cl (KW.no _ (by simp)) wf_columns h hb
theorem w_rows (KW : KWin X.K X.mg C) (h : PE X (.Name x p1) (tVar i)) (hb : attributeBase (.Name x p1) "rows" X.env (eval (.Name x p1) X.env) = eval (.Name x p1) X.env := by rfl) : PE X (.Attribute (.Name x p1) "rows" p2) (tWn C i fun v => v.h) :=
  w_fld KW.cl (KW.no _ (by simp)) wf_rows h hb
theorem w_step (KW : KWin X.K X.mg C) (h : PE X (.Name x p1) (tVar i)) (hb : attributeBase (.Name x p1) "step" X.env (eval (.Name x p1) X.env) = eval (.Name x p1) X.env := by rfl) : PE X (.Attribute (.Name x p1) "step" p2) (tWn C i fun v => v.s) :=
  w_fld KW.cl (KW.no _ (by simp)) wf_step h hb
theorem w_reach (KW : KWin X.K X.mg C) (h : PE X (.Name x p1) (tVar i)) (hb : attributeBase (.Name x p1) "reach" X.env (eval (.Name x p1) X.env) = eval (.Name x p1) X.env := by rfl) : PE X (.Attribute (.Name x p1) "reach" p2) (tWn C i fun v => v.r) :=
  w_fld KW.cl (KW.no _ (by simp)) wf_reach h hb
end
theorem gv_win {σ : L2.St} {H : Hp} {C a : Addr} {n : Nat} {g : Neon.Window → Int} {v : Neon.Window} (h : σ[n]? = some (some (.ref a))) (hw : WinAt C H a v) : Gv (tWn C n g) σ H (.int (g v)) := fun _ q => ⟨a, v, h, hw, q⟩
def spWindow (C : Addr) : Sp := fun vs H Q _ => ∃ (p dx : Addr) (v : Neon.Window), vs = [.ref p, .int v.x, .int v.y, .int v.w, .int v.h, .int v.s, .int v.r] ∧ H p = some (.ins C dx []) ∧
  ∀ H' : Hp, WinAt C H' p v → (∀ c o, H c = some o → c ≠ p → H' c = some o) → Q .non H'
def spRight (C : Addr) : Sp := fun vs H Q _ => ∃ (a : Addr) (v : Neon.Window), vs = [.ref a] ∧ WinAt C H a v ∧ Q (.bl v.fine) H
def litW (ps : List Piece) (v : Neon.Window) (i j : Nat) : Bool := decide (i < v.w) && ps.any fun p => Neon.litBy p (v.spot i j) v.r
def spLitAt (C CP : Addr) : Sp := fun vs H Q _ => ∃ (a l : Addr) (v : Neon.Window) (ps : List Piece) (i j : Nat) (zi zj : Int), vs = [.ref a, .ref l, .int zi, .int zj] ∧ zi = (i : Int) ∧ zj = (j : Int) ∧ WinAt C H a v ∧ LstOf (PieceAt CP) H l ps ∧ v.fine = true ∧ i ≤ 100 ∧ j ≤ 100 ∧
  ∀ H' : Hp, Same H H' → Q (.bl (litW ps v i j)) H'
theorem fine_win (v : Neon.Window) : v.fine = true ↔ (-4096 ≤ v.x ∧ v.x ≤ 4095) ∧ (-4096 ≤ v.y ∧ v.y ≤ 4095) ∧ (1 ≤ v.w ∧ v.w ≤ 64) ∧ (1 ≤ v.h ∧ v.h ≤ 64) ∧ (1 ≤ v.s ∧ v.s ≤ 64) ∧ v.r ≤ 4095 := by
  unfold Neon.Window.fine Neon.SIDE Neon.REACH
  simp only [Bool.and_eq_true, decide_eq_true_eq]
  omega
section
variable {P : Program} {w : World} {K : PySem.W.Frag} {mg : Str → Option Value} {base : Heap} {CP CJ CW CL : Addr}
set_option maxHeartbeats 8000000
theorem ok_Window (KW : KWin K mg CW) : OkC P w K mg base 1 "Window" CW ["self", "x", "y", "columns", "rows", "step", "reach"] (spWindow CW) := KW.ok fun f fd F => by
  refine F.ok sc_Window_init (fun vs H Q E h => ?_) (fun cdv A outer s H vs Q E hr h => ?_)
  · obtain ⟨p, dx, v, rfl, _⟩ := h
    rfl
  · obtain ⟨p, dx, v, rfl, hp, k⟩ := h
    refine ⟨_, (pss_cons (ps_fld (pv 0) (pv 1) rfl)
        (pss_cons (ps_fld (pv 0) (pv 2) rfl)
        (pss_cons (ps_fld (pv 0) (pv 3) rfl)
        (pss_cons (ps_fld (pv 0) (pv 4) rfl)
        (pss_cons (ps_fld (pv 0) (pv 5) rfl)
        (pss_one (ps_fld (pv 0) (pv 6) rfl))))))), ?_⟩
    refine ⟨_, rfl, _, rfl, p, CW, dx, _, rfl, hp, KW.cl, KW.no _ (by simp), (by show 0 < 1000; decide), ?_⟩
    refine ⟨_, rfl, _, rfl, p, CW, dx, _, rfl, upd_same, KW.cl, KW.no _ (by simp), Nat.lt_of_le_of_lt (pl (Nat.le_refl 0)) (by decide), ?_⟩
    refine ⟨_, rfl, _, rfl, p, CW, dx, _, rfl, upd_same, KW.cl, KW.no _ (by simp), Nat.lt_of_le_of_lt (pl (pl (Nat.le_refl 0))) (by decide), ?_⟩
    refine ⟨_, rfl, _, rfl, p, CW, dx, _, rfl, upd_same, KW.cl, KW.no _ (by simp), Nat.lt_of_le_of_lt (pl (pl (pl (Nat.le_refl 0)))) (by decide), ?_⟩
    refine ⟨_, rfl, _, rfl, p, CW, dx, _, rfl, upd_same, KW.cl, KW.no _ (by simp), Nat.lt_of_le_of_lt (pl (pl (pl (pl (Nat.le_refl 0))))) (by decide), ?_⟩
    refine ⟨_, rfl, _, rfl, p, CW, dx, _, rfl, upd_same, KW.cl, KW.no _ (by simp), Nat.lt_of_le_of_lt (pl (pl (pl (pl (pl (Nat.le_refl 0)))))) (by decide), ?_⟩
    exact k _ ⟨dx, upd_same⟩ fun c o e hc => by rw [upd_ne hc, upd_ne hc, upd_ne hc, upd_ne hc, upd_ne hc, upd_ne hc]; exact e
theorem ok_is_right (KW : KWin K mg CW) (T : Txt K mg) (O_is_right_reach : OkF P w K mg base 1 "is_right_reach" ["reach"] spReach) (D : Dn K mg "is_right" s_is_right ["window"]) : OkF P w K mg base 2 "is_right" ["window"] (spRight CW) := D.ok fun f fd F => by
  refine F.ok sc_is_right (fun vs H Q E h => ?_) (fun cdv A outer s H vs Q E hr h => ?_)
  · obtain ⟨a, v, rfl, _⟩ := h
    rfl
  · obtain ⟨a, v, rfl, hW, k⟩ := h
    refine ⟨_, (pss_cons (ps_set (i := 1) sc_is_right.nd rfl (Or.inl rfl) (pe_and (pe_chain op_le op_le pe_int (w_columns KW (pv 0)) (pgl T.c_MOST_SPOTS)) (pe_one (pe_chain op_le op_le pe_int (w_rows KW (pv 0)) (pgl T.c_MOST_SPOTS)))))
        (pss_cons (ps_set (i := 2) sc_is_right.nd rfl (Or.inl rfl) (pe_chain op_le op_le (pgl T.c_LEAST_CORNER) (w_x KW (pv 0)) (pgl T.c_GREATEST_CORNER)))
        (pss_cons (ps_set (i := 3) sc_is_right.nd rfl (Or.inl rfl) (pe_chain op_le op_le (pgl T.c_LEAST_CORNER) (w_y KW (pv 0)) (pgl T.c_GREATEST_CORNER)))
        (pss_cons (ps_set (i := 4) sc_is_right.nd rfl (Or.inl rfl) (pe_chain op_le op_le pe_int (w_step KW (pv 0)) (pgl T.c_WIDEST_STEP)))
        (pss_one (ps_ret (pe_and (pv 1) (pe_and (pv 2) (pe_and (pv 3) (pe_and (pv 4) (pe_one (pcl O_is_right_reach hr (by decide) (pa_cons (w_reach KW (pv 0)) pa_nil))))))))))))), ?_⟩
    refine gv_and (gv_chain gv_c (gv_win rfl hW) gv_c) (gv_chain gv_c (gv_win rfl hW) gv_c) _ ?_
    refine gv_chain gv_c (gv_win rfl hW) gv_c _ ?_
    refine gv_chain gv_c (gv_win rfl hW) gv_c _ ?_
    refine gv_chain gv_c (gv_win rfl hW) gv_c _ ?_
    refine gv_and (gv_var rfl) (gv_and (gv_var rfl) (gv_and (gv_var rfl) (gv_and (gv_var rfl) (fun _ q => ⟨a, v, rfl, hW, _, rfl, q⟩)))) _ ?_
    have e : v.fine = (((decide ((1 : Int) ≤ v.w) && decide ((v.w : Int) ≤ 64)) && (decide ((1 : Int) ≤ v.h) && decide ((v.h : Int) ≤ 64))) && ((decide (-4096 ≤ v.x) && decide (v.x ≤ 4095)) && ((decide (-4096 ≤ v.y) && decide (v.y ≤ 4095)) && ((decide ((1 : Int) ≤ v.s) && decide ((v.s : Int) ≤ 64)) && (decide ((0 : Int) ≤ v.r) && decide ((v.r : Int) ≤ 4095)))))) := by
      rw [Bool.eq_iff_iff, fine_win]
      simp only [Bool.and_eq_true, decide_eq_true_eq]
      omega
    rw [e] at k
    exact k
theorem ok_is_lit_at (KW : KWin K mg CW) (T : Txt K mg) (O_is_lit : OkF P w K mg base 5 "is_lit" ["x", "y", "shining", "reach"] (spLit CP)) (D : Dn K mg "is_lit_at" s_is_lit_at ["window", "shining", "column", "row"]) : OkF P w K mg base 6 "is_lit_at" ["window", "shining", "column", "row"] (spLitAt CW CP) := D.ok fun f fd F => by
  refine F.ok sc_is_lit_at (fun vs H Q E h => ?_) (fun cdv A outer s H vs Q E hr h => ?_)
  · obtain ⟨a, l, v, ps, i, j, zi, zj, rfl, _⟩ := h
    rfl
  · obtain ⟨a, l, v, ps, i, j, zi, zj, rfl, hzi, hzj, hW, hP, hf, hi, hj, k⟩ := h
    obtain ⟨⟨x1, x2⟩, ⟨y1, y2⟩, ⟨w1, w2⟩, ⟨h1, h2⟩, ⟨s1, s2⟩, r1⟩ := (fine_win v).mp hf
    refine ⟨_, (pss_cons (ps_if (pt_cmpR op_ge (pv 2) (w_columns KW (pv 0)) (nomark _)) (pss_one (ps_ret pe_bl)) pss_nil)
        (pss_cons (ps_set (i := 4) sc_is_lit_at.nd rfl (Or.inl rfl) (pe_op op_add (w_x KW (pv 0)) (pe_op op_mul (w_step KW (pv 0)) (pv 2))))
        (pss_cons (ps_set (i := 5) sc_is_lit_at.nd rfl (Or.inl rfl) (pe_op op_add (w_y KW (pv 0)) (pe_op op_mul (w_step KW (pv 0)) (pv 3))))
        (pss_one (ps_ret (pcl O_is_lit hr (by decide) (pa_cons (pv 4) (pa_cons (pv 5) (pa_cons (pv 1) (pa_cons (w_reach KW (pv 0)) pa_nil)))))))))), ?_⟩
    have mi : v.s * i ≤ 64 * 100 := Nat.mul_le_mul s2 hi
    have mj : v.s * j ≤ 64 * 100 := Nat.mul_le_mul s2 hj
    have ei : (v.s : Int) * zi = ((v.s * i : Nat) : Int) := by rw [hzi, Int.natCast_mul]
    have ej : (v.s : Int) * zj = ((v.s * j : Nat) : Int) := by rw [hzj, Int.natCast_mul]
    refine ⟨_, rfl, a, v, rfl, hW, _, _, rfl, rfl, _, rfl, ite2 (fun r => ?_) (fun r => ?_)⟩
    · have r : (v.w : Int) ≤ zi := dT r
      have k' := k H Same.refl
      have e : litW ps v i j = false := by
        unfold litW
        rw [decide_eq_false (by omega), Bool.false_and]
      rw [e] at k'
      exact k'
    · have r : ¬ (v.w : Int) ≤ zi := dF r
      refine ⟨a, v, rfl, hW, a, v, rfl, hW, _, rfl, _, _, rfl, rfl, .inl ⟨by (try dsimp only); omega, by (try dsimp only); omega⟩, _, _, rfl, rfl, ?_⟩
      refine ⟨a, v, rfl, hW, a, v, rfl, hW, _, rfl, _, _, rfl, rfl, .inl ⟨by (try dsimp only); omega, by (try dsimp only); omega⟩, _, _, rfl, rfl, ?_⟩
      dsimp only
      rw [ei, ej]
      refine ⟨_, rfl, _, rfl, _, rfl, a, v, rfl, hW, _, _, l, ps, v.r, rfl, hP, ⟨by omega, by omega⟩, ⟨by omega, by omega⟩, r1, fun H' s' => ?_⟩
      have k' := k H' s'
      have e : litW ps v i j = litS ps (v.x + (v.s * i : Nat)) (v.y + (v.s * j : Nat)) v.r := by
        unfold litW litS
        rw [decide_eq_true (by omega), Bool.true_and]
        rfl
      rw [e] at k'
      exact k'
end
end Tube
namespace Tube
open PySem PySem.Spec PyProof.Rows L2
open Neon (Piece Point Bytes Stroke)
theorem lit_w (l : List Piece) (a : Nat) (v : Neon.Window) (i j : Nat) : v.lit l a i j = litW (Mth.picked l a) v i j := by
  unfold Neon.Window.lit litW
  rw [Mth.lit_eq]
end Tube
namespace Tube
open PySem PySem.Spec PyProof.Rows L2
open Neon (Piece Point Bytes Stroke)
def byteZ (ps : List Piece) (v : Neon.Window) (k j : Nat) : Int := Mth.hornB (fun b => litW ps v (8 * k + b) j) 8
def spByte (C CP : Addr) : Sp := fun vs H Q _ => ∃ (a l : Addr) (v : Neon.Window) (ps : List Piece) (k j : Nat) (zi zj : Int), vs = [.ref a, .ref l, .int zi, .int zj] ∧ zi = ((8 * k : Nat) : Int) ∧ zj = (j : Int) ∧ WinAt C H a v ∧ LstOf (PieceAt CP) H l ps ∧ v.fine = true ∧ k < 8 ∧ j ≤ 100 ∧
  ∀ H' : Hp, Same H H' → Q (.int (byteZ ps v k j)) H'
def rowZ (ps : List Piece) (v : Neon.Window) (n j : Nat) : List Int := (List.range n).map fun k => byteZ ps v k j
def picZ (ps : List Piece) (v : Neon.Window) (n : Nat) : List Int := (List.range n).flatMap fun j => rowZ ps v ((v.w + 7) / 8) j
def spPic (C CP : Addr) : Sp := fun vs H Q _ => ∃ (a l : Addr) (v : Neon.Window) (ps : List Piece), vs = [.ref a, .ref l] ∧ WinAt C H a v ∧ LstOf (PieceAt CP) H l ps ∧ v.fine = true ∧
  ∀ (H' : Hp) (q : Addr), Same H H' → H' q = some (.lst ((picZ ps v v.h).map V.int)) → Q (.ref q) H'
theorem row_succ (ps : List Piece) (v : Neon.Window) (n j : Nat) : rowZ ps v (n + 1) j = rowZ ps v n j ++ [byteZ ps v n j] := by
  unfold rowZ; rw [List.range_succ, List.map_append]; rfl
theorem pic_succ (ps : List Piece) (v : Neon.Window) (n : Nat) : picZ ps v (n + 1) = picZ ps v n ++ rowZ ps v ((v.w + 7) / 8) n := by
  unfold picZ; rw [List.range_succ, List.flatMap_append]; simp
theorem row_len (ps : List Piece) (v : Neon.Window) (n j : Nat) : (rowZ ps v n j).length = n := by unfold rowZ; rw [List.length_map, List.length_range]
theorem pic_len (ps : List Piece) (v : Neon.Window) (n : Nat) : (picZ ps v n).length = n * ((v.w + 7) / 8) := by
  induction n with
  | zero => simp [picZ]
  | succ n ih => rw [pic_succ, List.length_append, ih, row_len, Nat.succ_mul]
theorem rg8 : ∀ n : Nat, n ≤ 64 → Builtin.Range.small 0 (n : Int) 8 = true ∧ Builtin.Range.rangeSize 0 (n : Int) 8 = ((n + 7) / 8 : Nat) := by decide
section
variable {P : Program} {w : World} {K : PySem.W.Frag} {mg : Str → Option Value} {base : Heap} {CP CJ CW CL : Addr}
set_option maxHeartbeats 8000000
theorem ok_picture_byte (T : Txt K mg) (O_is_lit_at : OkF P w K mg base 6 "is_lit_at" ["window", "shining", "column", "row"] (spLitAt CW CP)) (D : Dn K mg "picture_byte" s_picture_byte ["window", "shining", "start", "row"]) : OkF P w K mg base 7 "picture_byte" ["window", "shining", "start", "row"] (spByte CW CP) := D.ok fun f fd F => by
  refine F.ok sc_picture_byte (fun vs H Q E h => ?_) (fun cdv A outer s H vs Q E hr h => ?_)
  · obtain ⟨a, l, v, ps, k, j, zi, zj, rfl, _⟩ := h
    rfl
  · obtain ⟨a, l, v, ps, kk, j, zi, zj, rfl, hzi, hzj, hW, hP, hf, hk, hj, k⟩ := h
    refine ⟨_, (pss_cons (ps_set (i := 4) sc_picture_byte.nd rfl (Or.inl rfl) pe_int)
        (pss_cons (ps_for PassesOwn.never rfl (pi_range2 rfl T.b_range (pa_cons (pv 2) (pa_cons (pe_op op_add (pv 2) (pgl T.c_BITS_OF_A_BYTE)) pa_nil))) (pg_name (i := 5) sc_picture_byte.nd rfl (Or.inl rfl)) (pss_cons (ps_set (i := 4) sc_picture_byte.nd rfl (Or.inl rfl) (pe_op op_mul (pv 4) pe_int))
        (pss_one (ps_if (pt_val (pcl O_is_lit_at hr (by decide) (pa_cons (pv 0) (pa_cons (pv 1) (pa_cons (pv 5) (pa_cons (pv 3) pa_nil)))))) (pss_one (ps_set (i := 4) sc_picture_byte.nd rfl (Or.inl rfl) (pe_op op_add (pv 4) pe_int))) pss_nil))))
        (pss_one (ps_ret (pv 4))))), ?_⟩
    have en : (zi + 8 - zi).toNat = 8 := by omega
    refine ⟨_, rfl, _, rfl, _, _, rfl, rfl, _, _, rfl, ⟨by omega, by omega, by omega, by omega⟩, for_range (fun i σ H' => Same H H' ∧ ∃ v5, σ = [some (.ref a), some (.ref l), some (.int zi), some (.int zj), some (.int (Mth.hornB (fun b => litW ps v (8 * kk + b) j) i)), v5]) ⟨Same.refl, none, rfl⟩ ?_ ?_⟩
    · rintro i σ H' hi ⟨s1, v5, rfl⟩
      have hi : i < 8 := by rw [← en]; exact hi
      refine ⟨_, rfl, _, _, rfl, rfl, .inr ⟨by decide, by decide⟩, ?_⟩
      refine ⟨_, rfl, _, rfl, _, rfl, _, rfl, a, l, v, ps, 8 * kk + i, j, _, _, rfl, by omega, hzj, kp_win CW _ _ _ _ s1 hW, hP.keep (kp_piece CP) s1, hf, by omega, hj, fun H2 s2 => ⟨_, rfl, ite2 (fun r => ?_) (fun r => ?_)⟩⟩
      · refine ⟨_, rfl, _, _, rfl, rfl, s1.trans s2, some (.int (zi + (i : Nat))), ?_⟩
        show _ = [some (V.ref a), some (.ref l), some (.int zi), some (.int zj), some (.int (if litW ps v (8 * kk + i) j = true then _ else _)), _]
        rw [if_pos r]
        rfl
      · refine ⟨s1.trans s2, some (.int (zi + (i : Nat))), ?_⟩
        show _ = [some (V.ref a), some (.ref l), some (.int zi), some (.int zj), some (.int (if litW ps v (8 * kk + i) j = true then _ else _)), _]
        rw [if_neg (by rw [r]; exact Bool.false_ne_true)]
        rfl
    · rintro σ H' ⟨s1, v5, rfl⟩
      refine ⟨_, rfl, ?_⟩
      rw [en]
      exact k H' s1
theorem ok_picture_bytes (KW : KWin K mg CW) (T : Txt K mg) (O_picture_byte : OkF P w K mg base 7 "picture_byte" ["window", "shining", "start", "row"] (spByte CW CP)) (D : Dn K mg "picture_bytes" s_picture_bytes ["window", "shining"]) : OkF P w K mg base 8 "picture_bytes" ["window", "shining"] (spPic CW CP) := D.ok fun f fd F => by
  refine F.ok sc_picture_bytes (fun vs H Q E h => ?_) (fun cdv A outer s H vs Q E hr h => ?_)
  · obtain ⟨a, l, v, ps, rfl, _⟩ := h
    rfl
  · obtain ⟨a, l, v, ps, rfl, hW, hP, hf, k⟩ := h
    obtain ⟨⟨x1, x2⟩, ⟨y1, y2⟩, ⟨w1, w2⟩, ⟨h1, h2⟩, ⟨s1, s2⟩, r1⟩ := (fine_win v).mp hf
    refine ⟨_, (pss_cons (ps_set (i := 2) sc_picture_bytes.nd rfl (Or.inl rfl) (pe_lst pa_nil))
        (pss_cons (ps_for PassesOwn.never rfl (pi_range1 rfl T.b_range (pa_cons (w_rows KW (pv 0)) pa_nil)) (pg_name (i := 3) sc_picture_bytes.nd rfl (Or.inl rfl)) (pss_one (ps_for PassesOwn.never rfl (pi_range3 rfl T.b_range (pa_cons pe_int (pa_cons (w_columns KW (pv 0)) (pa_cons (pgl T.c_BITS_OF_A_BYTE) pa_nil)))) (pg_name (i := 4) sc_picture_bytes.nd rfl (Or.inl rfl)) (pss_one (ps_expr (pe_bm PySem.F.plainAttrs_list PySem.F.slot_list_append PySem.F.type_list_append mt_append (pv 2) (pa_cons (pcl O_picture_byte hr (by decide) (pa_cons (pv 0) (pa_cons (pv 1) (pa_cons (pv 4) (pa_cons (pv 3) pa_nil))))) pa_nil)))))))
        (pss_one (ps_ret (pv 2))))), ?_⟩
    refine ⟨Nat.zero_le _, fun q hq => ?_⟩
    have sq := same_new (o := .lst []) hq
    have few : ∀ n m : Nat, n ≤ v.h → m ≤ (v.w + 7) / 8 → (picZ ps v n).length + m < sizeLine := fun n m hn hm => by
      rw [pic_len]
      have c1 : (v.w + 7) / 8 ≤ 8 := by omega
      have c2 : n * ((v.w + 7) / 8) ≤ 64 * 8 := Nat.mul_le_mul (by omega) c1
      exact Nat.lt_of_le_of_lt (show _ ≤ 1000 by omega) (by decide)
    refine ⟨a, v, rfl, kp_win CW _ _ _ _ sq hW, _, rfl, by (try dsimp only); omega, by (try dsimp only); omega, for_range (fun j σ H' => Same H H' ∧ (∃ v3 v4, σ = [some (.ref a), some (.ref l), some (.ref q), v3, v4]) ∧ H' q = some (.lst ((picZ ps v j).map V.int)))
      ⟨sq, ⟨none, none, rfl⟩, upd_same⟩ ?_ ?_⟩
    · rintro j σ H' hj ⟨t1, ⟨v3, v4, rfl⟩, hQ⟩
      have hj : j < ((v.h : Nat) : Int).toNat := hj
      rw [Int.toNat_natCast] at hj
      have rg := rg8 v.w w2
      refine ⟨a, v, rfl, kp_win CW _ _ _ _ t1 hW, 0, _, 8, (v.w + 7) / 8, rfl, ⟨by decide, by decide, rg.1, rg.2⟩, for_rangeC (fun i σ H' => Same H H' ∧ (∃ v4, σ = [some (.ref a), some (.ref l), some (.ref q), some (.int (0 + (j : Nat))), v4]) ∧ H' q = some (.lst ((picZ ps v j ++ rowZ ps v i j).map V.int)))
        ⟨t1, ⟨_, rfl⟩, by rw [show rowZ ps v 0 j = [] from rfl, List.append_nil]; exact hQ⟩ ?_ ?_⟩
      · rintro i σ H2 hi ⟨t2, ⟨v4, rfl⟩, hQ2⟩
        refine ⟨_, rfl, .inl ⟨rfl, _, SqL.of hQ2⟩, _, rfl, _, rfl, _, rfl, _, rfl, a, l, v, ps, i, j, _, _, rfl, by omega, by omega, kp_win CW _ _ _ _ t2 hW, hP.keep (kp_piece CP) t2, hf, by omega, by omega, fun H3 t3 => ?_⟩
        refine ⟨q, _, _, rfl, rfl, t3 _ _ hQ2, ?_, sOff hq (t2.trans t3), ⟨_, rfl⟩, ?_⟩
        · rw [List.length_map, List.length_append, row_len]
          exact few j i (by omega) (by omega)
        · rw [upd_same, row_succ, ← List.append_assoc, List.map_append (l₂ := [_])]
          rfl
      · rintro σ H2 ⟨t2, ⟨v4, rfl⟩, hQ2⟩
        exact ⟨t2, ⟨_, _, rfl⟩, by rw [pic_succ]; exact hQ2⟩
    · rintro σ H' ⟨t1, ⟨v3, v4, rfl⟩, hQ⟩
      have hQ : H' q = some (.lst ((picZ ps v ((v.h : Nat) : Int).toNat).map V.int)) := hQ
      rw [Int.toNat_natCast] at hQ
      exact ⟨_, rfl, k H' q t1 hQ⟩
end
end Tube
namespace Tube
open PySem PySem.Spec PyProof.Rows L2
open Neon (Piece Point Bytes Stroke)
theorem byte_z (l : List Piece) (a : Nat) (v : Neon.Window) (j k : Nat) : ((v.byte l a j k).toNat : Int) = byteZ (Mth.picked l a) v k j := by
  unfold Neon.Window.byte byteZ
  rw [Mth.byte_eq]
  congr 1
  funext b
  exact lit_w ..
theorem pic_z (l : List Piece) (a : Nat) (v : Neon.Window) : ((v.bits l a).map fun (b : UInt8) => (b.toNat : Int)) = picZ (Mth.picked l a) v v.h := by
  unfold Neon.Window.bits picZ rowZ
  rw [List.map_flatMap]
  congr 1
  funext j
  rw [List.map_map]
  congr 1
  funext k
  exact byte_z ..
end Tube
namespace Tube
open PySem PySem.Spec PyProof.Rows L2
open Neon (Piece Point Bytes Stroke)
/-! ### the request -/
def bsOf (t : List Int) : Bytes := t.map fun (n : Int) => UInt8.ofNat n.toNat
theorem text_ok {t : List Int} (h : ∀ z ∈ t, 0 ≤ z ∧ z ≤ 255) : NeonGNeutral.text? t = some (bsOf t) := by
  unfold NeonGNeutral.text?
  rw [if_pos]
  · rfl
  · unfold NeutralIO.bytes
    rw [List.all_eq_true]
    intro z hz
    have := h z hz
    rw [Bool.and_eq_true, decide_eq_true_eq, decide_eq_true_eq]
    exact this
theorem nat_ok {z : Int} (h : 0 ≤ z) : NeonGNeutral.nat? z = some z.toNat := by unfold NeonGNeutral.nat?; rw [if_pos h]
theorem bs_vals {t : List Int} (h : ∀ z ∈ t, 0 ≤ z ∧ z ≤ 255) : t.map V.int = (bsOf t).map bV := by
  unfold bsOf
  rw [List.map_map]
  refine List.map_congr_left fun z hz => ?_
  have := h z hz
  show V.int z = V.int (((UInt8.ofNat z.toNat).toNat : Nat) : Int)
  have e : (UInt8.ofNat z.toNat).toNat = z.toNat := by
    rw [UInt8.toNat_ofNat']
    exact Nat.mod_eq_of_lt (by omega)
  rw [e]
  congr 1
  omega
theorem win_ok {zx zy zw zh zs zr : Int} (hw : 0 ≤ zw) (hh : 0 ≤ zh) (hs : 0 ≤ zs) (hr : 0 ≤ zr) : NeonGNeutral.window? zx zy zw zh zs zr = some ⟨zx, zy, zw.toNat, zh.toNat, zs.toNat, zr.toNat⟩ := by
  have e0 : NeonGNeutral.window? zx zy zw zh zs zr = (NeonGNeutral.nat? zw).bind fun w => (NeonGNeutral.nat? zh).bind fun h => (NeonGNeutral.nat? zs).bind fun s => (NeonGNeutral.nat? zr).bind fun r => some ⟨zx, zy, w, h, s, r⟩ := rfl
  rw [e0, nat_ok hw, nat_ok hh, nat_ok hs, nat_ok hr]
  rfl
theorem f_bits {za zx zy zw zh zs zr : Int} {t : List Int} (ha : 0 ≤ za) (hw : 0 ≤ zw) (hh : 0 ≤ zh) (hs : 0 ≤ zs) (hr : 0 ≤ zr) (ht : ∀ z ∈ t, 0 ≤ z ∧ z ≤ 255) :
    PyWqbadh.bits za zx zy zw zh zs zr t = ansZ (.bits (bsOf t) za.toNat ⟨zx, zy, zw.toNat, zh.toNat, zs.toNat, zr.toNat⟩) := by
  unfold PyWqbadh.bits NeonGNeutral.f
  have e : NeonGNeutral.callOf [[1, za, zx, zy, zw, zh, zs, zr], t] = some (.bits (bsOf t) za.toNat ⟨zx, zy, zw.toNat, zh.toNat, zs.toNat, zr.toNat⟩) := by
    have e0 : NeonGNeutral.callOf [[1, za, zx, zy, zw, zh, zs, zr], t] = (NeonGNeutral.text? t).bind fun b => (NeonGNeutral.nat? za).bind fun n => (NeonGNeutral.window? zx zy zw zh zs zr).bind fun v => some (.bits b n v) := rfl
    rw [e0, text_ok ht, nat_ok ha, win_ok hw hh hs hr]
    rfl
  rw [e]
  rfl
end Tube
namespace Tube
open PySem PySem.Spec PyProof.Rows L2
open Neon (Piece Point Bytes Stroke)
def spBits (K : PySem.W.Frag) : Sp := fun vs H Q _ => ∃ (a : Addr) (bs : Bytes) (n : Nat) (v : Neon.Window), vs = [.int n, .int v.x, .int v.y, .int v.w, .int v.h, .int v.s, .int v.r, .ref a] ∧ SqL K H a (bs.map bV) ∧ bs.length ≤ 66000 ∧
  ∀ (H' : Hp) (p : Addr), H' p = some (.lst ((ansZ (.bits bs n v)).map V.int)) → Q (.ref p) H'
theorem ans_bits (t : Bytes) (a : Nat) (v : Neon.Window) : ansZ (.bits t a v) = outZ (NeonG.ofSet t a v.fine fun l => Neon.gives (v.bits l a)) := rfl
section
variable {P : Program} {w : World} {K : PySem.W.Frag} {mg : Str → Option Value} {base : Heap} {CP CJ CW CL : Addr}
set_option maxHeartbeats 8000000
theorem ok_bits {f : Addr} {fd : FuncData} (F : Fun K "bits" "bits" s_bits f fd) (KL : KLooked K mg CL) (T : Txt K mg) (O_look : OkF P w K mg base 10 "look" ["a", "t", "place_fits"] (spLook K CL CP)) (O_Window : OkC P w K mg base 1 "Window" CW ["self", "x", "y", "columns", "rows", "step", "reach"] (spWindow CW))
    (O_is_right : OkF P w K mg base 2 "is_right" ["window"] (spRight CW)) (O_pieces_of_set : OkF P w K mg base 3 "pieces_of_set" ["a", "pieces"] (spPick CP))
    (O_picture_bytes : OkF P w K mg base 8 "picture_bytes" ["window", "shining"] (spPic CW CP)) : FnOk P w K mg base CX0 11 f fd ["a", "x", "y", "w", "h", "s", "r", "t"] (spBits K) := by
  refine F.ok sc_bits (fun vs H Q E h => ?_) (fun cdv A outer s H vs Q E hr h => ?_)
  · obtain ⟨a, bs, n, v, rfl, _⟩ := h
    rfl
  · obtain ⟨a, bs, n, v, rfl, hS, hlen, k⟩ := h
    refine ⟨_, (pss_cons (ps_set (i := 8) sc_bits.nd rfl (Or.inl rfl) (pmk O_Window hr (by decide) (pa_cons (pv 1) (pa_cons (pv 2) (pa_cons (pv 3) (pa_cons (pv 4) (pa_cons (pv 5) (pa_cons (pv 6) pa_nil))))))))
        (pss_cons (ps_set (i := 9) sc_bits.nd rfl (Or.inl rfl) (pcl O_look hr (by decide) (pa_cons (pv 0) (pa_cons (pv 7) (pa_cons (pcl O_is_right hr (by decide) (pa_cons (pv 8) pa_nil)) pa_nil)))))
        (pss_cons (ps_if (pt_cmpR op_ne (pe_fld (pv 9) rfl) (pgl T.c_NOT_REFUSED) (nomark _)) (pss_one (ps_ret (pe_lst (pa_cons (pe_fld (pv 9) rfl) pa_nil)))) pss_nil)
        (pss_cons (ps_set (i := 10) sc_bits.nd rfl (Or.inl rfl) (pcl O_picture_bytes hr (by decide) (pa_cons (pv 8) (pa_cons (pcl O_pieces_of_set hr (by decide) (pa_cons (pv 0) (pa_cons (pe_fld (pv 9) rfl) pa_nil))) pa_nil))))
        (pss_one (ps_ret (pe_op op_cat (pe_lst (pa_cons (pe_callB call_len_seq (by rfl) T.b_len PySem.boot_len (pa_cons (pv 10) pa_nil)) pa_nil)) (pv 10)))))))), ?_⟩
    refine ⟨_, rfl, _, rfl, _, rfl, _, rfl, _, rfl, _, rfl, fun wa dw hwa hdw hne => ⟨wa, dw, v, rfl, upd_same, fun H2 hW k2 => ⟨rfl, ?_⟩⟩⟩
    have s2 : Same H H2 := Same.made hwa hdw k2
    refine ⟨_, rfl, _, rfl, _, rfl, wa, v, rfl, hW, n, a, bs, v.fine, rfl, s2.seq hS, hlen, fun z hz H3 j dx v9 s3 hj => ?_, fun ps hgo q hl H3 j dx lp s3 hj hP => ?_⟩
    · refine ⟨_, rfl, j, CL, dx, _, _, rfl, hj, KL.cl, KL.no _ (by simp), kf_refusal .., rfl, _, rfl, ite2 (fun _ => ?_) (fun q => absurd (V.int.inj (dT (nT q))) hz.1)⟩
      refine ⟨_, rfl, j, CL, dx, _, _, rfl, hj, KL.cl, KL.no _ (by simp), kf_refusal .., (by show 1 ≤ sizeLine; decide), fun p hp => k _ p ?_⟩
      rw [upd_same, ans_bits, hz.2]
      rfl
    refine ⟨_, rfl, j, CL, dx, _, _, rfl, hj, KL.cl, KL.no _ (by simp), kf_refusal .., rfl, _, rfl, ite2 (fun q => absurd rfl (dF (nF q))) (fun _ => ?_)⟩
    refine ⟨_, rfl, _, rfl, _, rfl, j, CL, dx, _, _, rfl, hj, KL.cl, KL.no _ (by simp), kf_pieces .., n, lp, ps, rfl, hP, hl, fun H4 l4 s4 hP4 => ?_⟩
    refine ⟨wa, l4, v, _, rfl, kp_win CW _ _ _ _ (s3.trans s4) hW, hP4, q, fun H5 pq s5 hpq => ?_⟩
    refine ⟨_, rfl, pq, _, rfl, .inl (SqL.of hpq), (by show 1 ≤ sizeLine; decide), fun p1 hp1 => ?_⟩
    have npq : pq ≠ p1 := ne_of_none hpq hp1
    refine ⟨_, rfl, p1, pq, _, _, rfl, rfl, upd_same, (upd_ne npq).trans hpq, ?_, fun p2 hp2 => k _ p2 ?_⟩
    · obtain ⟨_, _, ⟨w1, w2⟩, ⟨h1, h2⟩, _⟩ := (fine_win v).mp q
      rw [List.length_map, pic_len]
      have c1 : (v.w + 7) / 8 ≤ 8 := by omega
      have c2 : v.h * ((v.w + 7) / 8) ≤ 64 * 8 := Nat.mul_le_mul h2 c1
      exact Nat.le_trans (show _ ≤ 1000 by simp only [List.length_cons, List.length_nil]; omega) (by decide)
    · rw [upd_same]
      rw [ans_bits, hgo]
      unfold Neon.gives outZ
      dsimp only
      rw [← pic_z, List.length_map, List.length_map]
      rfl
end
end Tube
namespace Tube
open PySem PySem.Spec PyProof.Rows L2
open PySem.W (Codec)
theorem len_s {us : List Value} {n : Nat} (h : us.length = n + 1) : ∃ a t, us = a :: t ∧ t.length = n := by
  cases us with
  | nil => exact absurd h (Nat.zero_ne_add_one n)
  | cons a t => exact ⟨a, t, rfl, Nat.succ.inj h⟩
theorem ln1 {us : List Value} (h : us.length = 1) : ∃ u0, us = [u0] := by
  obtain ⟨a, t, rfl, h'⟩ := len_s h
  exact ⟨a, by rw [List.length_eq_zero_iff.mp h']⟩
theorem ln2 {us : List Value} (h : us.length = 2) : ∃ u0 u1, us = [u0, u1] := by
  obtain ⟨u0, t, rfl, h'⟩ := len_s h
  obtain ⟨u1, rfl⟩ := ln1 h'
  exact ⟨u0, u1, rfl⟩
theorem ln3 {us : List Value} (h : us.length = 3) : ∃ u0 u1 u2, us = [u0, u1, u2] := by
  obtain ⟨u0, t, rfl, h'⟩ := len_s h
  obtain ⟨u1, u2, rfl⟩ := ln2 h'
  exact ⟨u0, u1, u2, rfl⟩
theorem ln4 {us : List Value} (h : us.length = 4) : ∃ u0 u1 u2 u3, us = [u0, u1, u2, u3] := by
  obtain ⟨u0, t, rfl, h'⟩ := len_s h
  obtain ⟨u1, u2, u3, rfl⟩ := ln3 h'
  exact ⟨u0, u1, u2, u3, rfl⟩
theorem ln5 {us : List Value} (h : us.length = 5) : ∃ u0 u1 u2 u3 u4, us = [u0, u1, u2, u3, u4] := by
  obtain ⟨u0, t, rfl, h'⟩ := len_s h
  obtain ⟨u1, u2, u3, u4, rfl⟩ := ln4 h'
  exact ⟨u0, u1, u2, u3, u4, rfl⟩
theorem ln6 {us : List Value} (h : us.length = 6) : ∃ u0 u1 u2 u3 u4 u5, us = [u0, u1, u2, u3, u4, u5] := by
  obtain ⟨u0, t, rfl, h'⟩ := len_s h
  obtain ⟨u1, u2, u3, u4, u5, rfl⟩ := ln5 h'
  exact ⟨u0, u1, u2, u3, u4, u5, rfl⟩
theorem ln7 {us : List Value} (h : us.length = 7) : ∃ u0 u1 u2 u3 u4 u5 u6, us = [u0, u1, u2, u3, u4, u5, u6] := by
  obtain ⟨u0, t, rfl, h'⟩ := len_s h
  obtain ⟨u1, u2, u3, u4, u5, u6, rfl⟩ := ln6 h'
  exact ⟨u0, u1, u2, u3, u4, u5, u6, rfl⟩
theorem ln8 {us : List Value} (h : us.length = 8) : ∃ u0 u1 u2 u3 u4 u5 u6 u7, us = [u0, u1, u2, u3, u4, u5, u6, u7] := by
  obtain ⟨u0, t, rfl, h'⟩ := len_s h
  obtain ⟨u1, u2, u3, u4, u5, u6, u7, rfl⟩ := ln7 h'
  exact ⟨u0, u1, u2, u3, u4, u5, u6, u7, rfl⟩
set_option maxHeartbeats 0 in
theorem all_mk {P : Program} {w : World} {K : PySem.W.Frag} {h : Heap} {mg : Str → Option Value} {fa : Addr} (X : K.In h) (G : h.Ns mainGlobals mg) (hfa : mg "bits" = some (.ref fa))
    (c_FIRST_END : ∃ t, PySem.W.nsIn K mainGlobals "FIRST_END" = some (some (.int (0) t)))
    (c_SECOND_END : ∃ t, PySem.W.nsIn K mainGlobals "SECOND_END" = some (some (.int (1) t)))
    (c_BETWEEN : ∃ t, PySem.W.nsIn K mainGlobals "BETWEEN" = some (some (.int (2) t)))
    (c_BLANK : ∃ t, PySem.W.nsIn K mainGlobals "BLANK" = some (some (.int (32) t)))
    (c_COMMA : ∃ t, PySem.W.nsIn K mainGlobals "COMMA" = some (some (.int (44) t)))
    (c_ZERO : ∃ t, PySem.W.nsIn K mainGlobals "ZERO" = some (some (.int (48) t)))
    (c_NINE : ∃ t, PySem.W.nsIn K mainGlobals "NINE" = some (some (.int (57) t)))
    (c_LONGEST_NAME : ∃ t, PySem.W.nsIn K mainGlobals "LONGEST_NAME" = some (some (.int (12) t)))
    (c_FEWEST_POINTS : ∃ t, PySem.W.nsIn K mainGlobals "FEWEST_POINTS" = some (some (.int (2) t)))
    (c_MOST_POINTS : ∃ t, PySem.W.nsIn K mainGlobals "MOST_POINTS" = some (some (.int (65) t)))
    (c_FARTHEST : ∃ t, PySem.W.nsIn K mainGlobals "FARTHEST" = some (some (.int (4095) t)))
    (c_LINE_FEED : ∃ t, PySem.W.nsIn K mainGlobals "LINE_FEED" = some (some (.int (10) t)))
    (c_MOST_PIECES : ∃ t, PySem.W.nsIn K mainGlobals "MOST_PIECES" = some (some (.int (64) t)))
    (c_MOST_AT_A_POINT : ∃ t, PySem.W.nsIn K mainGlobals "MOST_AT_A_POINT" = some (some (.int (8) t)))
    (c_GREATEST_REACH : ∃ t, PySem.W.nsIn K mainGlobals "GREATEST_REACH" = some (some (.int (4095) t)))
    (c_MOST_SPOTS : ∃ t, PySem.W.nsIn K mainGlobals "MOST_SPOTS" = some (some (.int (64) t)))
    (c_WIDEST_STEP : ∃ t, PySem.W.nsIn K mainGlobals "WIDEST_STEP" = some (some (.int (64) t)))
    (c_LEAST_CORNER : ∃ t, PySem.W.nsIn K mainGlobals "LEAST_CORNER" = some (some (.int (-4096) t)))
    (c_GREATEST_CORNER : ∃ t, PySem.W.nsIn K mainGlobals "GREATEST_CORNER" = some (some (.int (4095) t)))
    (c_BITS_OF_A_BYTE : ∃ t, PySem.W.nsIn K mainGlobals "BITS_OF_A_BYTE" = some (some (.int (8) t)))
    (c_MOST_BYTES : ∃ t, PySem.W.nsIn K mainGlobals "MOST_BYTES" = some (some (.int (65536) t)))
    (c_NOT_REFUSED : ∃ t, PySem.W.nsIn K mainGlobals "NOT_REFUSED" = some (some (.int (0) t)))
    (c_WRONG_PLACE : ∃ t, PySem.W.nsIn K mainGlobals "WRONG_PLACE" = some (some (.int (-1) t)))
    (c_TEXT_TOO_LONG : ∃ t, PySem.W.nsIn K mainGlobals "TEXT_TOO_LONG" = some (some (.int (-2) t)))
    (c_NO_SUCH_PIECE : ∃ t, PySem.W.nsIn K mainGlobals "NO_SUCH_PIECE" = some (some (.int (-4) t)))
    (c_NO_DRAWING : ∃ t, PySem.W.nsIn K mainGlobals "NO_DRAWING" = some (some (.int (-6) t)))
    (b_all : PySem.W.nsIn K mainGlobals "all" = some none)
    (b_any : PySem.W.nsIn K mainGlobals "any" = some none)
    (b_len : PySem.W.nsIn K mainGlobals "len" = some none)
    (b_max : PySem.W.nsIn K mainGlobals "max" = some none)
    (b_min : PySem.W.nsIn K mainGlobals "min" = some none)
    (b_ord : PySem.W.nsIn K mainGlobals "ord" = some none)
    (b_range : PySem.W.nsIn K mainGlobals "range" = some none)
    {C4 : Addr} (aC4 : PySem.W.nsIn K mainGlobals "Piece" = some (some (.ref C4)))
    {f4 : Addr} {od4 an4 : Option Addr} {sl4 : Array (Option Value)} {oc4 kV4 dc4 pm4 cd4 ct4 : Value} (a4 : PySem.W.findIn K (.ref C4) "__init__" = some (some (.ref f4))) (i4 : PySem.W.isFn K (.ref f4) = true) (l4 : K.lookup f4 = some ⟨oc4, od4, .func (PySem.W.fnOf "__init__" "Piece.__init__" (defArgs s_Piece_init) (defBody s_Piece_init) (defScope s_Piece_init) .none kV4 dc4 pm4 an4 cd4 ct4), sl4⟩) (c4 : PySem.W.codeIn K cd4 "Piece.__init__" = true) (k4 : PySem.W.keepIn K (.ref f4) = true)
    (pg4 : PySem.W.plainGet K C4 Str.empty = true) (hd4 : PySem.W.hasDictIn K C4 = true) (po4 : PySem.W.plainOver K C4 = true) (sa4 : PySem.W.findIn K (.ref C4) "__setattr__" = some (some (.builtin "object.__setattr__"))) (mk4 : PySem.W.makesIn K C4 = true) (kc4 : PySem.W.keepIn K (.ref C4) = true)
    (n4_ax : PySem.W.findIn K (.ref C4) "ax" = some none)
    (n4_ay : PySem.W.findIn K (.ref C4) "ay" = some none)
    (n4_bx : PySem.W.findIn K (.ref C4) "bx" = some none)
    (n4_by : PySem.W.findIn K (.ref C4) "by" = some none)
    {C36 : Addr} (aC36 : PySem.W.nsIn K mainGlobals "Judged" = some (some (.ref C36)))
    {f36 : Addr} {od36 an36 : Option Addr} {sl36 : Array (Option Value)} {oc36 kV36 dc36 pm36 cd36 ct36 : Value} (a36 : PySem.W.findIn K (.ref C36) "__init__" = some (some (.ref f36))) (i36 : PySem.W.isFn K (.ref f36) = true) (l36 : K.lookup f36 = some ⟨oc36, od36, .func (PySem.W.fnOf "__init__" "Judged.__init__" (defArgs s_Judged_init) (defBody s_Judged_init) (defScope s_Judged_init) .none kV36 dc36 pm36 an36 cd36 ct36), sl36⟩) (c36 : PySem.W.codeIn K cd36 "Judged.__init__" = true) (k36 : PySem.W.keepIn K (.ref f36) = true)
    (pg36 : PySem.W.plainGet K C36 Str.empty = true) (hd36 : PySem.W.hasDictIn K C36 = true) (po36 : PySem.W.plainOver K C36 = true) (sa36 : PySem.W.findIn K (.ref C36) "__setattr__" = some (some (.builtin "object.__setattr__"))) (mk36 : PySem.W.makesIn K C36 = true) (kc36 : PySem.W.keepIn K (.ref C36) = true)
    (n36_pieces : PySem.W.findIn K (.ref C36) "pieces" = some none)
    (n36_kind : PySem.W.findIn K (.ref C36) "kind" = some none)
    (n36_line : PySem.W.findIn K (.ref C36) "line" = some none)
    (n36_which : PySem.W.findIn K (.ref C36) "which" = some none)
    {C60 : Addr} (aC60 : PySem.W.nsIn K mainGlobals "Window" = some (some (.ref C60)))
    {f60 : Addr} {od60 an60 : Option Addr} {sl60 : Array (Option Value)} {oc60 kV60 dc60 pm60 cd60 ct60 : Value} (a60 : PySem.W.findIn K (.ref C60) "__init__" = some (some (.ref f60))) (i60 : PySem.W.isFn K (.ref f60) = true) (l60 : K.lookup f60 = some ⟨oc60, od60, .func (PySem.W.fnOf "__init__" "Window.__init__" (defArgs s_Window_init) (defBody s_Window_init) (defScope s_Window_init) .none kV60 dc60 pm60 an60 cd60 ct60), sl60⟩) (c60 : PySem.W.codeIn K cd60 "Window.__init__" = true) (k60 : PySem.W.keepIn K (.ref f60) = true)
    (pg60 : PySem.W.plainGet K C60 Str.empty = true) (hd60 : PySem.W.hasDictIn K C60 = true) (po60 : PySem.W.plainOver K C60 = true) (sa60 : PySem.W.findIn K (.ref C60) "__setattr__" = some (some (.builtin "object.__setattr__"))) (mk60 : PySem.W.makesIn K C60 = true) (kc60 : PySem.W.keepIn K (.ref C60) = true)
    (n60_x : PySem.W.findIn K (.ref C60) "x" = some none)
    (n60_y : PySem.W.findIn K (.ref C60) "y" = some none)
    (n60_columns : PySem.W.findIn K (.ref C60) "columns" = some none)
    (n60_rows : PySem.W.findIn K (.ref C60) "rows" = some none)
    (n60_step : PySem.W.findIn K (.ref C60) "step" = some none)
    (n60_reach : PySem.W.findIn K (.ref C60) "reach" = some none)
    {C72 : Addr} (aC72 : PySem.W.nsIn K mainGlobals "Looked" = some (some (.ref C72)))
    {f72 : Addr} {od72 an72 : Option Addr} {sl72 : Array (Option Value)} {oc72 kV72 dc72 pm72 cd72 ct72 : Value} (a72 : PySem.W.findIn K (.ref C72) "__init__" = some (some (.ref f72))) (i72 : PySem.W.isFn K (.ref f72) = true) (l72 : K.lookup f72 = some ⟨oc72, od72, .func (PySem.W.fnOf "__init__" "Looked.__init__" (defArgs s_Looked_init) (defBody s_Looked_init) (defScope s_Looked_init) .none kV72 dc72 pm72 an72 cd72 ct72), sl72⟩) (c72 : PySem.W.codeIn K cd72 "Looked.__init__" = true) (k72 : PySem.W.keepIn K (.ref f72) = true)
    (pg72 : PySem.W.plainGet K C72 Str.empty = true) (hd72 : PySem.W.hasDictIn K C72 = true) (po72 : PySem.W.plainOver K C72 = true) (sa72 : PySem.W.findIn K (.ref C72) "__setattr__" = some (some (.builtin "object.__setattr__"))) (mk72 : PySem.W.makesIn K C72 = true) (kc72 : PySem.W.keepIn K (.ref C72) = true)
    (n72_refusal : PySem.W.findIn K (.ref C72) "refusal" = some none)
    (n72_pieces : PySem.W.findIn K (.ref C72) "pieces" = some none)
    {f5 : Addr} {od5 an5 : Option Addr} {sl5 : Array (Option Value)} {oc5 kV5 dc5 pm5 cd5 ct5 : Value} (a5 : PySem.W.nsIn K mainGlobals "square_between" = some (some (.ref f5))) (l5 : K.lookup f5 = some ⟨oc5, od5, .func (PySem.W.fnOf "square_between" "square_between" (defArgs s_square_between) (defBody s_square_between) (defScope s_square_between) .none kV5 dc5 pm5 an5 cd5 ct5), sl5⟩) (c5 : PySem.W.codeIn K cd5 "square_between" = true) (k5 : PySem.W.keepIn K (.ref f5) = true)
    {f6 : Addr} {od6 an6 : Option Addr} {sl6 : Array (Option Value)} {oc6 kV6 dc6 pm6 cd6 ct6 : Value} (a6 : PySem.W.nsIn K mainGlobals "length_square" = some (some (.ref f6))) (l6 : K.lookup f6 = some ⟨oc6, od6, .func (PySem.W.fnOf "length_square" "length_square" (defArgs s_length_square) (defBody s_length_square) (defScope s_length_square) .none kV6 dc6 pm6 an6 cd6 ct6), sl6⟩) (c6 : PySem.W.codeIn K cd6 "length_square" = true) (k6 : PySem.W.keepIn K (.ref f6) = true)
    {f7 : Addr} {od7 an7 : Option Addr} {sl7 : Array (Option Value)} {oc7 kV7 dc7 pm7 cd7 ct7 : Value} (a7 : PySem.W.nsIn K mainGlobals "along" = some (some (.ref f7))) (l7 : K.lookup f7 = some ⟨oc7, od7, .func (PySem.W.fnOf "along" "along" (defArgs s_along) (defBody s_along) (defScope s_along) .none kV7 dc7 pm7 an7 cd7 ct7), sl7⟩) (c7 : PySem.W.codeIn K cd7 "along" = true) (k7 : PySem.W.keepIn K (.ref f7) = true)
    {f8 : Addr} {od8 an8 : Option Addr} {sl8 : Array (Option Value)} {oc8 kV8 dc8 pm8 cd8 ct8 : Value} (a8 : PySem.W.nsIn K mainGlobals "aside" = some (some (.ref f8))) (l8 : K.lookup f8 = some ⟨oc8, od8, .func (PySem.W.fnOf "aside" "aside" (defArgs s_aside) (defBody s_aside) (defScope s_aside) .none kV8 dc8 pm8 an8 cd8 ct8), sl8⟩) (c8 : PySem.W.codeIn K cd8 "aside" = true) (k8 : PySem.W.keepIn K (.ref f8) = true)
    {f9 : Addr} {od9 an9 : Option Addr} {sl9 : Array (Option Value)} {oc9 kV9 dc9 pm9 cd9 ct9 : Value} (a9 : PySem.W.nsIn K mainGlobals "nearest_point" = some (some (.ref f9))) (l9 : K.lookup f9 = some ⟨oc9, od9, .func (PySem.W.fnOf "nearest_point" "nearest_point" (defArgs s_nearest_point) (defBody s_nearest_point) (defScope s_nearest_point) .none kV9 dc9 pm9 an9 cd9 ct9), sl9⟩) (c9 : PySem.W.codeIn K cd9 "nearest_point" = true) (k9 : PySem.W.keepIn K (.ref f9) = true)
    {f10 : Addr} {od10 an10 : Option Addr} {sl10 : Array (Option Value)} {oc10 kV10 dc10 pm10 cd10 ct10 : Value} (a10 : PySem.W.nsIn K mainGlobals "distance_square" = some (some (.ref f10))) (l10 : K.lookup f10 = some ⟨oc10, od10, .func (PySem.W.fnOf "distance_square" "distance_square" (defArgs s_distance_square) (defBody s_distance_square) (defScope s_distance_square) .none kV10 dc10 pm10 an10 cd10 ct10), sl10⟩) (c10 : PySem.W.codeIn K cd10 "distance_square" = true) (k10 : PySem.W.keepIn K (.ref f10) = true)
    {f11 : Addr} {od11 an11 : Option Addr} {sl11 : Array (Option Value)} {oc11 kV11 dc11 pm11 cd11 ct11 : Value} (a11 : PySem.W.nsIn K mainGlobals "ends_at" = some (some (.ref f11))) (l11 : K.lookup f11 = some ⟨oc11, od11, .func (PySem.W.fnOf "ends_at" "ends_at" (defArgs s_ends_at) (defBody s_ends_at) (defScope s_ends_at) .none kV11 dc11 pm11 an11 cd11 ct11), sl11⟩) (c11 : PySem.W.codeIn K cd11 "ends_at" = true) (k11 : PySem.W.keepIn K (.ref f11) = true)
    {f12 : Addr} {od12 an12 : Option Addr} {sl12 : Array (Option Value)} {oc12 kV12 dc12 pm12 cd12 ct12 : Value} (a12 : PySem.W.nsIn K mainGlobals "share_an_end" = some (some (.ref f12))) (l12 : K.lookup f12 = some ⟨oc12, od12, .func (PySem.W.fnOf "share_an_end" "share_an_end" (defArgs s_share_an_end) (defBody s_share_an_end) (defScope s_share_an_end) .none kV12 dc12 pm12 an12 cd12 ct12), sl12⟩) (c12 : PySem.W.codeIn K cd12 "share_an_end" = true) (k12 : PySem.W.keepIn K (.ref f12) = true)
    {f13 : Addr} {od13 an13 : Option Addr} {sl13 : Array (Option Value)} {oc13 kV13 dc13 pm13 cd13 ct13 : Value} (a13 : PySem.W.nsIn K mainGlobals "lie_over" = some (some (.ref f13))) (l13 : K.lookup f13 = some ⟨oc13, od13, .func (PySem.W.fnOf "lie_over" "lie_over" (defArgs s_lie_over) (defBody s_lie_over) (defScope s_lie_over) .none kV13 dc13 pm13 an13 cd13 ct13), sl13⟩) (c13 : PySem.W.codeIn K cd13 "lie_over" = true) (k13 : PySem.W.keepIn K (.ref f13) = true)
    {f14 : Addr} {od14 an14 : Option Addr} {sl14 : Array (Option Value)} {oc14 kV14 dc14 pm14 cd14 ct14 : Value} (a14 : PySem.W.nsIn K mainGlobals "meet_badly" = some (some (.ref f14))) (l14 : K.lookup f14 = some ⟨oc14, od14, .func (PySem.W.fnOf "meet_badly" "meet_badly" (defArgs s_meet_badly) (defBody s_meet_badly) (defScope s_meet_badly) .none kV14 dc14 pm14 an14 cd14 ct14), sl14⟩) (c14 : PySem.W.codeIn K cd14 "meet_badly" = true) (k14 : PySem.W.keepIn K (.ref f14) = true)
    {f24 : Addr} {od24 an24 : Option Addr} {sl24 : Array (Option Value)} {oc24 kV24 dc24 pm24 cd24 ct24 : Value} (a24 : PySem.W.nsIn K mainGlobals "cut" = some (some (.ref f24))) (l24 : K.lookup f24 = some ⟨oc24, od24, .func (PySem.W.fnOf "cut" "cut" (defArgs s_cut) (defBody s_cut) (defScope s_cut) .none kV24 dc24 pm24 an24 cd24 ct24), sl24⟩) (c24 : PySem.W.codeIn K cd24 "cut" = true) (k24 : PySem.W.keepIn K (.ref f24) = true)
    {f25 : Addr} {od25 an25 : Option Addr} {sl25 : Array (Option Value)} {oc25 kV25 dc25 pm25 cd25 ct25 : Value} (a25 : PySem.W.nsIn K mainGlobals "spelled" = some (some (.ref f25))) (l25 : K.lookup f25 = some ⟨oc25, od25, .func (PySem.W.fnOf "spelled" "spelled" (defArgs s_spelled) (defBody s_spelled) (defScope s_spelled) .none kV25 dc25 pm25 an25 cd25 ct25), sl25⟩) (c25 : PySem.W.codeIn K cd25 "spelled" = true) (k25 : PySem.W.keepIn K (.ref f25) = true)
    {f26 : Addr} {od26 an26 : Option Addr} {sl26 : Array (Option Value)} {oc26 kV26 dc26 pm26 cd26 ct26 : Value} (a26 : PySem.W.nsIn K mainGlobals "is_digit" = some (some (.ref f26))) (l26 : K.lookup f26 = some ⟨oc26, od26, .func (PySem.W.fnOf "is_digit" "is_digit" (defArgs s_is_digit) (defBody s_is_digit) (defScope s_is_digit) .none kV26 dc26 pm26 an26 cd26 ct26), sl26⟩) (c26 : PySem.W.codeIn K cd26 "is_digit" = true) (k26 : PySem.W.keepIn K (.ref f26) = true)
    {f27 : Addr} {od27 an27 : Option Addr} {sl27 : Array (Option Value)} {oc27 kV27 dc27 pm27 cd27 ct27 : Value} (a27 : PySem.W.nsIn K mainGlobals "is_name_byte" = some (some (.ref f27))) (l27 : K.lookup f27 = some ⟨oc27, od27, .func (PySem.W.fnOf "is_name_byte" "is_name_byte" (defArgs s_is_name_byte) (defBody s_is_name_byte) (defScope s_is_name_byte) .none kV27 dc27 pm27 an27 cd27 ct27), sl27⟩) (c27 : PySem.W.codeIn K cd27 "is_name_byte" = true) (k27 : PySem.W.keepIn K (.ref f27) = true)
    {f28 : Addr} {od28 an28 : Option Addr} {sl28 : Array (Option Value)} {oc28 kV28 dc28 pm28 cd28 ct28 : Value} (a28 : PySem.W.nsIn K mainGlobals "is_sign_line" = some (some (.ref f28))) (l28 : K.lookup f28 = some ⟨oc28, od28, .func (PySem.W.fnOf "is_sign_line" "is_sign_line" (defArgs s_is_sign_line) (defBody s_is_sign_line) (defScope s_is_sign_line) .none kV28 dc28 pm28 an28 cd28 ct28), sl28⟩) (c28 : PySem.W.codeIn K cd28 "is_sign_line" = true) (k28 : PySem.W.keepIn K (.ref f28) = true)
    {f29 : Addr} {od29 an29 : Option Addr} {sl29 : Array (Option Value)} {oc29 kV29 dc29 pm29 cd29 ct29 : Value} (a29 : PySem.W.nsIn K mainGlobals "read_number" = some (some (.ref f29))) (l29 : K.lookup f29 = some ⟨oc29, od29, .func (PySem.W.fnOf "read_number" "read_number" (defArgs s_read_number) (defBody s_read_number) (defScope s_read_number) .none kV29 dc29 pm29 an29 cd29 ct29), sl29⟩) (c29 : PySem.W.codeIn K cd29 "read_number" = true) (k29 : PySem.W.keepIn K (.ref f29) = true)
    {f30 : Addr} {od30 an30 : Option Addr} {sl30 : Array (Option Value)} {oc30 kV30 dc30 pm30 cd30 ct30 : Value} (a30 : PySem.W.nsIn K mainGlobals "read_point" = some (some (.ref f30))) (l30 : K.lookup f30 = some ⟨oc30, od30, .func (PySem.W.fnOf "read_point" "read_point" (defArgs s_read_point) (defBody s_read_point) (defScope s_read_point) .none kV30 dc30 pm30 an30 cd30 ct30), sl30⟩) (c30 : PySem.W.codeIn K cd30 "read_point" = true) (k30 : PySem.W.keepIn K (.ref f30) = true)
    {f31 : Addr} {od31 an31 : Option Addr} {sl31 : Array (Option Value)} {oc31 kV31 dc31 pm31 cd31 ct31 : Value} (a31 : PySem.W.nsIn K mainGlobals "read_points" = some (some (.ref f31))) (l31 : K.lookup f31 = some ⟨oc31, od31, .func (PySem.W.fnOf "read_points" "read_points" (defArgs s_read_points) (defBody s_read_points) (defScope s_read_points) .none kV31 dc31 pm31 an31 cd31 ct31), sl31⟩) (c31 : PySem.W.codeIn K cd31 "read_points" = true) (k31 : PySem.W.keepIn K (.ref f31) = true)
    {f37 : Addr} {od37 an37 : Option Addr} {sl37 : Array (Option Value)} {oc37 kV37 dc37 pm37 cd37 ct37 : Value} (a37 : PySem.W.nsIn K mainGlobals "pieces_between" = some (some (.ref f37))) (l37 : K.lookup f37 = some ⟨oc37, od37, .func (PySem.W.fnOf "pieces_between" "pieces_between" (defArgs s_pieces_between) (defBody s_pieces_between) (defScope s_pieces_between) .none kV37 dc37 pm37 an37 cd37 ct37), sl37⟩) (c37 : PySem.W.codeIn K cd37 "pieces_between" = true) (k37 : PySem.W.keepIn K (.ref f37) = true)
    {f38 : Addr} {od38 an38 : Option Addr} {sl38 : Array (Option Value)} {oc38 kV38 dc38 pm38 cd38 ct38 : Value} (a38 : PySem.W.nsIn K mainGlobals "points_fault" = some (some (.ref f38))) (l38 : K.lookup f38 = some ⟨oc38, od38, .func (PySem.W.fnOf "points_fault" "points_fault" (defArgs s_points_fault) (defBody s_points_fault) (defScope s_points_fault) .none kV38 dc38 pm38 an38 cd38 ct38), sl38⟩) (c38 : PySem.W.codeIn K cd38 "points_fault" = true) (k38 : PySem.W.keepIn K (.ref f38) = true)
    {f39 : Addr} {od39 an39 : Option Addr} {sl39 : Array (Option Value)} {oc39 kV39 dc39 pm39 cd39 ct39 : Value} (a39 : PySem.W.nsIn K mainGlobals "meets_one_before_badly" = some (some (.ref f39))) (l39 : K.lookup f39 = some ⟨oc39, od39, .func (PySem.W.fnOf "meets_one_before_badly" "meets_one_before_badly" (defArgs s_meets_one_before_badly) (defBody s_meets_one_before_badly) (defScope s_meets_one_before_badly) .none kV39 dc39 pm39 an39 cd39 ct39), sl39⟩) (c39 : PySem.W.codeIn K cd39 "meets_one_before_badly" = true) (k39 : PySem.W.keepIn K (.ref f39) = true)
    {f40 : Addr} {od40 an40 : Option Addr} {sl40 : Array (Option Value)} {oc40 kV40 dc40 pm40 cd40 ct40 : Value} (a40 : PySem.W.nsIn K mainGlobals "count_ends" = some (some (.ref f40))) (l40 : K.lookup f40 = some ⟨oc40, od40, .func (PySem.W.fnOf "count_ends" "count_ends" (defArgs s_count_ends) (defBody s_count_ends) (defScope s_count_ends) .none kV40 dc40 pm40 an40 cd40 ct40), sl40⟩) (c40 : PySem.W.codeIn K cd40 "count_ends" = true) (k40 : PySem.W.keepIn K (.ref f40) = true)
    {f41 : Addr} {od41 an41 : Option Addr} {sl41 : Array (Option Value)} {oc41 kV41 dc41 pm41 cd41 ct41 : Value} (a41 : PySem.W.nsIn K mainGlobals "is_one_too_many" = some (some (.ref f41))) (l41 : K.lookup f41 = some ⟨oc41, od41, .func (PySem.W.fnOf "is_one_too_many" "is_one_too_many" (defArgs s_is_one_too_many) (defBody s_is_one_too_many) (defScope s_is_one_too_many) .none kV41 dc41 pm41 an41 cd41 ct41), sl41⟩) (c41 : PySem.W.codeIn K cd41 "is_one_too_many" = true) (k41 : PySem.W.keepIn K (.ref f41) = true)
    {f42 : Addr} {od42 an42 : Option Addr} {sl42 : Array (Option Value)} {oc42 kV42 dc42 pm42 cd42 ct42 : Value} (a42 : PySem.W.nsIn K mainGlobals "pieces_fault" = some (some (.ref f42))) (l42 : K.lookup f42 = some ⟨oc42, od42, .func (PySem.W.fnOf "pieces_fault" "pieces_fault" (defArgs s_pieces_fault) (defBody s_pieces_fault) (defScope s_pieces_fault) .none kV42 dc42 pm42 an42 cd42 ct42), sl42⟩) (c42 : PySem.W.codeIn K cd42 "pieces_fault" = true) (k42 : PySem.W.keepIn K (.ref f42) = true)
    {f43 : Addr} {od43 an43 : Option Addr} {sl43 : Array (Option Value)} {oc43 kV43 dc43 pm43 cd43 ct43 : Value} (a43 : PySem.W.nsIn K mainGlobals "judge_strokes" = some (some (.ref f43))) (l43 : K.lookup f43 = some ⟨oc43, od43, .func (PySem.W.fnOf "judge_strokes" "judge_strokes" (defArgs s_judge_strokes) (defBody s_judge_strokes) (defScope s_judge_strokes) .none kV43 dc43 pm43 an43 cd43 ct43), sl43⟩) (c43 : PySem.W.codeIn K cd43 "judge_strokes" = true) (k43 : PySem.W.keepIn K (.ref f43) = true)
    {f44 : Addr} {od44 an44 : Option Addr} {sl44 : Array (Option Value)} {oc44 kV44 dc44 pm44 cd44 ct44 : Value} (a44 : PySem.W.nsIn K mainGlobals "judge" = some (some (.ref f44))) (l44 : K.lookup f44 = some ⟨oc44, od44, .func (PySem.W.fnOf "judge" "judge" (defArgs s_judge) (defBody s_judge) (defScope s_judge) .none kV44 dc44 pm44 an44 cd44 ct44), sl44⟩) (c44 : PySem.W.codeIn K cd44 "judge" = true) (k44 : PySem.W.keepIn K (.ref f44) = true)
    {f46 : Addr} {od46 an46 : Option Addr} {sl46 : Array (Option Value)} {oc46 kV46 dc46 pm46 cd46 ct46 : Value} (a46 : PySem.W.nsIn K mainGlobals "is_less" = some (some (.ref f46))) (l46 : K.lookup f46 = some ⟨oc46, od46, .func (PySem.W.fnOf "is_less" "is_less" (defArgs s_is_less) (defBody s_is_less) (defScope s_is_less) .none kV46 dc46 pm46 an46 cd46 ct46), sl46⟩) (c46 : PySem.W.codeIn K cd46 "is_less" = true) (k46 : PySem.W.keepIn K (.ref f46) = true)
    {f49 : Addr} {od49 an49 : Option Addr} {sl49 : Array (Option Value)} {oc49 kV49 dc49 pm49 cd49 ct49 : Value} (a49 : PySem.W.nsIn K mainGlobals "is_right_reach" = some (some (.ref f49))) (l49 : K.lookup f49 = some ⟨oc49, od49, .func (PySem.W.fnOf "is_right_reach" "is_right_reach" (defArgs s_is_right_reach) (defBody s_is_right_reach) (defScope s_is_right_reach) .none kV49 dc49 pm49 an49 cd49 ct49), sl49⟩) (c49 : PySem.W.codeIn K cd49 "is_right_reach" = true) (k49 : PySem.W.keepIn K (.ref f49) = true)
    {f50 : Addr} {od50 an50 : Option Addr} {sl50 : Array (Option Value)} {oc50 kV50 dc50 pm50 cd50 ct50 : Value} (a50 : PySem.W.nsIn K mainGlobals "has_missing_piece" = some (some (.ref f50))) (l50 : K.lookup f50 = some ⟨oc50, od50, .func (PySem.W.fnOf "has_missing_piece" "has_missing_piece" (defArgs s_has_missing_piece) (defBody s_has_missing_piece) (defScope s_has_missing_piece) .none kV50 dc50 pm50 an50 cd50 ct50), sl50⟩) (c50 : PySem.W.codeIn K cd50 "has_missing_piece" = true) (k50 : PySem.W.keepIn K (.ref f50) = true)
    {f51 : Addr} {od51 an51 : Option Addr} {sl51 : Array (Option Value)} {oc51 kV51 dc51 pm51 cd51 ct51 : Value} (a51 : PySem.W.nsIn K mainGlobals "numbers_of_set" = some (some (.ref f51))) (l51 : K.lookup f51 = some ⟨oc51, od51, .func (PySem.W.fnOf "numbers_of_set" "numbers_of_set" (defArgs s_numbers_of_set) (defBody s_numbers_of_set) (defScope s_numbers_of_set) .none kV51 dc51 pm51 an51 cd51 ct51), sl51⟩) (c51 : PySem.W.codeIn K cd51 "numbers_of_set" = true) (k51 : PySem.W.keepIn K (.ref f51) = true)
    {f52 : Addr} {od52 an52 : Option Addr} {sl52 : Array (Option Value)} {oc52 kV52 dc52 pm52 cd52 ct52 : Value} (a52 : PySem.W.nsIn K mainGlobals "pieces_of_set" = some (some (.ref f52))) (l52 : K.lookup f52 = some ⟨oc52, od52, .func (PySem.W.fnOf "pieces_of_set" "pieces_of_set" (defArgs s_pieces_of_set) (defBody s_pieces_of_set) (defScope s_pieces_of_set) .none kV52 dc52 pm52 an52 cd52 ct52), sl52⟩) (c52 : PySem.W.codeIn K cd52 "pieces_of_set" = true) (k52 : PySem.W.keepIn K (.ref f52) = true)
    {f53 : Addr} {od53 an53 : Option Addr} {sl53 : Array (Option Value)} {oc53 kV53 dc53 pm53 cd53 ct53 : Value} (a53 : PySem.W.nsIn K mainGlobals "is_lit" = some (some (.ref f53))) (l53 : K.lookup f53 = some ⟨oc53, od53, .func (PySem.W.fnOf "is_lit" "is_lit" (defArgs s_is_lit) (defBody s_is_lit) (defScope s_is_lit) .none kV53 dc53 pm53 an53 cd53 ct53), sl53⟩) (c53 : PySem.W.codeIn K cd53 "is_lit" = true) (k53 : PySem.W.keepIn K (.ref f53) = true)
    {f61 : Addr} {od61 an61 : Option Addr} {sl61 : Array (Option Value)} {oc61 kV61 dc61 pm61 cd61 ct61 : Value} (a61 : PySem.W.nsIn K mainGlobals "is_right" = some (some (.ref f61))) (l61 : K.lookup f61 = some ⟨oc61, od61, .func (PySem.W.fnOf "is_right" "is_right" (defArgs s_is_right) (defBody s_is_right) (defScope s_is_right) .none kV61 dc61 pm61 an61 cd61 ct61), sl61⟩) (c61 : PySem.W.codeIn K cd61 "is_right" = true) (k61 : PySem.W.keepIn K (.ref f61) = true)
    {f62 : Addr} {od62 an62 : Option Addr} {sl62 : Array (Option Value)} {oc62 kV62 dc62 pm62 cd62 ct62 : Value} (a62 : PySem.W.nsIn K mainGlobals "is_lit_at" = some (some (.ref f62))) (l62 : K.lookup f62 = some ⟨oc62, od62, .func (PySem.W.fnOf "is_lit_at" "is_lit_at" (defArgs s_is_lit_at) (defBody s_is_lit_at) (defScope s_is_lit_at) .none kV62 dc62 pm62 an62 cd62 ct62), sl62⟩) (c62 : PySem.W.codeIn K cd62 "is_lit_at" = true) (k62 : PySem.W.keepIn K (.ref f62) = true)
    {f63 : Addr} {od63 an63 : Option Addr} {sl63 : Array (Option Value)} {oc63 kV63 dc63 pm63 cd63 ct63 : Value} (a63 : PySem.W.nsIn K mainGlobals "picture_byte" = some (some (.ref f63))) (l63 : K.lookup f63 = some ⟨oc63, od63, .func (PySem.W.fnOf "picture_byte" "picture_byte" (defArgs s_picture_byte) (defBody s_picture_byte) (defScope s_picture_byte) .none kV63 dc63 pm63 an63 cd63 ct63), sl63⟩) (c63 : PySem.W.codeIn K cd63 "picture_byte" = true) (k63 : PySem.W.keepIn K (.ref f63) = true)
    {f64 : Addr} {od64 an64 : Option Addr} {sl64 : Array (Option Value)} {oc64 kV64 dc64 pm64 cd64 ct64 : Value} (a64 : PySem.W.nsIn K mainGlobals "picture_bytes" = some (some (.ref f64))) (l64 : K.lookup f64 = some ⟨oc64, od64, .func (PySem.W.fnOf "picture_bytes" "picture_bytes" (defArgs s_picture_bytes) (defBody s_picture_bytes) (defScope s_picture_bytes) .none kV64 dc64 pm64 an64 cd64 ct64), sl64⟩) (c64 : PySem.W.codeIn K cd64 "picture_bytes" = true) (k64 : PySem.W.keepIn K (.ref f64) = true)
    {f73 : Addr} {od73 an73 : Option Addr} {sl73 : Array (Option Value)} {oc73 kV73 dc73 pm73 cd73 ct73 : Value} (a73 : PySem.W.nsIn K mainGlobals "look" = some (some (.ref f73))) (l73 : K.lookup f73 = some ⟨oc73, od73, .func (PySem.W.fnOf "look" "look" (defArgs s_look) (defBody s_look) (defScope s_look) .none kV73 dc73 pm73 an73 cd73 ct73), sl73⟩) (c73 : PySem.W.codeIn K cd73 "look" = true) (k73 : PySem.W.keepIn K (.ref f73) = true)
    {f74 : Addr} {od74 an74 : Option Addr} {sl74 : Array (Option Value)} {oc74 kV74 dc74 pm74 cd74 ct74 : Value} (a74 : PySem.W.nsIn K mainGlobals "bits" = some (some (.ref f74))) (l74 : K.lookup f74 = some ⟨oc74, od74, .func (PySem.W.fnOf "bits" "bits" (defArgs s_bits) (defBody s_bits) (defScope s_bits) .none kV74 dc74 pm74 an74 cd74 ct74), sl74⟩) (c74 : PySem.W.codeIn K cd74 "bits" = true) (k74 : PySem.W.keepIn K (.ref f74) = true)
    : ∃ fd : FuncData, (∀ (s : Shared) (us : List Value), us.length = (["a", "x", "y", "w", "h", "s", "r", "t"] : List Str).length → BindsTo s fd ⟨us, []⟩ ((["a", "x", "y", "w", "h", "s", "r", "t"] : List Str).zip us)) ∧ ∀ base : Heap, K.In base → base.Ns mainGlobals mg → FnOk P w K mg base CX0 11 fa fd ["a", "x", "y", "w", "h", "s", "r", "t"] (spBits K) := by
  have e := hfa.symm.trans (PySem.W.mg_of X G a74)
  cases e
  have T : Txt K mg := ⟨c_FIRST_END.elim fun t e => ⟨t, PySem.W.mg_of X G e⟩, c_SECOND_END.elim fun t e => ⟨t, PySem.W.mg_of X G e⟩, c_BETWEEN.elim fun t e => ⟨t, PySem.W.mg_of X G e⟩, c_BLANK.elim fun t e => ⟨t, PySem.W.mg_of X G e⟩, c_COMMA.elim fun t e => ⟨t, PySem.W.mg_of X G e⟩, c_ZERO.elim fun t e => ⟨t, PySem.W.mg_of X G e⟩, c_NINE.elim fun t e => ⟨t, PySem.W.mg_of X G e⟩, c_LONGEST_NAME.elim fun t e => ⟨t, PySem.W.mg_of X G e⟩, c_FEWEST_POINTS.elim fun t e => ⟨t, PySem.W.mg_of X G e⟩, c_MOST_POINTS.elim fun t e => ⟨t, PySem.W.mg_of X G e⟩, c_FARTHEST.elim fun t e => ⟨t, PySem.W.mg_of X G e⟩, c_LINE_FEED.elim fun t e => ⟨t, PySem.W.mg_of X G e⟩, c_MOST_PIECES.elim fun t e => ⟨t, PySem.W.mg_of X G e⟩, c_MOST_AT_A_POINT.elim fun t e => ⟨t, PySem.W.mg_of X G e⟩, c_GREATEST_REACH.elim fun t e => ⟨t, PySem.W.mg_of X G e⟩, c_MOST_SPOTS.elim fun t e => ⟨t, PySem.W.mg_of X G e⟩, c_WIDEST_STEP.elim fun t e => ⟨t, PySem.W.mg_of X G e⟩, c_LEAST_CORNER.elim fun t e => ⟨t, PySem.W.mg_of X G e⟩, c_GREATEST_CORNER.elim fun t e => ⟨t, PySem.W.mg_of X G e⟩, c_BITS_OF_A_BYTE.elim fun t e => ⟨t, PySem.W.mg_of X G e⟩, c_MOST_BYTES.elim fun t e => ⟨t, PySem.W.mg_of X G e⟩, c_NOT_REFUSED.elim fun t e => ⟨t, PySem.W.mg_of X G e⟩, c_WRONG_PLACE.elim fun t e => ⟨t, PySem.W.mg_of X G e⟩, c_TEXT_TOO_LONG.elim fun t e => ⟨t, PySem.W.mg_of X G e⟩, c_NO_SUCH_PIECE.elim fun t e => ⟨t, PySem.W.mg_of X G e⟩, c_NO_DRAWING.elim fun t e => ⟨t, PySem.W.mg_of X G e⟩, PySem.W.mg_none_of X G b_all, PySem.W.mg_none_of X G b_any, PySem.W.mg_none_of X G b_len, PySem.W.mg_none_of X G b_max, PySem.W.mg_none_of X G b_min, PySem.W.mg_none_of X G b_ord, PySem.W.mg_none_of X G b_range⟩
  have F4 := fun_mk (st := s_Piece_init) l4 c4 k4
  have no4 : ∀ z ∈ (["ax", "ay", "bx", "by"] : List Str), NoAttr K C4 z := fun z hz => by
    simp only [List.mem_cons, List.not_mem_nil, or_false] at hz
    rcases hz with rfl | rfl | rfl | rfl
    · exact n4_ax
    · exact n4_ay
    · exact n4_bx
    · exact n4_by
  have K_Piece : Kl K mg C4 "Piece" "Piece.__init__" ["ax", "ay", "bx", "by"] s_Piece_init ["self", "first", "second"] := ⟨⟨pg4, hd4, po4, sa4⟩, no4, PySem.W.mg_of X G aC4, _, _, ⟨mk4, a4, i4, kc4⟩, F4, F4.binds (ps := ["self", "first", "second"]) fun _ _ _ _ _ _ us hl => by obtain ⟨u0, u1, u2, rfl⟩ := ln3 hl; rfl⟩
  have F36 := fun_mk (st := s_Judged_init) l36 c36 k36
  have no36 : ∀ z ∈ (["pieces", "kind", "line", "which"] : List Str), NoAttr K C36 z := fun z hz => by
    simp only [List.mem_cons, List.not_mem_nil, or_false] at hz
    rcases hz with rfl | rfl | rfl | rfl
    · exact n36_pieces
    · exact n36_kind
    · exact n36_line
    · exact n36_which
  have K_Judged : Kl K mg C36 "Judged" "Judged.__init__" ["pieces", "kind", "line", "which"] s_Judged_init ["self", "pieces", "kind", "line", "which"] := ⟨⟨pg36, hd36, po36, sa36⟩, no36, PySem.W.mg_of X G aC36, _, _, ⟨mk36, a36, i36, kc36⟩, F36, F36.binds (ps := ["self", "pieces", "kind", "line", "which"]) fun _ _ _ _ _ _ us hl => by obtain ⟨u0, u1, u2, u3, u4, rfl⟩ := ln5 hl; rfl⟩
  have F60 := fun_mk (st := s_Window_init) l60 c60 k60
  have no60 : ∀ z ∈ (["x", "y", "columns", "rows", "step", "reach"] : List Str), NoAttr K C60 z := fun z hz => by
    simp only [List.mem_cons, List.not_mem_nil, or_false] at hz
    rcases hz with rfl | rfl | rfl | rfl | rfl | rfl
    · exact n60_x
    · exact n60_y
    · exact n60_columns
    · exact n60_rows
    · exact n60_step
    · exact n60_reach
  have K_Window : Kl K mg C60 "Window" "Window.__init__" ["x", "y", "columns", "rows", "step", "reach"] s_Window_init ["self", "x", "y", "columns", "rows", "step", "reach"] := ⟨⟨pg60, hd60, po60, sa60⟩, no60, PySem.W.mg_of X G aC60, _, _, ⟨mk60, a60, i60, kc60⟩, F60, F60.binds (ps := ["self", "x", "y", "columns", "rows", "step", "reach"]) fun _ _ _ _ _ _ us hl => by obtain ⟨u0, u1, u2, u3, u4, u5, u6, rfl⟩ := ln7 hl; rfl⟩
  have F72 := fun_mk (st := s_Looked_init) l72 c72 k72
  have no72 : ∀ z ∈ (["refusal", "pieces"] : List Str), NoAttr K C72 z := fun z hz => by
    simp only [List.mem_cons, List.not_mem_nil, or_false] at hz
    rcases hz with rfl | rfl
    · exact n72_refusal
    · exact n72_pieces
  have K_Looked : Kl K mg C72 "Looked" "Looked.__init__" ["refusal", "pieces"] s_Looked_init ["self", "refusal", "pieces"] := ⟨⟨pg72, hd72, po72, sa72⟩, no72, PySem.W.mg_of X G aC72, _, _, ⟨mk72, a72, i72, kc72⟩, F72, F72.binds (ps := ["self", "refusal", "pieces"]) fun _ _ _ _ _ _ us hl => by obtain ⟨u0, u1, u2, rfl⟩ := ln3 hl; rfl⟩
  have F5 := fun_mk (st := s_square_between) l5 c5 k5
  have D_square_between : Dn K mg "square_between" s_square_between ["ax", "ay", "bx", "by"] := ⟨_, _, PySem.W.mg_of X G a5, F5, F5.binds (ps := ["ax", "ay", "bx", "by"]) fun _ _ _ _ _ _ us hl => by obtain ⟨u0, u1, u2, u3, rfl⟩ := ln4 hl; rfl⟩
  have F6 := fun_mk (st := s_length_square) l6 c6 k6
  have D_length_square : Dn K mg "length_square" s_length_square ["piece"] := ⟨_, _, PySem.W.mg_of X G a6, F6, F6.binds (ps := ["piece"]) fun _ _ _ _ _ _ us hl => by obtain ⟨u0, rfl⟩ := ln1 hl; rfl⟩
  have F7 := fun_mk (st := s_along) l7 c7 k7
  have D_along : Dn K mg "along" s_along ["piece", "x", "y"] := ⟨_, _, PySem.W.mg_of X G a7, F7, F7.binds (ps := ["piece", "x", "y"]) fun _ _ _ _ _ _ us hl => by obtain ⟨u0, u1, u2, rfl⟩ := ln3 hl; rfl⟩
  have F8 := fun_mk (st := s_aside) l8 c8 k8
  have D_aside : Dn K mg "aside" s_aside ["piece", "x", "y"] := ⟨_, _, PySem.W.mg_of X G a8, F8, F8.binds (ps := ["piece", "x", "y"]) fun _ _ _ _ _ _ us hl => by obtain ⟨u0, u1, u2, rfl⟩ := ln3 hl; rfl⟩
  have F9 := fun_mk (st := s_nearest_point) l9 c9 k9
  have D_nearest_point : Dn K mg "nearest_point" s_nearest_point ["piece", "x", "y"] := ⟨_, _, PySem.W.mg_of X G a9, F9, F9.binds (ps := ["piece", "x", "y"]) fun _ _ _ _ _ _ us hl => by obtain ⟨u0, u1, u2, rfl⟩ := ln3 hl; rfl⟩
  have F10 := fun_mk (st := s_distance_square) l10 c10 k10
  have D_distance_square : Dn K mg "distance_square" s_distance_square ["piece", "x", "y"] := ⟨_, _, PySem.W.mg_of X G a10, F10, F10.binds (ps := ["piece", "x", "y"]) fun _ _ _ _ _ _ us hl => by obtain ⟨u0, u1, u2, rfl⟩ := ln3 hl; rfl⟩
  have F11 := fun_mk (st := s_ends_at) l11 c11 k11
  have D_ends_at : Dn K mg "ends_at" s_ends_at ["piece", "x", "y"] := ⟨_, _, PySem.W.mg_of X G a11, F11, F11.binds (ps := ["piece", "x", "y"]) fun _ _ _ _ _ _ us hl => by obtain ⟨u0, u1, u2, rfl⟩ := ln3 hl; rfl⟩
  have F12 := fun_mk (st := s_share_an_end) l12 c12 k12
  have D_share_an_end : Dn K mg "share_an_end" s_share_an_end ["one", "other"] := ⟨_, _, PySem.W.mg_of X G a12, F12, F12.binds (ps := ["one", "other"]) fun _ _ _ _ _ _ us hl => by obtain ⟨u0, u1, rfl⟩ := ln2 hl; rfl⟩
  have F13 := fun_mk (st := s_lie_over) l13 c13 k13
  have D_lie_over : Dn K mg "lie_over" s_lie_over ["one", "other"] := ⟨_, _, PySem.W.mg_of X G a13, F13, F13.binds (ps := ["one", "other"]) fun _ _ _ _ _ _ us hl => by obtain ⟨u0, u1, rfl⟩ := ln2 hl; rfl⟩
  have F14 := fun_mk (st := s_meet_badly) l14 c14 k14
  have D_meet_badly : Dn K mg "meet_badly" s_meet_badly ["one", "other"] := ⟨_, _, PySem.W.mg_of X G a14, F14, F14.binds (ps := ["one", "other"]) fun _ _ _ _ _ _ us hl => by obtain ⟨u0, u1, rfl⟩ := ln2 hl; rfl⟩
  have F24 := fun_mk (st := s_cut) l24 c24 k24
  have D_cut : Dn K mg "cut" s_cut ["row", "mark"] := ⟨_, _, PySem.W.mg_of X G a24, F24, F24.binds (ps := ["row", "mark"]) fun _ _ _ _ _ _ us hl => by obtain ⟨u0, u1, rfl⟩ := ln2 hl; rfl⟩
  have F25 := fun_mk (st := s_spelled) l25 c25 k25
  have D_spelled : Dn K mg "spelled" s_spelled ["word"] := ⟨_, _, PySem.W.mg_of X G a25, F25, F25.binds (ps := ["word"]) fun _ _ _ _ _ _ us hl => by obtain ⟨u0, rfl⟩ := ln1 hl; rfl⟩
  have F26 := fun_mk (st := s_is_digit) l26 c26 k26
  have D_is_digit : Dn K mg "is_digit" s_is_digit ["byte"] := ⟨_, _, PySem.W.mg_of X G a26, F26, F26.binds (ps := ["byte"]) fun _ _ _ _ _ _ us hl => by obtain ⟨u0, rfl⟩ := ln1 hl; rfl⟩
  have F27 := fun_mk (st := s_is_name_byte) l27 c27 k27
  have D_is_name_byte : Dn K mg "is_name_byte" s_is_name_byte ["byte"] := ⟨_, _, PySem.W.mg_of X G a27, F27, F27.binds (ps := ["byte"]) fun _ _ _ _ _ _ us hl => by obtain ⟨u0, rfl⟩ := ln1 hl; rfl⟩
  have F28 := fun_mk (st := s_is_sign_line) l28 c28 k28
  have D_is_sign_line : Dn K mg "is_sign_line" s_is_sign_line ["row"] := ⟨_, _, PySem.W.mg_of X G a28, F28, F28.binds (ps := ["row"]) fun _ _ _ _ _ _ us hl => by obtain ⟨u0, rfl⟩ := ln1 hl; rfl⟩
  have F29 := fun_mk (st := s_read_number) l29 c29 k29
  have D_read_number : Dn K mg "read_number" s_read_number ["digits"] := ⟨_, _, PySem.W.mg_of X G a29, F29, F29.binds (ps := ["digits"]) fun _ _ _ _ _ _ us hl => by obtain ⟨u0, rfl⟩ := ln1 hl; rfl⟩
  have F30 := fun_mk (st := s_read_point) l30 c30 k30
  have D_read_point : Dn K mg "read_point" s_read_point ["word"] := ⟨_, _, PySem.W.mg_of X G a30, F30, F30.binds (ps := ["word"]) fun _ _ _ _ _ _ us hl => by obtain ⟨u0, rfl⟩ := ln1 hl; rfl⟩
  have F31 := fun_mk (st := s_read_points) l31 c31 k31
  have D_read_points : Dn K mg "read_points" s_read_points ["row"] := ⟨_, _, PySem.W.mg_of X G a31, F31, F31.binds (ps := ["row"]) fun _ _ _ _ _ _ us hl => by obtain ⟨u0, rfl⟩ := ln1 hl; rfl⟩
  have F37 := fun_mk (st := s_pieces_between) l37 c37 k37
  have D_pieces_between : Dn K mg "pieces_between" s_pieces_between ["points"] := ⟨_, _, PySem.W.mg_of X G a37, F37, F37.binds (ps := ["points"]) fun _ _ _ _ _ _ us hl => by obtain ⟨u0, rfl⟩ := ln1 hl; rfl⟩
  have F38 := fun_mk (st := s_points_fault) l38 c38 k38
  have D_points_fault : Dn K mg "points_fault" s_points_fault ["points"] := ⟨_, _, PySem.W.mg_of X G a38, F38, F38.binds (ps := ["points"]) fun _ _ _ _ _ _ us hl => by obtain ⟨u0, rfl⟩ := ln1 hl; rfl⟩
  have F39 := fun_mk (st := s_meets_one_before_badly) l39 c39 k39
  have D_meets_one_before_badly : Dn K mg "meets_one_before_badly" s_meets_one_before_badly ["pieces", "i"] := ⟨_, _, PySem.W.mg_of X G a39, F39, F39.binds (ps := ["pieces", "i"]) fun _ _ _ _ _ _ us hl => by obtain ⟨u0, u1, rfl⟩ := ln2 hl; rfl⟩
  have F40 := fun_mk (st := s_count_ends) l40 c40 k40
  have D_count_ends : Dn K mg "count_ends" s_count_ends ["pieces", "x", "y"] := ⟨_, _, PySem.W.mg_of X G a40, F40, F40.binds (ps := ["pieces", "x", "y"]) fun _ _ _ _ _ _ us hl => by obtain ⟨u0, u1, u2, rfl⟩ := ln3 hl; rfl⟩
  have F41 := fun_mk (st := s_is_one_too_many) l41 c41 k41
  have D_is_one_too_many : Dn K mg "is_one_too_many" s_is_one_too_many ["pieces", "i"] := ⟨_, _, PySem.W.mg_of X G a41, F41, F41.binds (ps := ["pieces", "i"]) fun _ _ _ _ _ _ us hl => by obtain ⟨u0, u1, rfl⟩ := ln2 hl; rfl⟩
  have F42 := fun_mk (st := s_pieces_fault) l42 c42 k42
  have D_pieces_fault : Dn K mg "pieces_fault" s_pieces_fault ["pieces", "start"] := ⟨_, _, PySem.W.mg_of X G a42, F42, F42.binds (ps := ["pieces", "start"]) fun _ _ _ _ _ _ us hl => by obtain ⟨u0, u1, rfl⟩ := ln2 hl; rfl⟩
  have F43 := fun_mk (st := s_judge_strokes) l43 c43 k43
  have D_judge_strokes : Dn K mg "judge_strokes" s_judge_strokes ["rows"] := ⟨_, _, PySem.W.mg_of X G a43, F43, F43.binds (ps := ["rows"]) fun _ _ _ _ _ _ us hl => by obtain ⟨u0, rfl⟩ := ln1 hl; rfl⟩
  have F44 := fun_mk (st := s_judge) l44 c44 k44
  have D_judge : Dn K mg "judge" s_judge ["t"] := ⟨_, _, PySem.W.mg_of X G a44, F44, F44.binds (ps := ["t"]) fun _ _ _ _ _ _ us hl => by obtain ⟨u0, rfl⟩ := ln1 hl; rfl⟩
  have F46 := fun_mk (st := s_is_less) l46 c46 k46
  have D_is_less : Dn K mg "is_less" s_is_less ["one", "other"] := ⟨_, _, PySem.W.mg_of X G a46, F46, F46.binds (ps := ["one", "other"]) fun _ _ _ _ _ _ us hl => by obtain ⟨u0, u1, rfl⟩ := ln2 hl; rfl⟩
  have F49 := fun_mk (st := s_is_right_reach) l49 c49 k49
  have D_is_right_reach : Dn K mg "is_right_reach" s_is_right_reach ["reach"] := ⟨_, _, PySem.W.mg_of X G a49, F49, F49.binds (ps := ["reach"]) fun _ _ _ _ _ _ us hl => by obtain ⟨u0, rfl⟩ := ln1 hl; rfl⟩
  have F50 := fun_mk (st := s_has_missing_piece) l50 c50 k50
  have D_has_missing_piece : Dn K mg "has_missing_piece" s_has_missing_piece ["a", "pieces"] := ⟨_, _, PySem.W.mg_of X G a50, F50, F50.binds (ps := ["a", "pieces"]) fun _ _ _ _ _ _ us hl => by obtain ⟨u0, u1, rfl⟩ := ln2 hl; rfl⟩
  have F51 := fun_mk (st := s_numbers_of_set) l51 c51 k51
  have D_numbers_of_set : Dn K mg "numbers_of_set" s_numbers_of_set ["a", "pieces"] := ⟨_, _, PySem.W.mg_of X G a51, F51, F51.binds (ps := ["a", "pieces"]) fun _ _ _ _ _ _ us hl => by obtain ⟨u0, u1, rfl⟩ := ln2 hl; rfl⟩
  have F52 := fun_mk (st := s_pieces_of_set) l52 c52 k52
  have D_pieces_of_set : Dn K mg "pieces_of_set" s_pieces_of_set ["a", "pieces"] := ⟨_, _, PySem.W.mg_of X G a52, F52, F52.binds (ps := ["a", "pieces"]) fun _ _ _ _ _ _ us hl => by obtain ⟨u0, u1, rfl⟩ := ln2 hl; rfl⟩
  have F53 := fun_mk (st := s_is_lit) l53 c53 k53
  have D_is_lit : Dn K mg "is_lit" s_is_lit ["x", "y", "shining", "reach"] := ⟨_, _, PySem.W.mg_of X G a53, F53, F53.binds (ps := ["x", "y", "shining", "reach"]) fun _ _ _ _ _ _ us hl => by obtain ⟨u0, u1, u2, u3, rfl⟩ := ln4 hl; rfl⟩
  have F61 := fun_mk (st := s_is_right) l61 c61 k61
  have D_is_right : Dn K mg "is_right" s_is_right ["window"] := ⟨_, _, PySem.W.mg_of X G a61, F61, F61.binds (ps := ["window"]) fun _ _ _ _ _ _ us hl => by obtain ⟨u0, rfl⟩ := ln1 hl; rfl⟩
  have F62 := fun_mk (st := s_is_lit_at) l62 c62 k62
  have D_is_lit_at : Dn K mg "is_lit_at" s_is_lit_at ["window", "shining", "column", "row"] := ⟨_, _, PySem.W.mg_of X G a62, F62, F62.binds (ps := ["window", "shining", "column", "row"]) fun _ _ _ _ _ _ us hl => by obtain ⟨u0, u1, u2, u3, rfl⟩ := ln4 hl; rfl⟩
  have F63 := fun_mk (st := s_picture_byte) l63 c63 k63
  have D_picture_byte : Dn K mg "picture_byte" s_picture_byte ["window", "shining", "start", "row"] := ⟨_, _, PySem.W.mg_of X G a63, F63, F63.binds (ps := ["window", "shining", "start", "row"]) fun _ _ _ _ _ _ us hl => by obtain ⟨u0, u1, u2, u3, rfl⟩ := ln4 hl; rfl⟩
  have F64 := fun_mk (st := s_picture_bytes) l64 c64 k64
  have D_picture_bytes : Dn K mg "picture_bytes" s_picture_bytes ["window", "shining"] := ⟨_, _, PySem.W.mg_of X G a64, F64, F64.binds (ps := ["window", "shining"]) fun _ _ _ _ _ _ us hl => by obtain ⟨u0, u1, rfl⟩ := ln2 hl; rfl⟩
  have F73 := fun_mk (st := s_look) l73 c73 k73
  have D_look : Dn K mg "look" s_look ["a", "t", "place_fits"] := ⟨_, _, PySem.W.mg_of X G a73, F73, F73.binds (ps := ["a", "t", "place_fits"]) fun _ _ _ _ _ _ us hl => by obtain ⟨u0, u1, u2, rfl⟩ := ln3 hl; rfl⟩
  have F74 := fun_mk (st := s_bits) l74 c74 k74
  refine ⟨PySem.W.fnOf "bits" "bits" (defArgs s_bits) (defBody s_bits) (defScope s_bits) .none kV74 dc74 pm74 an74 cd74 ct74, fun s us hu => by obtain ⟨u0, u1, u2, u3, u4, u5, u6, u7, rfl⟩ := ln8 hu; exact .of_eq rfl, fun base _ _ => ?_⟩
  have O_Piece := ok_Piece (P := P) (w := w) (base := base) K_Piece
  have O_square_between := ok_square_between (P := P) (w := w) (base := base) D_square_between
  have O_length_square := ok_length_square K_Piece O_square_between D_length_square
  have O_along := ok_along (P := P) (w := w) (base := base) K_Piece D_along
  have O_aside := ok_aside (P := P) (w := w) (base := base) K_Piece D_aside
  have O_nearest_point := ok_nearest_point K_Piece T O_length_square O_along D_nearest_point
  have O_distance_square := ok_distance_square K_Piece T O_square_between O_length_square O_nearest_point O_aside D_distance_square
  have O_ends_at := ok_ends_at (P := P) (w := w) (base := base) K_Piece D_ends_at
  have O_share_an_end := ok_share_an_end K_Piece O_ends_at D_share_an_end
  have O_lie_over := ok_lie_over K_Piece T O_length_square O_along D_lie_over
  have O_meet_badly := ok_meet_badly K_Piece T O_lie_over O_aside O_share_an_end D_meet_badly
  have O_cut := ok_cut (P := P) (w := w) (base := base) D_cut
  have O_spelled := ok_spelled (P := P) (w := w) (base := base) T D_spelled
  have O_is_digit := ok_is_digit (P := P) (w := w) (base := base) T D_is_digit
  have O_is_name_byte := ok_is_name_byte T O_is_digit D_is_name_byte
  have O_is_sign_line := ok_is_sign_line T O_cut O_spelled O_is_name_byte D_is_sign_line
  have O_read_number := ok_read_number T O_is_digit D_read_number
  have O_read_point := ok_read_point T O_cut O_read_number D_read_point
  have O_read_points := ok_read_points T O_cut O_spelled O_read_point D_read_points
  have O_Judged := ok_Judged (P := P) (w := w) (base := base) K_Judged
  have O_pieces_between := ok_pieces_between T O_Piece D_pieces_between
  have O_points_fault := ok_points_fault (P := P) (w := w) (base := base) T D_points_fault
  have O_meets := ok_meets_one T O_meet_badly D_meets_one_before_badly
  have O_count_ends := ok_count_ends T O_ends_at D_count_ends
  have O_many := ok_one_too_many K_Piece T O_count_ends D_is_one_too_many
  have O_pieces_fault := ok_pieces_fault T O_meets O_many D_pieces_fault
  have O_judge_strokes := ok_judge_strokes T O_Judged O_read_points O_points_fault O_pieces_between O_pieces_fault D_judge_strokes
  have O_judge := ok_judge K_Judged T O_Judged O_cut O_is_sign_line O_judge_strokes D_judge
  have O_missing := ok_has_missing (P := P) (w := w) (base := base) (CP := C4) T D_has_missing_piece
  have O_nums := ok_numbers_of_set (P := P) (w := w) (base := base) (CP := C4) T D_numbers_of_set
  have O_is_less := ok_is_less (P := P) (w := w) (base := base) D_is_less
  have O_Looked := ok_Looked (P := P) (w := w) (base := base) K_Looked
  have O_look := ok_look K_Judged T O_judge O_Looked O_missing D_look
  have O_pick := ok_pieces_of_set T O_nums D_pieces_of_set
  have O_is_lit := ok_is_lit O_distance_square O_is_less D_is_lit
  have O_reach := ok_is_right_reach (P := P) (w := w) (base := base) T D_is_right_reach
  have O_Window := ok_Window (P := P) (w := w) (base := base) K_Window
  have O_is_right := ok_is_right K_Window T O_reach D_is_right
  have O_is_lit_at := ok_is_lit_at K_Window T O_is_lit D_is_lit_at
  have O_picture_byte := ok_picture_byte T O_is_lit_at D_picture_byte
  have O_picture_bytes := ok_picture_bytes K_Window T O_picture_byte D_picture_bytes
  exact ok_bits (fun_mk (st := s_bits) (by assumption) (by assumption) (by assumption)) K_Looked T O_look O_Window O_is_right O_pick O_picture_bytes

end Tube
def PySem.W.Fast.tw11091338656915667997 : Nat := 0
open PySem PySem.W PyProof.Rows
set_option maxRecDepth 100000 in
set_option maxHeartbeats 0 in
theorem PySem.Challenge.cw_tubepicture_s01_bits_holds : PySem.Challenge.rw_tubepicture_s01_bits.Holds := by
  w_on; k_headS; (case hw => exact ⟨[.int 0, .int 0, .int 0, .int 0, .int 0, .int 0, .int 0, .list []], by decide +kernel, by decide +kernel⟩)
  k_fillS
  refine L2.walk_specK (r := PySem.Challenge.rw_tubepicture_s01_bits) (k := 11) (CX := L2.CX0) (ps := ["a", "x", "y", "w", "h", "s", "r", "t"]) (sp := Tube.spBits) (by decide +kernel) rfl rfl ⟨rfl, by decide, by decide⟩ (fun w h Y => PySem.W.kIn_of Y) ?F ?S (fun _ _ _ _ z => z)
  case F =>
    intro w mg fa h Y KX G hmg
    refine' Tube.all_mk KX G hmg ?c_FIRST_END ?c_SECOND_END ?c_BETWEEN ?c_BLANK ?c_COMMA ?c_ZERO ?c_NINE ?c_LONGEST_NAME ?c_FEWEST_POINTS ?c_MOST_POINTS ?c_FARTHEST ?c_LINE_FEED ?c_MOST_PIECES ?c_MOST_AT_A_POINT ?c_GREATEST_REACH ?c_MOST_SPOTS ?c_WIDEST_STEP ?c_LEAST_CORNER ?c_GREATEST_CORNER ?c_BITS_OF_A_BYTE ?c_MOST_BYTES ?c_NOT_REFUSED ?c_WRONG_PLACE ?c_TEXT_TOO_LONG ?c_NO_SUCH_PIECE ?c_NO_DRAWING ?b_all ?b_any ?b_len ?b_max ?b_min ?b_ord ?b_range ?aC4 ?a4 ?i4 ?l4 ?c4 ?k4 ?pg4 ?hd4 ?po4 ?sa4 ?mk4 ?kc4 ?n4_ax ?n4_ay ?n4_bx ?n4_by ?aC36 ?a36 ?i36 ?l36 ?c36 ?k36 ?pg36 ?hd36 ?po36 ?sa36 ?mk36 ?kc36 ?n36_pieces ?n36_kind ?n36_line ?n36_which ?aC60 ?a60 ?i60 ?l60 ?c60 ?k60 ?pg60 ?hd60 ?po60 ?sa60 ?mk60 ?kc60 ?n60_x ?n60_y ?n60_columns ?n60_rows ?n60_step ?n60_reach ?aC72 ?a72 ?i72 ?l72 ?c72 ?k72 ?pg72 ?hd72 ?po72 ?sa72 ?mk72 ?kc72 ?n72_refusal ?n72_pieces ?a5 ?l5 ?c5 ?k5 ?a6 ?l6 ?c6 ?k6 ?a7 ?l7 ?c7 ?k7 ?a8 ?l8 ?c8 ?k8 ?a9 ?l9 ?c9 ?k9 ?a10 ?l10 ?c10 ?k10 ?a11 ?l11 ?c11 ?k11 ?a12 ?l12 ?c12 ?k12 ?a13 ?l13 ?c13 ?k13 ?a14 ?l14 ?c14 ?k14 ?a24 ?l24 ?c24 ?k24 ?a25 ?l25 ?c25 ?k25 ?a26 ?l26 ?c26 ?k26 ?a27 ?l27 ?c27 ?k27 ?a28 ?l28 ?c28 ?k28 ?a29 ?l29 ?c29 ?k29 ?a30 ?l30 ?c30 ?k30 ?a31 ?l31 ?c31 ?k31 ?a37 ?l37 ?c37 ?k37 ?a38 ?l38 ?c38 ?k38 ?a39 ?l39 ?c39 ?k39 ?a40 ?l40 ?c40 ?k40 ?a41 ?l41 ?c41 ?k41 ?a42 ?l42 ?c42 ?k42 ?a43 ?l43 ?c43 ?k43 ?a44 ?l44 ?c44 ?k44 ?a46 ?l46 ?c46 ?k46 ?a49 ?l49 ?c49 ?k49 ?a50 ?l50 ?c50 ?k50 ?a51 ?l51 ?c51 ?k51 ?a52 ?l52 ?c52 ?k52 ?a53 ?l53 ?c53 ?k53 ?a61 ?l61 ?c61 ?k61 ?a62 ?l62 ?c62 ?k62 ?a63 ?l63 ?c63 ?k63 ?a64 ?l64 ?c64 ?k64 ?a73 ?l73 ?c73 ?k73 ?a74 ?l74 ?c74 ?k74
    (case c_FIRST_END => exact ⟨_, by k_is⟩)
    (case c_SECOND_END => exact ⟨_, by k_is⟩)
    (case c_BETWEEN => exact ⟨_, by k_is⟩)
    (case c_BLANK => exact ⟨_, by k_is⟩)
    (case c_COMMA => exact ⟨_, by k_is⟩)
    (case c_ZERO => exact ⟨_, by k_is⟩)
    (case c_NINE => exact ⟨_, by k_is⟩)
    (case c_LONGEST_NAME => exact ⟨_, by k_is⟩)
    (case c_FEWEST_POINTS => exact ⟨_, by k_is⟩)
    (case c_MOST_POINTS => exact ⟨_, by k_is⟩)
    (case c_FARTHEST => exact ⟨_, by k_is⟩)
    (case c_LINE_FEED => exact ⟨_, by k_is⟩)
    (case c_MOST_PIECES => exact ⟨_, by k_is⟩)
    (case c_MOST_AT_A_POINT => exact ⟨_, by k_is⟩)
    (case c_GREATEST_REACH => exact ⟨_, by k_is⟩)
    (case c_MOST_SPOTS => exact ⟨_, by k_is⟩)
    (case c_WIDEST_STEP => exact ⟨_, by k_is⟩)
    (case c_LEAST_CORNER => exact ⟨_, by k_is⟩)
    (case c_GREATEST_CORNER => exact ⟨_, by k_is⟩)
    (case c_BITS_OF_A_BYTE => exact ⟨_, by k_is⟩)
    (case c_MOST_BYTES => exact ⟨_, by k_is⟩)
    (case c_NOT_REFUSED => exact ⟨_, by k_is⟩)
    (case c_WRONG_PLACE => exact ⟨_, by k_is⟩)
    (case c_TEXT_TOO_LONG => exact ⟨_, by k_is⟩)
    (case c_NO_SUCH_PIECE => exact ⟨_, by k_is⟩)
    (case c_NO_DRAWING => exact ⟨_, by k_is⟩)
    (case b_all => k_is)
    (case b_any => k_is)
    (case b_len => k_is)
    (case b_max => k_is)
    (case b_min => k_is)
    (case b_ord => k_is)
    (case b_range => k_is)
    (case aC4 => k_is)
    (case a4 => k_is)
    (case i4 => k_is)
    (case l4 => k_is)
    (case c4 => k_is)
    (case k4 => k_is)
    (case pg4 => k_is)
    (case hd4 => k_is)
    (case po4 => k_is)
    (case sa4 => k_is)
    (case mk4 => k_is)
    (case kc4 => k_is)
    (case n4_ax => k_is)
    (case n4_ay => k_is)
    (case n4_bx => k_is)
    (case n4_by => k_is)
    (case aC36 => k_is)
    (case a36 => k_is)
    (case i36 => k_is)
    (case l36 => k_is)
    (case c36 => k_is)
    (case k36 => k_is)
    (case pg36 => k_is)
    (case hd36 => k_is)
    (case po36 => k_is)
    (case sa36 => k_is)
    (case mk36 => k_is)
    (case kc36 => k_is)
    (case n36_pieces => k_is)
    (case n36_kind => k_is)
    (case n36_line => k_is)
    (case n36_which => k_is)
    (case aC60 => k_is)
    (case a60 => k_is)
    (case i60 => k_is)
    (case l60 => k_is)
    (case c60 => k_is)
    (case k60 => k_is)
    (case pg60 => k_is)
    (case hd60 => k_is)
    (case po60 => k_is)
    (case sa60 => k_is)
    (case mk60 => k_is)
    (case kc60 => k_is)
    (case n60_x => k_is)
    (case n60_y => k_is)
    (case n60_columns => k_is)
    (case n60_rows => k_is)
    (case n60_step => k_is)
    (case n60_reach => k_is)
    (case aC72 => k_is)
    (case a72 => k_is)
    (case i72 => k_is)
    (case l72 => k_is)
    (case c72 => k_is)
    (case k72 => k_is)
    (case pg72 => k_is)
    (case hd72 => k_is)
    (case po72 => k_is)
    (case sa72 => k_is)
    (case mk72 => k_is)
    (case kc72 => k_is)
    (case n72_refusal => k_is)
    (case n72_pieces => k_is)
    (case a5 => k_is)
    (case l5 => k_is)
    (case c5 => k_is)
    (case k5 => k_is)
    (case a6 => k_is)
    (case l6 => k_is)
    (case c6 => k_is)
    (case k6 => k_is)
    (case a7 => k_is)
    (case l7 => k_is)
    (case c7 => k_is)
    (case k7 => k_is)
    (case a8 => k_is)
    (case l8 => k_is)
    (case c8 => k_is)
    (case k8 => k_is)
    (case a9 => k_is)
    (case l9 => k_is)
    (case c9 => k_is)
    (case k9 => k_is)
    (case a10 => k_is)
    (case l10 => k_is)
    (case c10 => k_is)
    (case k10 => k_is)
    (case a11 => k_is)
    (case l11 => k_is)
    (case c11 => k_is)
    (case k11 => k_is)
    (case a12 => k_is)
    (case l12 => k_is)
    (case c12 => k_is)
    (case k12 => k_is)
    (case a13 => k_is)
    (case l13 => k_is)
    (case c13 => k_is)
    (case k13 => k_is)
    (case a14 => k_is)
    (case l14 => k_is)
    (case c14 => k_is)
    (case k14 => k_is)
    (case a24 => k_is)
    (case l24 => k_is)
    (case c24 => k_is)
    (case k24 => k_is)
    (case a25 => k_is)
    (case l25 => k_is)
    (case c25 => k_is)
    (case k25 => k_is)
    (case a26 => k_is)
    (case l26 => k_is)
    (case c26 => k_is)
    (case k26 => k_is)
    (case a27 => k_is)
    (case l27 => k_is)
    (case c27 => k_is)
    (case k27 => k_is)
    (case a28 => k_is)
    (case l28 => k_is)
    (case c28 => k_is)
    (case k28 => k_is)
    (case a29 => k_is)
    (case l29 => k_is)
    (case c29 => k_is)
    (case k29 => k_is)
    (case a30 => k_is)
    (case l30 => k_is)
    (case c30 => k_is)
    (case k30 => k_is)
    (case a31 => k_is)
    (case l31 => k_is)
    (case c31 => k_is)
    (case k31 => k_is)
    (case a37 => k_is)
    (case l37 => k_is)
    (case c37 => k_is)
    (case k37 => k_is)
    (case a38 => k_is)
    (case l38 => k_is)
    (case c38 => k_is)
    (case k38 => k_is)
    (case a39 => k_is)
    (case l39 => k_is)
    (case c39 => k_is)
    (case k39 => k_is)
    (case a40 => k_is)
    (case l40 => k_is)
    (case c40 => k_is)
    (case k40 => k_is)
    (case a41 => k_is)
    (case l41 => k_is)
    (case c41 => k_is)
    (case k41 => k_is)
    (case a42 => k_is)
    (case l42 => k_is)
    (case c42 => k_is)
    (case k42 => k_is)
    (case a43 => k_is)
    (case l43 => k_is)
    (case c43 => k_is)
    (case k43 => k_is)
    (case a44 => k_is)
    (case l44 => k_is)
    (case c44 => k_is)
    (case k44 => k_is)
    (case a46 => k_is)
    (case l46 => k_is)
    (case c46 => k_is)
    (case k46 => k_is)
    (case a49 => k_is)
    (case l49 => k_is)
    (case c49 => k_is)
    (case k49 => k_is)
    (case a50 => k_is)
    (case l50 => k_is)
    (case c50 => k_is)
    (case k50 => k_is)
    (case a51 => k_is)
    (case l51 => k_is)
    (case c51 => k_is)
    (case k51 => k_is)
    (case a52 => k_is)
    (case l52 => k_is)
    (case c52 => k_is)
    (case k52 => k_is)
    (case a53 => k_is)
    (case l53 => k_is)
    (case c53 => k_is)
    (case k53 => k_is)
    (case a61 => k_is)
    (case l61 => k_is)
    (case c61 => k_is)
    (case k61 => k_is)
    (case a62 => k_is)
    (case l62 => k_is)
    (case c62 => k_is)
    (case k62 => k_is)
    (case a63 => k_is)
    (case l63 => k_is)
    (case c63 => k_is)
    (case k63 => k_is)
    (case a64 => k_is)
    (case l64 => k_is)
    (case c64 => k_is)
    (case k64 => k_is)
    (case a73 => k_is)
    (case l73 => k_is)
    (case c73 => k_is)
    (case k73 => k_is)
    (case a74 => k_is)
    (case l74 => k_is)
    (case c74 => k_is)
    (case k74 => k_is)
  case S =>
    intro K H xs a hO hwi hask hx
    obtain ⟨za, zx, zy, zw, zh, zs, zr, t, u⟩ := a
    have q : (Codec.inInt 0 18446744073709551615 za && (Codec.inInt (-2147483648) 2147483647 zx && (Codec.inInt (-2147483648) 2147483647 zy && (Codec.inInt 0 4294967295 zw && (Codec.inInt 0 4294967295 zh && (Codec.inInt 0 4294967295 zs && (Codec.inInt 0 4294967295 zr && ((Codec.inLen 0 66000 t && t.all (Codec.inInt 0 255)) && true)))))))) = true := hwi
    simp only [Bool.and_eq_true, List.all_eq_true] at q
    obtain ⟨qa, qx, qy, qw, qh, qs, qr, ⟨ql, qt⟩, _⟩ := q
    have ha := Codec.inInt_iff.mp qa
    have hw := Codec.inInt_iff.mp qw
    have hh := Codec.inInt_iff.mp qh
    have hs := Codec.inInt_iff.mp qs
    have hr := Codec.inInt_iff.mp qr
    have ht : ∀ z ∈ t, 0 ≤ z ∧ z ≤ 255 := fun z hz => Codec.inInt_iff.mp (qt z hz)
    have hl := (Codec.inNat_iff.mp ql).2
    cases hx with
    | cons h1 hx =>
    cases hx with
    | cons h2 hx =>
    cases hx with
    | cons h3 hx =>
    cases hx with
    | cons h4 hx =>
    cases hx with
    | cons h5 hx =>
    cases hx with
    | cons h6 hx =>
    cases hx with
    | cons h7 hx =>
    cases hx with
    | cons h8 hx =>
    cases hx
    cases h1; cases h2; cases h3; cases h4; cases h5; cases h6; cases h7
    cases h8 with
    | lst hsq hel =>
      have e := L2.ints_dw t _ hel
      subst e
      rw [Tube.bs_vals ht] at hsq
      have ea := (Int.toNat_of_nonneg ha.1).symm
      have ew := (Int.toNat_of_nonneg hw.1).symm
      have eh := (Int.toNat_of_nonneg hh.1).symm
      have es := (Int.toNat_of_nonneg hs.1).symm
      have er := (Int.toNat_of_nonneg hr.1).symm
      refine ⟨_, Tube.bsOf t, za.toNat, ⟨zx, zy, zw.toNat, zh.toNat, zs.toNat, zr.toNat⟩, ?_, hsq, ?_, fun H' p hp => ?_⟩
      · show [L2.V.int za, _, _, .int zw, .int zh, .int zs, .int zr, _] = [L2.V.int (za.toNat : Int), _, _, .int (zw.toNat : Int), .int (zh.toNat : Int), .int (zs.toNat : Int), .int (zr.toNat : Int), _]
        rw [← ea, ← ew, ← eh, ← es, ← er]
      · unfold Tube.bsOf
        rw [List.length_map]
        exact hl
      · have ef := Tube.f_bits (zx := zx) (zy := zy) ha.1 hw.1 hh.1 hs.1 hr.1 ht
        rw [← ef] at hp
        exact .lst (L2.SqL.of hp) (L2.dw_ints _)
#print axioms PySem.Challenge.cw_tubepicture_s01_bits_holds


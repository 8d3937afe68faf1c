import PyProof.Rows.All
import Wide.All
import OpenK.AllK
import Wide.FinOn
import PyProof.EqAt
import PyProof.EqKinds
import PyProof.TupleCall
import KE.BitLaws
import Open.SpecLaws
import KE.OsHead
import KE.OsGo
import KE.KSortTupG
import KE.KSortKeyAny
import KE.KLam
import PySem.Challenge.RW_peglines_s06_left
set_option Elab.async false
set_option linter.all false
set_option maxRecDepth 100000
/-! THE HAND LAYER, for ints, bools, texts, own classes, lists, tuples, dicts, comprehensions, walks over dicts, enumerate, zip, reversed, texts, calls, loops. Paste it whole ahead of your own text; what your proof does not reach may be deleted. -/
namespace L2
open PySem PySem.Spec PyProof.Rows

/-- a key: an int or a str -/
abbrev Key := Sum Int Str
def keyIs : Key → Value → Bool
  | .inl k, v => Value.isInt k v
  | .inr x, v => Value.isStrOf x v
def keyH (w : World) : Key → Int
  | .inl k => hashInt k
  | .inr x => hashStr w x
theorem keyIs_shape : ∀ {k : Key} {v : Value}, keyIs k v = true → (∃ i t, k = Sum.inl i ∧ v = Value.int i t) ∨ (∃ x t, k = Sum.inr x ∧ v = Value.str x t)
  | .inl i, v, h => by
    obtain ⟨t, e⟩ := Value.isInt_shape (k := i) (v := v) h
    exact .inl ⟨i, t, rfl, e⟩
  | .inr x, v, h => by
    obtain ⟨t, e⟩ := Value.isStrOf_shape (x := x) (v := v) h
    exact .inr ⟨x, t, rfl, e⟩
theorem keyIs_int (i : Int) (t : Tok) : keyIs (.inl i) (.int i t) = true := by simp [keyIs, Value.isInt]
theorem keyIs_str (x : Str) (t : Tok) : keyIs (.inr x) (.str x t) = true := by simp [keyIs, Value.isStrOf]
theorem key_ll (a b : Int) : decide ((Sum.inl a : Key) = Sum.inl b) = (a == b) := by
  by_cases e : a = b
  · subst e; simp
  · have h : ¬ (Sum.inl a : Key) = Sum.inl b := fun q => e (Sum.inl.inj q)
    rw [decide_eq_false h]
    exact (beq_eq_false_iff_ne.mpr e).symm
theorem key_rr (a b : Str) : decide ((Sum.inr a : Key) = Sum.inr b) = decide (a = b) := by
  by_cases e : a = b
  · subst e; simp
  · have h : ¬ (Sum.inr a : Key) = Sum.inr b := fun q => e (Sum.inr.inj q)
    rw [decide_eq_false h, decide_eq_false e]
theorem key_lr (a : Int) (b : Str) : decide ((Sum.inl a : Key) = Sum.inr b) = false := decide_eq_false (fun q => nomatch q)
theorem key_rl (a : Str) (b : Int) : decide ((Sum.inr a : Key) = Sum.inl b) = false := decide_eq_false (fun q => nomatch q)

def mixKind (prog : Program) (w : World) : PySem.KeyKind prog w Key where
  is := keyIs
  hash := keyH w
  inj := fun v a b ha hb => by
    rcases keyIs_shape ha with ⟨i, t, rfl, rfl⟩ | ⟨x, t, rfl, rfl⟩
    · rcases keyIs_shape hb with ⟨j, u, rfl, e⟩ | ⟨y, u, rfl, e⟩
      · injection e with e1 _; rw [e1]
      · exact nomatch e
    · rcases keyIs_shape hb with ⟨j, u, rfl, e⟩ | ⟨y, u, rfl, e⟩
      · exact nomatch e
      · injection e with e1 _; rw [e1]
  byValue := fun k v h => by
    rcases keyIs_shape h with ⟨i, t, rfl, rfl⟩ | ⟨x, t, rfl, rfl⟩ <;> rfl
  pyHash := fun hv h => by
    rcases keyIs_shape hv with ⟨i, t, rfl, rfl⟩ | ⟨x, t, rfl, rfl⟩
    · exact wpAny_pyHash_int h
    · exact wpAny_pyHash_str h
  eqBool := fun hu hv h => by
    rcases keyIs_shape hu with ⟨i, t, rfl, rfl⟩ | ⟨x, t, rfl, rfl⟩
    · rcases keyIs_shape hv with ⟨j, u, rfl, rfl⟩ | ⟨y, u, rfl, rfl⟩
      · rw [key_ll] at h; exact wpAny_eqBool_int h
      · rw [key_lr] at h; exact SeqAt.EqAt.int_str i t y u _ _ _ _ h
    · rcases keyIs_shape hv with ⟨j, u, rfl, rfl⟩ | ⟨y, u, rfl, rfl⟩
      · rw [key_rl] at h; exact SeqAt.EqAt.str_int x t j u _ _ _ _ h
      · rw [key_rr] at h; exact wpAny_eqBool_str h
  «strs» := fun k x t v h => by
    rcases keyIs_shape h with ⟨i, u, rfl, e⟩ | ⟨y, u, rfl, e⟩
    · exact nomatch e
    · injection e with e1 _
      subst e1
      cases v <;> rfl

theorem mixKind_int (prog : Program) (w : World) (i : Int) (t : Tok) : (mixKind prog w).is (.inl i) (.int i t) = true := keyIs_int i t
theorem mixKind_str (prog : Program) (w : World) (x : Str) (t : Tok) : (mixKind prog w).is (.inr x) (.str x t) = true := keyIs_str x t
end L2

namespace L2
open PySem PySem.Spec PyProof.Rows

/-- a value, without the heap -/
inductive V where
  | non | bl (b : Bool) | int (i : Int) | str (x : Str) | byt (b : Array UInt8) | flt (b : UInt64) | ref (a : Addr) | ty (n : String)
  deriving DecidableEq

def RelV : V → Value → Prop
  | .non, u => u = Value.none
  | .bl b, u => u = Value.bool b
  | .int i, u => ∃ t, u = Value.int i t
  | .str x, u => ∃ t, u = Value.str x t
  | .byt b, u => ∃ t, u = Value.bytes b t
  | .flt b, u => ∃ t, u = Value.float b t
  | .ref a, u => u = Value.ref a
  | .ty n, u => u = Value.type n

abbrev Vals : List V → List Value → Prop := Paired RelV
theorem Vals.length {xs : List V} {us : List Value} (r : Vals xs us) : xs.length = us.length := Paired.length r
theorem Vals.get : ∀ {xs : List V} {us : List Value} {i : Nat} {x : V}, Vals xs us → xs[i]? = some x → ∃ u, us[i]? = some u ∧ RelV x u
  | _, _, _, _, .nil, e => by simp at e
  | _, _, 0, _, .cons r _, e => by simp at e; subst e; exact ⟨_, rfl, r⟩
  | _, _, i + 1, x, .cons _ t, e => by
    obtain ⟨u, h1, h2⟩ := Vals.get (i := i) (x := x) t (by simpa using e)
    exact ⟨u, by simpa using h1, h2⟩
theorem Vals.append : ∀ {xs ys : List V} {us ws : List Value}, Vals xs us → Vals ys ws → Vals (xs ++ ys) (us ++ ws)
  | _, _, _, _, .nil, s => s
  | _, _, _, _, .cons r t, s => .cons r (Vals.append t s)

def RelO : Option V → Option Value → Prop
  | some v, some u => RelV v u
  | none, none => True
  | _, _ => False
def KV {κ : Type} : List (κ × V) → List (κ × Value) → Prop := Paired fun (p : κ × V) (q : κ × Value) => p.1 = q.1 ∧ RelV p.2 q.2

/-- a key of a dict (00_mix): an int or a text -/
def kV : Key → V
  | .inl i => .int i
  | .inr x => .str x

/-- what stands at a tracked address -/
inductive HO where
  /-- a list -/
  | lst (xs : List V)
  /-- a tuple (never changes) -/
  | tup (xs : List V)
  /-- a dict whose keys are ints and texts; one whose keys are tuples of ints and texts (the empty one is both) -/
  | dK (kvs : List (Key × V)) | dT (kvs : List (List Key × V))
  /-- a set of ints: its members, its size -/
  | set (S : Int → Bool) (n : Nat)
  /-- an instance of the class at C, its dict at dx, its attributes -/
  | ins (C dx : Addr) (fs : List (Str × V))
  /-- the dict of the instance at x -/
  | own (x : Addr)
  /-- the dict of an exception -/
  | xd (fs : List (Str × V))
  /-- a bound method, f of x -/
  | met (f x : Addr)
  /-- a range object lo, lo + 1, .. below hi -/
  | rng (lo hi : Int)
  /-- a thing that is known to the object (the script; a dict while a loop walks it): read, never written while it is so -/
  | frz (o : Obj) (u : HO)
  /-- a code object's table -/
  | tbl (ps : Array Value)
  /-- any other thing, by what is true of its one object (a def of one's own: SetO a S n := HO.ext fun h => ..) -/
  | ext (φ : Heap → Prop)

abbrev Hp := Addr → Option HO
def upd (H : Hp) (a : Addr) (o : HO) : Hp := fun b => if b = a then some o else H b
theorem upd_same {H : Hp} {a : Addr} {o : HO} : upd H a o a = some o := by unfold upd; rw [if_pos rfl]
theorem upd_ne {H : Hp} {a b : Addr} {o : HO} (h : b ≠ a) : upd H a o b = H b := by unfold upd; rw [if_neg h]
/-- two objects of different content stand apart -/
theorem ne_of {H : Hp} {a b : Addr} {o u : HO} (h : H a = some o) (h' : H b = some u) (d : o ≠ u) : a ≠ b := by
  intro e; subst e; rw [h] at h'; exact d (Option.some.inj h')
theorem ne_of_none {H : Hp} {a b : Addr} {o : HO} (h : H a = some o) (h' : H b = none) : a ≠ b := by
  intro e; subst e; rw [h] at h'; cases h'

section
variable (P : Program) (w : World)
def ObjOk (H : Hp) (h : Heap) (a : Addr) : HO → Prop
  | .lst xs => xs.length ≤ sizeLine ∧ ∃ (its : List Value) (n : Nat), Vals xs its ∧ h.get? a = some { cls := .type "list", data := .seq its.toArray n }
  | .tup xs => xs.length ≤ sizeLine ∧ ∃ its : List Value, Vals xs its ∧ IsTup h a its.toArray
  | .dK kvs => kvs.length ≤ sizeLine ∧ (a == sysModules) = false ∧ ∃ vs, KV kvs vs ∧ h.DictOf (mixKind P w) a vs
  | .dT kvs => kvs.length ≤ sizeLine ∧ (a == sysModules) = false ∧ ∃ xs : List (List Key × Addr × Value),
      Paired (fun (p : List Key × V) (q : List Key × Addr × Value) => p.1 = q.1 ∧ H q.2.1 = some (.tup (p.1.map kV)) ∧ RelV p.2 q.2.2) kvs xs ∧
      ∃ o es ep, h.get? a = some o ∧ o.ExactDict ∧ o.data = .dict es ep ∧ es.toList = xs.map (entryOfKey (tupleKind (mixKind P w))) ∧ (xs.map (·.1)).Nodup
  | .set S n => h.SetOf (intKind P w) a S n
  | .ins C dx fs => H dx = some (.own a) ∧ fs.length ≤ 1000 ∧ dx ≠ a ∧ h.get? a = some (PySem.W.instObj C dx) ∧
      ∃ mA, h.Ns1 dx mA ∧ (∀ f, RelO (fs.lookup f) (mA f)) ∧ PySem.Within mA (fs.map (·.1))
  | .own _ => ∃ o, h.get? a = some o
  | .xd fs => ∃ mA, h.Ns1 a mA ∧ ∀ f, RelO (fs.lookup f) (mA f)
  | .rng lo hi => ∃ t u v, h.get? a = some { cls := .type "range", data := .fields #[.int lo t, .int hi u, .int 1 v] }
  | .frz o u => h.get? a = some o ∧ ObjOk H h a u
  | .tbl ps => h.get? a = some { cls := .none, data := .fields ps }
  | .met f x => h.get? a = some (PySem.W.methodObj (.ref f) (.ref x))
  | .ext φ => φ h ∧ (∃ o, h.get? a = some o) ∧ ∀ h1 h2 : Heap, φ h1 → (∀ o, h1.get? a = some o → h2.get? a = some o) → φ h2
/-- the abstract heap is held -/
def HOk (H : Hp) (h : Heap) : Prop := ∀ a o, H a = some o → ObjOk P w H h a o
end

section
variable {P : Program} {w : World} {H H' : Hp} {h h' : Heap} {a : Addr} {o : HO}
theorem ObjOk.lt (x : ObjOk P w H h a o) : a < h.objs.size := by
  cases o with
  | lst xs => obtain ⟨_, _, _, _, e⟩ := x; exact Heap.lt_size e
  | tup xs => obtain ⟨_, _, _, p⟩ := x; exact p.lt
  | dK kvs => obtain ⟨_, _, _, _, o, _, _, e, _⟩ := x; exact Heap.lt_size e
  | dT kvs => obtain ⟨_, _, _, _, o, _, _, e, _⟩ := x; exact Heap.lt_size e
  | set S n => obtain ⟨o, _, _, _, e, _⟩ := x; exact Heap.lt_size e
  | ins C dx fs => obtain ⟨_, _, _, e, _⟩ := x; exact Heap.lt_size e
  | own y => obtain ⟨_, e⟩ := x; exact Heap.lt_size e
  | xd fs => obtain ⟨_, ⟨_, _, _, e, _⟩, _⟩ := x; exact Heap.lt_size e
  | rng lo hi => obtain ⟨_, _, _, e⟩ := x; exact Heap.lt_size e
  | frz ob u => obtain ⟨e, _⟩ := x; exact Heap.lt_size e
  | tbl ps => exact Heap.lt_size (show h.get? a = some _ from x)
  | met f y => exact Heap.lt_size (show h.get? a = some _ from x)
  | ext φ => obtain ⟨_, ⟨_, e⟩, _⟩ := x; exact Heap.lt_size e
theorem Paired.mapP {α β : Type} {F G : α → β → Prop} : ∀ {l₁ : List α} {l₂ : List β}, Paired F l₁ l₂ → (∀ a b, F a b → G a b) → Paired G l₁ l₂
  | _, _, .nil, _ => .nil
  | _, _, .cons r t, f => .cons (f _ _ r) (Paired.mapP t f)
/-- what an object's description leans on: its own object, its own dict, the tuples -/
theorem ObjOk.stay (x : ObjOk P w H h a o) (k : ∀ b u, (b = a ∨ H b = some (.own a)) → h.get? b = some u → h'.get? b = some u)
    (ho : ∀ b, H b = some (.own a) → H' b = some (.own a)) (ht : ∀ b xs, H b = some (.tup xs) → H' b = some (.tup xs)) : ObjOk P w H' h' a o := by
  induction o with
  | lst xs => obtain ⟨z, its, n, r, e⟩ := x; exact ⟨z, its, n, r, k _ _ (.inl rfl) e⟩
  | tup xs => obtain ⟨z, its, r, ob, e, c⟩ := x; exact ⟨z, its, r, ob, k _ _ (.inl rfl) e, c⟩
  | dK kvs => obtain ⟨z, y, vs, r, ob, es, ep, e, c⟩ := x; exact ⟨z, y, vs, r, ob, es, ep, k _ _ (.inl rfl) e, c⟩
  | dT kvs =>
    obtain ⟨z, y, xs, r, ob, es, ep, e, c⟩ := x
    exact ⟨z, y, xs, Paired.mapP r fun p q z => ⟨z.1, ht _ _ z.2.1, z.2.2⟩, ob, es, ep, k _ _ (.inl rfl) e, c⟩
  | set S n => obtain ⟨ob, es, ep, t, e, c⟩ := x; exact ⟨ob, es, ep, t, k _ _ (.inl rfl) e, c⟩
  | ins C dx fs =>
    obtain ⟨d, z, ne, e, mA, ⟨od, es, ep, e2, c⟩, r⟩ := x
    exact ⟨ho _ d, z, ne, k _ _ (.inl rfl) e, mA, ⟨od, es, ep, k _ _ (.inr d) e2, c⟩, r⟩
  | own y => obtain ⟨ob, e⟩ := x; exact ⟨ob, k _ _ (.inl rfl) e⟩
  | xd fs => obtain ⟨mA, ⟨od, es, ep, e, c⟩, r⟩ := x; exact ⟨mA, ⟨od, es, ep, k _ _ (.inl rfl) e, c⟩, r⟩
  | rng lo hi => obtain ⟨t, u, v, e⟩ := x; exact ⟨t, u, v, k _ _ (.inl rfl) e⟩
  | frz ob u ih => obtain ⟨e, q⟩ := x; exact ⟨k _ _ (.inl rfl) e, ih q⟩
  | tbl ps =>
    have e : h.get? a = some { cls := .none, data := .fields ps } := x
    show h'.get? a = some { cls := .none, data := .fields ps }
    exact k a _ (.inl rfl) e
  | met f y =>
    have e : h.get? a = some (PySem.W.methodObj (.ref f) (.ref y)) := x
    show h'.get? a = some (PySem.W.methodObj (.ref f) (.ref y))
    exact k a _ (.inl rfl) e
  | ext φ => obtain ⟨p, ⟨o, e⟩, st⟩ := x; exact ⟨st _ _ p fun o q => k _ _ (.inl rfl) q, ⟨o, k _ _ (.inl rfl) e⟩, st⟩
theorem HOk.lt (x : HOk P w H h) (e : H a = some o) : a < h.objs.size := (x a o e).lt
theorem HOk.fresh (x : HOk P w H h) (e : h.objs.size ≤ a) : H a = none := by
  cases q : H a with
  | none => rfl
  | some u => exact absurd (Nat.lt_of_lt_of_le (x.lt q) e) (Nat.lt_irrefl _)
/-- every object of the heap is kept -/
theorem HOk.kept (x : HOk P w H h) (k : ∀ b u, h.get? b = some u → h'.get? b = some u) : HOk P w H h' := fun a o e =>
  (x a o e).stay (fun b u _ q => k b u q) (fun _ q => q) fun _ _ q => q
/-- a new object is laid and tracked -/
theorem HOk.laid (x : HOk P w H h) (k : ∀ b u, h.get? b = some u → h'.get? b = some u) (hp : h.objs.size ≤ a) (new : ObjOk P w (upd H a o) h' a o) : HOk P w (upd H a o) h' := fun b u e => by
  have hn := x.fresh hp
  by_cases hb : b = a
  · subst hb; rw [upd_same] at e; cases e; exact new
  · rw [upd_ne hb] at e
    exact (x b u e).stay (fun c v _ q => k c v q) (fun c q => by rw [upd_ne (ne_of_none q hn)]; exact q) fun c xs q => by rw [upd_ne (ne_of_none q hn)]; exact q
end

/-- what may be read as u: it is u, or a known u -/
def Rd (H : Hp) (a : Addr) (u : HO) : Prop := H a = some u ∨ ∃ o, H a = some (.frz o u)
theorem Rd.ok {P : Program} {w : World} {H : Hp} {h : Heap} {a : Addr} {u : HO} (r : Rd H a u) (x : HOk P w H h) : ObjOk P w H h a u := by
  rcases r with r | ⟨o, r⟩
  · exact x a u r
  · obtain ⟨_, q⟩ := x a _ r
    exact q
/-- what may be written -/
def Mut : Option HO → Prop
  | some (.lst _) => True
  | some (.dK _) => True
  | some (.dT _) => True
  | some (.set _ _) => True
  | some (.ins _ _ _) => True
  | some (.ext _) => True
  | _ => False
section
variable {P : Program} {w : World} {H : Hp} {h h' : Heap} {x e : Addr} {o' : HO}
/-- the object at e is changed: x itself, or the dict of the instance x -/
theorem HOk.write (ok : HOk P w H h) (mu : Mut (H x)) (he : e = x ∨ H e = some (.own x)) (k : ∀ b u, b ≠ e → h.get? b = some u → h'.get? b = some u) (heo : ∃ u, h'.get? e = some u)
    (new : ObjOk P w (upd H x o') h' x o') : HOk P w (upd H x o') h' := fun b u q => by
  have nown : ∀ c y, H c = some (.own y) → c ≠ x := fun c y r z => by subst z; rw [r] at mu; exact mu
  have ntup : ∀ c xs, H c = some (.tup xs) → c ≠ x := fun c xs r z => by subst z; rw [r] at mu; exact mu
  by_cases hb : b = x
  · subst hb; rw [upd_same] at q; cases q; exact new
  · rw [upd_ne hb] at q
    by_cases hbe : b = e
    · have q' : H b = some (.own x) := by
        rcases he with z | z
        · exact absurd (hbe.trans z) hb
        · rw [hbe]; exact z
      rw [q] at q'; cases q'
      obtain ⟨v, hv⟩ := heo
      exact ⟨v, by rw [hbe]; exact hv⟩
    · refine (ok b u q).stay (fun c v hc r => k c v ?_ r) (fun c r => by rw [upd_ne (nown c b r)]; exact r) fun c xs r => by rw [upd_ne (ntup c xs r)]; exact r
      rcases hc with rfl | hc
      · exact hbe
      · rintro rfl
        rcases he with z | z
        · exact nown c b hc z
        · rw [hc] at z; cases z; exact hb rfl
end

/-! ### kept unless tracked; of the frames at fs (the callers') the slots may change (an exception that passes writes there); of the records at ex (iterators) nothing is said -/
structure Un (fs ex : List Addr) (H H' : Hp) (h h' : Heap) : Prop where
  keep : ∀ b o, h.get? b = some o → H b = none → b ∉ fs → b ∉ ex → h'.get? b = some o
  slot : ∀ b o, h.get? b = some o → H b = none → b ∈ fs → b ∉ ex → ∃ sl, h'.get? b = some { o with slots := sl }
  free : ∀ b o, h.get? b = some o → H b = none → b ∉ ex → H' b = none
  there : ∀ b o, h.get? b = some o → b ∉ ex → ∃ o', h'.get? b = some o'
  tups : ∀ b xs, H b = some (.tup xs) → H' b = some (.tup xs)
  frzs : ∀ b o u, H b = some (.frz o u) → H' b = some (.frz o u)
  tbls : ∀ b ps, H b = some (.tbl ps) → ∃ more, H' b = some (.tbl (ps ++ more))
section
variable {fs fs' ex ex' : List Addr} {H H1 H2 : Hp} {h h1 h2 h' : Heap} {a x e : Addr} {o : HO}
theorem Un.any (u : Un fs ex H H1 h h1) {b : Addr} {ob : Obj} (q : h.get? b = some ob) (n : H b = none) (hx : b ∉ ex) : ∃ sl, h1.get? b = some { ob with slots := sl } := by
  by_cases hb : b ∈ fs
  · exact u.slot b ob q n hb hx
  · exact ⟨ob.slots, u.keep b ob q n hb hx⟩
theorem Un.kept (k : ∀ b u, h.get? b = some u → h'.get? b = some u) : Un fs ex H H h h' :=
  ⟨fun b ob q _ _ _ => k b ob q, fun b ob q _ _ _ => ⟨ob.slots, k b ob q⟩, fun _ _ _ n _ => n, fun b ob q _ => ⟨ob, k b ob q⟩, fun _ _ q => q, fun _ _ _ q => q, fun _ ps q => ⟨#[], by rw [q]; simp⟩⟩
theorem Un.refl : Un fs ex H H h h := Un.kept fun _ _ q => q
theorem Un.laid (k : ∀ b u, h.get? b = some u → h'.get? b = some u) (hp : h.objs.size ≤ a) (hn : H a = none) : Un fs ex H (upd H a o) h h' where
  keep := fun b u q _ _ _ => k b u q
  slot := fun b u q _ _ _ => ⟨u.slots, k b u q⟩
  free := fun b u q n _ => by rw [upd_ne (Nat.ne_of_lt (Nat.lt_of_lt_of_le (Heap.lt_size q) hp))]; exact n
  there := fun b u q _ => ⟨u, k b u q⟩
  tups := fun b xs q => by rw [upd_ne (ne_of_none q hn)]; exact q
  frzs := fun b u xs q => by rw [upd_ne (ne_of_none q hn)]; exact q
  tbls := fun b ps q => ⟨#[], by rw [upd_ne (ne_of_none q hn), q]; simp⟩
theorem Un.write (mu : Mut (H x)) (he : e = x ∨ H e = some (.own x)) (k : ∀ b u, b ≠ e → h.get? b = some u → h'.get? b = some u) (heo : ∃ u, h'.get? e = some u) : Un fs ex H (upd H x o) h h' := by
  have hx : ∀ b, H b = none → b ≠ x := fun b n z => by subst z; rw [n] at mu; exact mu
  have hb : ∀ b, H b = none → b ≠ e := fun b n z => by
    subst z
    rcases he with r | r
    · exact hx b n r
    · rw [n] at r; cases r
  have hm : ∀ b u, H b = some u → ¬ Mut (some u) → b ≠ x := fun b u q nm z => by subst z; rw [q] at mu; exact nm mu
  refine ⟨fun b u q n _ _ => k b u (hb b n) q, fun b u q n _ _ => ⟨u.slots, k b u (hb b n) q⟩, fun b u q n _ => by rw [upd_ne (hx b n)]; exact n, fun b u q _ => ?_,
    fun b xs q => by rw [upd_ne (hm b _ q fun z => z)]; exact q, fun b u xs q => by rw [upd_ne (hm b _ q fun z => z)]; exact q, fun b ps q => ⟨#[], by rw [upd_ne (hm b _ q fun z => z), q]; simp⟩⟩
  by_cases hbe : b = e
  · subst hbe; exact heo
  · exact ⟨u, k b u hbe q⟩
end

/-! ### the heap without what is tracked -/
def trk (h : Heap) (H : Hp) : List Addr := (List.range h.objs.size).filter fun a => (H a).isSome
def hidT (h : Heap) (H : Hp) : Heap := PySem.W.hideAll h (trk h H)
theorem hidT_size (h : Heap) (H : Hp) : (hidT h H).objs.size = h.objs.size := PySem.W.hideAll_size _ _
theorem hidT_get {h : Heap} {H : Hp} {b : Addr} {o : Obj} (e : h.get? b = some o) (n : H b = none) : (hidT h H).get? b = some o :=
  PySem.W.hideAll_get _ e fun hm => by
    have q : (H b).isSome = true := (List.mem_filter.mp hm).2
    rw [n] at q; simp at q
theorem of_hidT {h : Heap} {H : Hp} {b : Addr} {o : Obj} (e : (hidT h H).get? b = some o) : h.get? b = some o ∧ H b = none := by
  have e' : h.get? b = some o := PySem.W.of_hideAll (trk h H) e
  refine ⟨e', ?_⟩
  cases q : H b with
  | none => rfl
  | some x =>
    have hm : b ∈ trk h H := List.mem_filter.mpr ⟨List.mem_range.mpr (Heap.lt_size e'), by simp [q]⟩
    have z : (hidT h H).get? b = none := PySem.W.hideAll_none (trk h H) hm
    rw [z] at e; cases e

/-! ### OpenK's ledger, filled with every new object but one -/
end L2

namespace L2
open PySem PySem.Spec PyProof.Rows

/-- the module's facts, over the base: the heap at the law's entry without what is tracked there -/
structure Mod (K : PySem.W.Frag) (mg : Str → Option Value) (base : Heap) : Prop where
  kin : K.In base
  glob : base.Ns mainGlobals mg
  blt : ∃ mb, base.Ns builtinsNs mb ∧ ∀ x : Str, x ≠ "__name__" → mb x = bootBuiltins x
  nolimit : base.NoLimit

/-- the context: a def's body (or a comprehension's block) running. base: fixed through the whole law; s₀, H₀: the entry; outer: the frames whose slots others may change (a def's callers); stack: all frames that run;
   ex: iterators that were made ahead of the entry and are walked here (a comprehension's); fn: the names whose cells were made at the entry (a def: all; a comprehension's block: its own); calm: not within an except suite; pn: pins that every state bears; xe: what is wanted of an exception that leaves the code -/
structure Cx where
  prog : Program
  w : World
  K : PySem.W.Frag
  mg : Str → Option Value
  base : Heap
  A : Around
  N : List Str
  s_0 : Shared
  H_0 : Hp
  env : Env
  outer : List Env
  stack : List Env
  ex : List Addr
  fn : Str → Bool
  calm : Bool
  pn : List (Addr × Obj)
  xe : Value → Shared → Prop
/-- the callers' frames -/
def frs (l : List Env) : List Addr := l.filterMap (·.frame)
abbrev Cx.fs (X : Cx) : List Addr := frs X.outer

def Vis (sc : Scope) (x : Str) : Prop := sc.names.lookup x = some .local ∨ sc.names.lookup x = some .cell ∨ sc.names.lookup x = some .free
def Loc (sc : Scope) (x : Str) : Prop := sc.names.lookup x = some .local ∨ sc.names.lookup x = some .cell
def Look (env : Env) (h : Heap) (m : Str → Option Value) (x : Str) (u : Value) : Prop :=
  (env.kindOf x = some .local ∧ m x = some u) ∨ ((env.kindOf x = some .cell ∨ env.kindOf x = some .free) ∧ ∃ c, env.cells.lookup x = some c ∧ h.IsCell c (some u))

structure Cx.Ok (X : Cx) : Prop where
  mod : Mod X.K X.mg X.base
  kind : X.env.scope.kind = .function
  glob : X.env.globals = mainGlobals
  blt : X.env.builtins = builtinsNs
  above : X.s_0.heap.objs.size ≤ X.env.locals
  inj : ∀ x y c, X.env.cells.lookup x = some c → X.env.cells.lookup y = some c → x = y
  has : ∀ x, (X.env.kindOf x = some .cell ∨ X.env.kindOf x = some .free) → ∃ c, X.env.cells.lookup x = some c
  cab : ∀ x c, X.fn x = true → X.env.cells.lookup x = some c → X.s_0.heap.objs.size ≤ c
  hd : X.calm = true → X.A.handled = none
  frames : X.A.frames = some X.stack
  stk : X.stack = X.outer ∨ (X.stack = X.env :: X.outer ∧ X.env.frame = some X.env.locals)
  exf : ∀ b ∈ X.ex, b ≠ X.env.locals ∧ ∀ x c, X.env.cells.lookup x = some c → c ≠ b
  bs : ∀ b o, X.base.get? b = some o → X.s_0.heap.get? b = some o ∧ X.H_0 b = none
  bsz : X.base.objs.size ≤ X.s_0.heap.objs.size
  noex : ∀ b o, X.base.get? b = some o → b ∉ X.ex
  exfs : ∀ b ∈ X.ex, b ∉ X.fs
  funs : X.s_0.heap.FunFrames X.base X.outer
  frf : ∀ b ∈ X.fs, X.H_0 b = none

structure Inv (X : Cx) (pins : List (Addr × Obj)) (σ : List (Option V)) (H : Hp) (s : Shared) : Prop where
  ok : X.Ok
  os : s.os = X.s_0.os
  bare : AllBare s.gens
  base : Un X.fs X.ex X.H_0 H X.s_0.heap s.heap
  loc : ∃ m, s.heap.Ns X.env.locals m ∧ ∀ (i : Nat) (x : Str) (v : V), X.N[i]? = some x → σ[i]? = some (some v) → Vis X.env.scope x → ∃ u, RelV v u ∧ Look X.env s.heap m x u
  cell : ∀ x c, X.env.cells.lookup x = some c → ∃ v, s.heap.IsCell c v
  free : H X.env.locals = none
  freeC : ∀ x c, X.env.cells.lookup x = some c → H c = none
  pin : ∀ p ∈ X.pn ++ pins, s.heap.get? p.1 = some p.2 ∧ H p.1 = none ∧ p.1 ≠ X.env.locals ∧ p.1 ∉ X.fs ∧ ∀ v, p.2.data ≠ .cell v
  hok : HOk X.prog X.w H s.heap
  len : σ.length = X.N.length

section
variable {X : Cx} {pins : List (Addr × Obj)} {σ : List (Option V)} {H H' : Hp} {s : Shared} {h' : Heap}

theorem Cx.Ok.nofr (ok : X.Ok) {b : Addr} {o : Obj} (e : X.base.get? b = some o) : b ∉ X.fs := fun hb => by
  have := (ok.funs.mem hb).1
  rw [e] at this; cases this
theorem Inv.bs (I : Inv X pins σ H s) : ∀ b o, X.base.get? b = some o → s.heap.get? b = some o ∧ H b = none := fun b o e =>
  ⟨I.base.keep b o (I.ok.bs b o e).1 (I.ok.bs b o e).2 (I.ok.nofr e) (I.ok.noex b o e), I.base.free b o (I.ok.bs b o e).1 (I.ok.bs b o e).2 (I.ok.noex b o e)⟩
theorem Inv.bk (I : Inv X pins σ H s) : ∀ b o, X.base.get? b = some o → s.heap.get? b = some o := fun b o e => (I.bs b o e).1
theorem Inv.mod (I : Inv X pins σ H s) : Mod X.K X.mg X.base := I.ok.mod
theorem Inv.kIn (I : Inv X pins σ H s) : X.K.In s.heap := I.ok.mod.kin.keeps I.bk
theorem Inv.nolimit (I : Inv X pins σ H s) : s.heap.NoLimit := I.ok.mod.nolimit.keeps I.bk
theorem Inv.lt (I : Inv X pins σ H s) : X.env.locals < s.heap.objs.size := let ⟨_, hn, _⟩ := I.loc; hn.lt
theorem Inv.sz (I : Inv X pins σ H s) : X.s_0.heap.objs.size ≤ s.heap.objs.size := Nat.le_trans I.ok.above (Nat.le_of_lt I.lt)
theorem Inv.nofs (I : Inv X pins σ H s) {a : Addr} (h : s.heap.objs.size ≤ a) : a ∉ X.fs := fun hb => by
  obtain ⟨_, o, ho, _⟩ := I.ok.funs.mem hb
  exact absurd (Nat.lt_of_lt_of_le (Heap.lt_size ho) (Nat.le_trans I.sz h)) (Nat.lt_irrefl _)
theorem Inv.cne (I : Inv X pins σ H s) : ∀ x c, X.env.cells.lookup x = some c → c ≠ X.env.locals := fun x c e z => by
  obtain ⟨v, o, ho, hd⟩ := I.cell x c e
  obtain ⟨m, ⟨o', es, ep, ho', hd', _⟩, _⟩ := I.loc
  rw [z, ho'] at ho; cases ho; rw [hd'] at hd; cases hd
theorem Inv.funs (I : Inv X pins σ H s) : s.heap.FunFrames X.base X.outer := by
  have all : ∀ (l : List Env), (∀ b ∈ frs l, b ∈ X.fs) → X.s_0.heap.FunFrames X.base l → s.heap.FunFrames X.base l := by
    intro l
    induction l with
    | nil => intro _ _; trivial
    | cons env r ih =>
      intro hs hl
      obtain ⟨hk, ⟨L, o, hf, hn, ho, hd⟩, hr⟩ := hl
      have hL : L ∈ X.fs := hs L (by unfold frs; rw [List.filterMap_cons, hf]; exact List.mem_cons_self)
      obtain ⟨sl, e⟩ := I.base.slot L o ho (I.ok.frf L hL) hL fun z => I.ok.exfs L z hL
      exact ⟨hk, ⟨L, _, hf, hn, e, hd⟩, ih (fun b hb => hs b (by unfold frs; rw [List.filterMap_cons, hf]; exact List.mem_cons_of_mem _ hb)) hr⟩
  exact all X.outer (fun _ hb => hb) I.ok.funs

/-- the frames that run, for a call -/
theorem Inv.stack (I : Inv X pins σ H s) : s.heap.FunFrames X.base X.stack := by
  rcases I.ok.stk with e | ⟨e, hf⟩
  · rw [e]; exact I.funs
  · rw [e]
    obtain ⟨m, hn, _⟩ := I.loc
    refine .cons (by rw [I.ok.kind]; decide) hf hn ?_ I.funs
    exact Heap.get?_none_of_le (Nat.le_trans I.ok.bsz I.ok.above)
theorem Inv.stkSub (I : Inv X pins σ H s) : ∀ b ∈ frs X.stack, b ∈ X.env.locals :: X.fs := fun b hb => by
  rcases I.ok.stk with e | ⟨e, hf⟩
  · rw [e] at hb; exact List.mem_cons_of_mem _ hb
  · rw [e] at hb
    unfold frs at hb
    rw [List.filterMap_cons, hf] at hb
    exact hb
theorem Inv.stkFree (I : Inv X pins σ H s) : ∀ b ∈ frs X.stack, H b = none := fun b hb => by
  rcases List.mem_cons.mp (I.stkSub b hb) with e | hb
  · rw [e]; exact I.free
  · obtain ⟨_, o, ho, _⟩ := I.ok.funs.mem hb
    exact I.base.free b o ho (I.ok.frf b hb) fun z => I.ok.exfs b z hb

/-- THE STEP: the untracked objects but the frame and the records at ch are kept (the callers' frames up to slots), the frame's map is kept, the new abstract heap is held -/
theorem Inv.step {g' : Array GenState} {t' : Nat} {d' : Drawn} {ch : List Addr} (I : Inv X pins σ H s)
    (hch : ∀ b ∈ ch, (b ∈ X.ex ∨ X.s_0.heap.objs.size ≤ b) ∧ b ≠ X.env.locals ∧ (∀ x c, X.env.cells.lookup x = some c → c ≠ b) ∧ ∀ p ∈ X.pn ++ pins, p.1 ≠ b)
    (keep : ∀ b o, b ≠ X.env.locals → b ∉ X.fs → b ∉ ch → s.heap.get? b = some o → H b = none → h'.get? b = some o)
    (slot : ∀ b o, b ≠ X.env.locals → b ∈ X.fs → b ∉ ch → s.heap.get? b = some o → H b = none → ∃ sl, h'.get? b = some { o with slots := sl }) (free : ∀ b o, b ∉ ch → s.heap.get? b = some o → H b = none → H' b = none)
    (there : ∀ b o, b ∉ ch → s.heap.get? b = some o → ∃ o', h'.get? b = some o')
    (tups : ∀ b xs, H b = some (.tup xs) → H' b = some (.tup xs)) (frzs : ∀ b o u, H b = some (.frz o u) → H' b = some (.frz o u)) (tbls : ∀ b ps, H b = some (.tbl ps) → ∃ more, H' b = some (.tbl (ps ++ more)))
    (ns : ∀ m, s.heap.Ns X.env.locals m → h'.Ns X.env.locals m) (hok : HOk X.prog X.w H' h') (hg : AllBare g') :
    Inv X pins σ H' { s with heap := h', gens := g', drawn := d', toks := t' } := by
  have neL : ∀ b o, X.s_0.heap.get? b = some o → b ≠ X.env.locals := fun b o e => Nat.ne_of_lt (Nat.lt_of_lt_of_le (Heap.lt_size e) I.ok.above)
  have neC : ∀ b o, X.s_0.heap.get? b = some o → b ∉ X.ex → b ∉ ch := fun b o e hx hb => by
    rcases (hch b hb).1 with z | z
    · exact hx z
    · exact absurd (Nat.lt_of_lt_of_le (Heap.lt_size e) z) (Nat.lt_irrefl _)
  have cellK : ∀ x c, X.env.cells.lookup x = some c → ∀ v, s.heap.IsCell c v → h'.IsCell c v := fun x c e v ⟨o, ho, hd⟩ => by
    have nch : c ∉ ch := fun z => (hch c z).2.2.1 x c e rfl
    by_cases hc : c ∈ X.fs
    · obtain ⟨sl, q⟩ := slot c o (I.cne x c e) hc nch ho (I.freeC x c e)
      exact ⟨_, q, hd⟩
    · exact ⟨o, keep c o (I.cne x c e) hc nch ho (I.freeC x c e), hd⟩
  refine ⟨I.ok, I.os, hg, ⟨fun b o e n hb hx => ?_, fun b o e n hb hx => ?_, fun b o e n hx => ?_, fun b o e hx => ?_, fun b xs e => tups b xs (I.base.tups b xs e), fun b o xs e => frzs b o xs (I.base.frzs b o xs e), fun b ps e => ?_⟩, ?_, fun x c e => ?_, ?_, fun x c e => ?_, fun p hp => ?_, hok, I.len⟩
  · exact keep b o (neL b o e) hb (neC b o e hx) (I.base.keep b o e n hb hx) (I.base.free b o e n hx)
  · obtain ⟨sl, e1⟩ := I.base.slot b o e n hb hx
    obtain ⟨sl', e2⟩ := slot b _ (neL b o e) hb (neC b o e hx) e1 (I.base.free b o e n hx)
    exact ⟨sl', e2⟩
  · obtain ⟨o', e1⟩ := I.base.there b o e hx
    exact free b o' (neC b o e hx) e1 (I.base.free b o e n hx)
  · obtain ⟨o', e1⟩ := I.base.there b o e hx
    exact there b o' (neC b o e hx) e1
  · obtain ⟨m1, e1⟩ := I.base.tbls b ps e
    obtain ⟨m2, e2⟩ := tbls b _ e1
    exact ⟨m1 ++ m2, by rw [e2, Array.append_assoc]⟩
  · obtain ⟨m, hn, hl⟩ := I.loc
    refine ⟨m, ns m hn, fun i x v e1 e2 e3 => ?_⟩
    obtain ⟨u, r, l⟩ := hl i x v e1 e2 e3
    refine ⟨u, r, ?_⟩
    rcases l with l | ⟨k, c, e, z⟩
    · exact .inl l
    · exact .inr ⟨k, c, e, cellK x c e _ z⟩
  · obtain ⟨v, z⟩ := I.cell x c e
    exact ⟨v, cellK x c e v z⟩
  · obtain ⟨m, ⟨o, _, _, ho, _⟩, _⟩ := I.loc
    exact free _ o (fun z => (hch _ z).2.1 rfl) ho I.free
  · obtain ⟨v, o, ho, hd⟩ := I.cell x c e
    exact free c o (fun z => (hch c z).2.2.1 x c e rfl) ho (I.freeC x c e)
  · obtain ⟨e, n, ne, nf, d⟩ := I.pin p hp
    have nch : p.1 ∉ ch := fun z => (hch p.1 z).2.2.2 p hp rfl
    exact ⟨keep p.1 p.2 ne nf nch e n, free p.1 p.2 nch e n, ne, nf, d⟩
/-- .. where the frame's own object is kept too -/
theorem Inv.un {t' : Nat} (I : Inv X pins σ H s) (u : Un X.fs [] H H' s.heap h') (hok : HOk X.prog X.w H' h') : Inv X pins σ H' { s with heap := h', toks := t' } := by
  obtain ⟨m, ⟨o, es, ep, ho, r⟩, _⟩ := id I.loc
  obtain ⟨sl, hL⟩ := u.any ho I.free (by simp)
  exact I.step (g' := s.gens) (d' := s.drawn) (ch := []) (fun _ z => nomatch z) (fun b o _ hb _ e n => u.keep b o e n hb (by simp)) (fun b o _ hb _ e n => u.slot b o e n hb (by simp)) (fun b o _ e n => u.free b o e n (by simp)) (fun b o _ e => u.there b o e (by simp)) u.tups u.frzs u.tbls (fun m' hm => by
    obtain ⟨o', es', ep', ho', r'⟩ := hm
    rw [ho] at ho'; cases ho'
    exact ⟨_, es', ep', hL, r'⟩) hok I.bare
/-- behind a call (or a comprehension's block): the slots of this frame may have changed too, the records at ch may have turned -/
theorem Inv.call {g' : Array GenState} {t' : Nat} {d' : Drawn} {ch : List Addr} (I : Inv X pins σ H s) (u : Un (frs X.stack) ch H H' s.heap h') (hok : HOk X.prog X.w H' h') (hg : AllBare g')
    (hch : ∀ b ∈ ch, (b ∈ X.ex ∨ X.s_0.heap.objs.size ≤ b) ∧ b ≠ X.env.locals ∧ (∀ x c, X.env.cells.lookup x = some c → c ≠ b) ∧ ∀ p ∈ X.pn ++ pins, p.1 ≠ b) :
    Inv X pins σ H' { s with heap := h', gens := g', drawn := d', toks := t' } := by
  obtain ⟨m, ⟨o, es, ep, ho, r⟩, _⟩ := id I.loc
  obtain ⟨sl, hL⟩ := u.any ho I.free fun z => (hch _ z).2.1 rfl
  exact I.step (ch := ch) hch (fun b o hL hb hc e n => u.keep b o e n (fun z => (List.mem_cons.mp (I.stkSub b z)).elim hL hb) hc) (fun b o _ _ hc e n => u.any e n hc) (fun b o hc e n => u.free b o e n hc) (fun b o hc e => u.there b o e hc) u.tups u.frzs u.tbls (fun m' hm => by
    obtain ⟨o', es', ep', ho', r'⟩ := hm
    rw [ho] at ho'; cases ho'
    exact ⟨_, es', ep', hL, r'⟩) hok hg
/-- an untracked record of ours (an iterator) has turned -/
theorem Inv.turned {t' : Nat} {it : Addr} (I : Inv X pins σ H s) (k : ∀ b o, b ≠ it → s.heap.get? b = some o → h'.get? b = some o) (hn : H it = none) (hL : it ≠ X.env.locals)
    (h1 : it ∈ X.ex ∨ X.s_0.heap.objs.size ≤ it) (h2 : ∀ x c, X.env.cells.lookup x = some c → c ≠ it) (h3 : ∀ p ∈ X.pn ++ pins, p.1 ≠ it) : Inv X pins σ H { s with heap := h', toks := t' } := by
  have nit : ∀ b u, H b = some u → b ≠ it := fun b u e z => by rw [z, hn] at e; cases e
  refine I.step (g' := s.gens) (d' := s.drawn) (ch := [it]) (fun b hb => ?_) (fun b o _ _ hc e _ => k b o (fun z => hc (by simp [z])) e) (fun b o _ _ hc e _ => ⟨o.slots, k b o (fun z => hc (by simp [z])) e⟩) (fun _ _ _ _ n => n)
    (fun b o hc e => ⟨o, k b o (fun z => hc (by simp [z])) e⟩) (fun _ _ e => e) (fun _ _ _ e => e) (fun b ps e => ⟨#[], by rw [e]; simp⟩) (fun m hm => ?_) (fun b u e => ?_) I.bare
  · have e : b = it := by simpa using hb
    subst e
    exact ⟨h1, hL, h2, h3⟩
  · obtain ⟨o, es, ep, ho, r⟩ := hm
    exact ⟨o, es, ep, k _ o (Ne.symm hL) ho, r⟩
  · refine (I.hok b u e).stay (fun c v hc q => k c v ?_ q) (fun _ q => q) fun _ _ q => q
    rcases hc with z | z
    · rw [z]; exact nit b u e
    · exact nit c _ z
theorem Inv.tok (I : Inv X pins σ H s) (t : Nat) : Inv X pins σ H { s with toks := t } := I.un (h' := s.heap) (t' := t) Un.refl I.hok
/-- all objects kept -/
theorem Inv.kept {t' : Nat} (I : Inv X pins σ H s) (k : ∀ b u, s.heap.get? b = some u → h'.get? b = some u) : Inv X pins σ H { s with heap := h', toks := t' } := I.un (Un.kept k) (I.hok.kept k)
/-- a new object laid and tracked -/
theorem Inv.laid {a : Addr} {o : HO} {t' : Nat} (I : Inv X pins σ H s) (k : ∀ b u, s.heap.get? b = some u → h'.get? b = some u) (hp : s.heap.objs.size ≤ a) (new : ObjOk X.prog X.w (upd H a o) h' a o) :
    Inv X pins σ (upd H a o) { s with heap := h', toks := t' } := I.un (Un.laid k hp (I.hok.fresh hp)) (I.hok.laid k hp new)
/-- an object written -/
theorem Inv.write {x e : Addr} {o : HO} {t' : Nat} (I : Inv X pins σ H s) (mu : Mut (H x)) (he : e = x ∨ H e = some (.own x)) (k : ∀ b u, b ≠ e → s.heap.get? b = some u → h'.get? b = some u) (heo : ∃ u, h'.get? e = some u)
    (new : ObjOk X.prog X.w (upd H x o) h' x o) : Inv X pins σ (upd H x o) { s with heap := h', toks := t' } := I.un (Un.write mu he k heo) (I.hok.write mu he k heo new)
/-- forgetting slots, pins -/
theorem Inv.weak {σ' : List (Option V)} (I : Inv X pins σ H s) (hl : σ'.length = σ.length) (w : ∀ (i : Nat) v, σ'[i]? = some (some v) → σ[i]? = some (some v)) : Inv X pins σ' H s :=
  ⟨I.ok, I.os, I.bare, I.base, let ⟨m, hn, hl'⟩ := I.loc; ⟨m, hn, fun i x v e1 e2 e3 => hl' i x v e1 (w i v e2) e3⟩, I.cell, I.free, I.freeC, I.pin, I.hok, hl.trans I.len⟩
theorem Inv.pins_of {pins' : List (Addr × Obj)} (I : Inv X pins σ H s) (h : ∀ p ∈ pins', s.heap.get? p.1 = some p.2 ∧ H p.1 = none ∧ p.1 ≠ X.env.locals ∧ p.1 ∉ X.fs ∧ ∀ v, p.2.data ≠ .cell v) : Inv X pins' σ H s :=
  ⟨I.ok, I.os, I.bare, I.base, I.loc, I.cell, I.free, I.freeC, fun p hp => (List.mem_append.mp hp).elim (fun z => I.pin p (List.mem_append_left _ z)) (h p), I.hok, I.len⟩

theorem nodup_ix {N : List Str} (hN : N.Nodup) {i j : Nat} {x : Str} (a : N[i]? = some x) (b : N[j]? = some x) : i = j := by
  obtain ⟨h1, e1⟩ := List.getElem?_eq_some_iff.mp a
  obtain ⟨h2, e2⟩ := List.getElem?_eq_some_iff.mp b
  exact (List.getElem_inj hN).mp (e1.trans e2.symm)

/-- a name is stored; what changed -/
theorem store_ok2 {M : Model} {A : Around} {E : Value → Shared → Prop} {i : Nat} {x : Str} {v : V} {u : Value} {Q : Unit → Shared → Prop} (I : Inv X pins σ H s) (hN : X.N.Nodup) (hi : X.N[i]? = some x) (hx : Loc X.env.scope x) (r : RelV v u)
    (h : ∀ s', Inv X pins (σ.set i (some v)) H s' → (∃ a, Heap.SameBut a s.heap s'.heap ∧ (a = X.env.locals ∨ X.env.cells.lookup x = some a)) → Q () s') (hf : X.fn x = true ∨ X.env.scope.names.lookup x = some .local := by first | exact .inl rfl | exact .inr rfl | assumption) : wpAny M A (storeName X.env x u) Q E s := by
  obtain ⟨m, hn, hl⟩ := id I.loc
  have hcls : (X.env.scope.kind == .class || (X.env.scope.kind == .module && X.env.locals != X.env.globals)) = false := by rw [I.ok.kind]; rfl
  have hiσ : i < σ.length := by rw [I.len]; exact (List.getElem?_eq_some_iff.mp hi).1
  have cne := I.cne
  have tracked : ∀ {a : Addr} {h' : Heap}, (∃ o, s.heap.get? a = some o ∧ H a = none) → Heap.SameBut a s.heap h' → HOk X.prog X.w H h' := fun {a h'} ha hs b ob e => by
    obtain ⟨_, _, hfree⟩ := ha
    refine (I.hok b ob e).stay (fun c w' hc q => (hs.2 c ?_).trans q) (fun _ q => q) fun _ _ q => q
    rintro rfl
    rcases hc with rfl | hc
    · rw [hfree] at e; cases e
    · rw [hfree] at hc; cases hc
  rcases hx with hk | hk
  · refine wpAny_storeName_local hk hn (fun h' hn' hs => ?_) hcls
    obtain ⟨oL, _, _, hoL, _⟩ := id hn
    refine h _ ⟨I.ok, I.os, I.bare, ⟨fun b o e n hb hx => ?_, fun b o e n hb hx => ?_, I.base.free, fun b o e hx => ?_, I.base.tups, I.base.frzs, I.base.tbls⟩, ⟨_, hn', fun j y v' e1 e2 e3 => ?_⟩, fun y c e => ?_, I.free, I.freeC, fun p hp => ?_, tracked ⟨oL, hoL, I.free⟩ hs, by simpa using I.len⟩ ⟨_, hs, .inl rfl⟩
    · exact (hs.2 b (Nat.ne_of_lt (Nat.lt_of_lt_of_le (Heap.lt_size e) I.ok.above))).trans (I.base.keep b o e n hb hx)
    · obtain ⟨sl, e1⟩ := I.base.slot b o e n hb hx
      exact ⟨sl, (hs.2 b (Nat.ne_of_lt (Nat.lt_of_lt_of_le (Heap.lt_size e) I.ok.above))).trans e1⟩
    · obtain ⟨o', e1⟩ := I.base.there b o e hx
      exact ⟨o', (hs.2 b (Nat.ne_of_lt (Nat.lt_of_lt_of_le (Heap.lt_size e) I.ok.above))).trans e1⟩
    · by_cases hj : j = i
      · subst hj
        rw [hi] at e1; cases e1
        rw [List.getElem?_set_self hiσ] at e2
        cases e2
        exact ⟨u, r, .inl ⟨hk, by simp⟩⟩
      · rw [List.getElem?_set_ne (Ne.symm hj)] at e2
        obtain ⟨u', r', q⟩ := hl j y v' e1 e2 e3
        refine ⟨u', r', ?_⟩
        rcases q with ⟨k, e⟩ | ⟨k, c, e, z⟩
        · refine .inl ⟨k, ?_⟩
          have : y ≠ x := fun e => hj (nodup_ix hN e1 (e ▸ hi))
          simp [this, e]
        · exact .inr ⟨k, c, e, z.sameBut hs (cne y c e)⟩
    · obtain ⟨w', z⟩ := I.cell y c e
      exact ⟨w', z.sameBut hs (cne y c e)⟩
    · obtain ⟨e, n, ne, nf, d⟩ := I.pin p hp
      exact ⟨(hs.2 p.1 ne).trans e, n, ne, nf, d⟩
  · have hfn : X.fn x = true := by
      rcases hf with z | z
      · exact z
      · rw [z] at hk; cases hk
    obtain ⟨c, hc⟩ := I.ok.has x (.inl hk)
    obtain ⟨w', z⟩ := I.cell x c hc
    refine wpAny_storeName_cell I.ok.kind hk hc z (fun h' hc' hs => ?_)
    obtain ⟨oc, hoc, hocd⟩ := id z
    refine h { s with heap := h' } ⟨I.ok, I.os, I.bare, ⟨fun b o e n hb hx => ?_, fun b o e n hb hx => ?_, I.base.free, fun b o e hx => ?_, I.base.tups, I.base.frzs, I.base.tbls⟩, ⟨m, hn.sameBut hs (Ne.symm (cne x c hc)), fun j y v' e1 e2 e3 => ?_⟩, fun y c' e => ?_, I.free, I.freeC, fun p hp => ?_, tracked ⟨oc, hoc, I.freeC x c hc⟩ hs, by simpa using I.len⟩ ⟨c, hs, .inr hc⟩
    · exact (hs.2 b (Nat.ne_of_lt (Nat.lt_of_lt_of_le (Heap.lt_size e) (I.ok.cab x c hfn hc)))).trans (I.base.keep b o e n hb hx)
    · obtain ⟨sl, e1⟩ := I.base.slot b o e n hb hx
      exact ⟨sl, (hs.2 b (Nat.ne_of_lt (Nat.lt_of_lt_of_le (Heap.lt_size e) (I.ok.cab x c hfn hc)))).trans e1⟩
    · obtain ⟨o', e1⟩ := I.base.there b o e hx
      exact ⟨o', (hs.2 b (Nat.ne_of_lt (Nat.lt_of_lt_of_le (Heap.lt_size e) (I.ok.cab x c hfn hc)))).trans e1⟩
    · by_cases hj : j = i
      · subst hj
        rw [hi] at e1; cases e1
        rw [List.getElem?_set_self hiσ] at e2
        cases e2
        exact ⟨u, r, .inr ⟨.inl hk, c, hc, hc'⟩⟩
      · rw [List.getElem?_set_ne (Ne.symm hj)] at e2
        obtain ⟨u', r', q⟩ := hl j y v' e1 e2 e3
        refine ⟨u', r', ?_⟩
        rcases q with q | ⟨k, c', e, z'⟩
        · exact .inl q
        · refine .inr ⟨k, c', e, z'.sameBut hs ?_⟩
          rintro rfl
          exact hj (nodup_ix hN e1 (I.ok.inj _ _ _ e hc ▸ hi))
    · by_cases hcc : c' = c
      · subst hcc; exact ⟨_, hc'⟩
      · obtain ⟨w2, z2⟩ := I.cell y c' e
        exact ⟨w2, z2.sameBut hs hcc⟩
    · obtain ⟨e, n, ne, nf, d⟩ := I.pin p hp
      refine ⟨(hs.2 p.1 ?_).trans e, n, ne, nf, d⟩
      intro q
      rw [q, hoc] at e
      have q' : oc = p.2 := Option.some.inj e
      exact d w' (by rw [← q']; exact hocd)
theorem store_ok {M : Model} {A : Around} {E : Value → Shared → Prop} {i : Nat} {x : Str} {v : V} {u : Value} {Q : Unit → Shared → Prop} (I : Inv X pins σ H s) (hN : X.N.Nodup) (hi : X.N[i]? = some x) (hx : Loc X.env.scope x) (r : RelV v u)
    (h : ∀ s', Inv X pins (σ.set i (some v)) H s' → Q () s') (hf : X.fn x = true ∨ X.env.scope.names.lookup x = some .local := by first | exact .inl rfl | exact .inr rfl | assumption) : wpAny M A (storeName X.env x u) Q E s :=
  store_ok2 I hN hi hx r (fun s' I' _ => h s' I') hf
/-- behind a call or a block, the state as it is -/
theorem Inv.call' {s' : Shared} {ch : List Addr} (I : Inv X pins σ H s) (ho : s'.os = s.os) (u : Un (frs X.stack) ch H H' s.heap s'.heap) (hok : HOk X.prog X.w H' s'.heap) (hg : AllBare s'.gens)
    (hch : ∀ b ∈ ch, (b ∈ X.ex ∨ X.s_0.heap.objs.size ≤ b) ∧ b ≠ X.env.locals ∧ (∀ x c, X.env.cells.lookup x = some c → c ≠ b) ∧ ∀ p ∈ X.pn ++ pins, p.1 ≠ b) : Inv X pins σ H' s' := by
  obtain ⟨h', g', d', t', o'⟩ := s'
  have e : o' = s.os := ho
  subst e
  exact I.call (g' := g') (t' := t') (d' := d') u hok hg hch
end

/-! ### the judgements -/
/-- an exception: its class, its own dict's address (where it has one), the abstract heap behind it -/
abbrev XK := Value → Option Addr → Hp → Prop
abbrev St := List (Option V)
abbrev VK := V → Hp → Prop
/-- an expression's reading; a test's; an argument list's -/
abbrev TE := St → Hp → VK → Prop
abbrev TT := St → Hp → (Bool → Hp → Prop) → Prop
abbrev TA := St → Hp → (List V → Hp → Prop) → Prop
/-- what is wanted behind a statement -/
structure Ends where
  nx : St → Hp → Prop
  rt : VK
  bk : St → Hp → Prop := fun _ _ => False
  ct : St → Hp → Prop := fun _ _ => False
abbrev TS := Ends → St → Hp → Prop

def EP (X : Cx) (pins : List (Addr × Obj)) (σ : St) (Q : VK) (u : Value) (s' : Shared) : Prop := ∃ v H', Inv X pins σ H' s' ∧ RelV v u ∧ Q v H'
def TP (X : Cx) (pins : List (Addr × Obj)) (σ : St) (Q : Bool → Hp → Prop) (b : Bool) (s' : Shared) : Prop := ∃ H', Inv X pins σ H' s' ∧ Q b H'
def AP (X : Cx) (pins : List (Addr × Obj)) (σ : St) (Q : List V → Hp → Prop) (us : List Value) (s' : Shared) : Prop := ∃ vs H', Inv X pins σ H' s' ∧ Vals vs us ∧ Q vs H'
def SP (X : Cx) (pins : List (Addr × Obj)) (D : Ends) (f : Flow) (s' : Shared) : Prop :=
  match f with
  | .next => ∃ σ' H', Inv X pins σ' H' s' ∧ D.nx σ' H'
  | .brk => ∃ σ' H', Inv X pins σ' H' s' ∧ D.bk σ' H'
  | .cont => ∃ σ' H', Inv X pins σ' H' s' ∧ D.ct σ' H'
  | .ret u => ∃ v σ' H', Inv X pins σ' H' s' ∧ RelV v u ∧ D.rt v H'

def PE (X : Cx) (e : Expr) (t : TE) : Prop :=
  ∀ (pins : List (Addr × Obj)) (s : Shared) (σ : St) (H : Hp) (Q : VK), Inv X pins σ H s → t σ H Q → wpAny (model X.prog X.w) X.A (eval e X.env) (EP X pins σ Q) X.xe s
def PT (X : Cx) (e : Expr) (t : TT) : Prop :=
  ∀ (pins : List (Addr × Obj)) (s : Shared) (σ : St) (H : Hp) (Q : Bool → Hp → Prop), Inv X pins σ H s → t σ H Q → wpAny (model X.prog X.w) X.A (isTrue e X.env (eval e X.env)) (TP X pins σ Q) X.xe s
/-- a test whatever its 'whole' is (and, or) -/
def PW (X : Cx) (e : Expr) (t : TT) : Prop :=
  ∀ (whole : Sem Value) (pins : List (Addr × Obj)) (s : Shared) (σ : St) (H : Hp) (Q : Bool → Hp → Prop), Inv X pins σ H s → t σ H Q → wpAny (model X.prog X.w) X.A (isTrue e X.env whole) (TP X pins σ Q) X.xe s
theorem PW.pt {X : Cx} {e : Expr} {t : TT} (h : PW X e t) : PT X e t := h _
/-- an argument list (no star), from the left -/
def PA (X : Cx) (es : List Expr) (t : TA) : Prop :=
  ∀ (pos : Pos) (pins : List (Addr × Obj)) (s : Shared) (σ : St) (H : Hp) (Q : List V → Hp → Prop), Inv X pins σ H s → t σ H Q → wpAny (model X.prog X.w) X.A (spliced (backTo pos (starEach es X.env))) (AP X pins σ Q) X.xe s
def PS (X : Cx) (st : Stmt) (t : TS) : Prop :=
  ∀ (pins : List (Addr × Obj)) (s : Shared) (σ : St) (H : Hp) (D : Ends), Inv X pins σ H s → t D σ H → wpAny (model X.prog X.w) X.A (exec st X.env) (SP X pins D) X.xe s
def PSs (X : Cx) (st : List Stmt) (t : TS) : Prop :=
  ∀ (pins : List (Addr × Obj)) (s : Shared) (σ : St) (H : Hp) (D : Ends), Inv X pins σ H s → t D σ H → wpAny (model X.prog X.w) X.A (execs st X.env) (SP X pins D) X.xe s
/-- weaken the end -/
theorem thn {α : Type} {t : Sem α} {Q Q' : α → Shared → Prop} {M : Model} {A : Around} {E : Value → Shared → Prop} {s : Shared} (h : wpAny M A t Q E s) (hQ : ∀ a s, Q a s → Q' a s) : wpAny M A t Q' E s := wpAny_mono h hQ fun _ _ x => x
end L2

namespace L2
open PySem PySem.Spec PyProof.Rows
section
variable {X : Cx}


/-! ### names and constants -/
def tVar (i : Nat) : TE := fun σ H Q => ∃ v, σ[i]? = some (some v) ∧ Q v H
def tC (v : V) : TE := fun _ H Q => Q v H
theorem pe_var {i : Nat} {x : Str} {pos : Pos} (hN : X.N[i]? = some x) (hv : Vis X.env.scope x) (hd : (x == ("__debug__" : Str)) = false := by decide) (hcd : (x == ("__classdict__" : Str)) = false := by decide) : PE X (.Name x pos) (tVar i) := by
  intro pins s σ H Q I h
  obtain ⟨v, e, h⟩ := h
  obtain ⟨m, hn, hl⟩ := I.loc
  obtain ⟨u, r, l⟩ := hl i x v hN e hv
  have fin : EP X pins σ Q u s := ⟨v, H, I, r, h⟩
  rcases l with ⟨hk, hm⟩ | ⟨hk, c, hc, hcell⟩
  · exact wpAny_Name (wpAny_loadName_local I.ok.kind hk hn hm fin) hd
  · rcases hk with hk | hk
    · exact wpAny_Name (wpAny_loadName_cell I.ok.kind hk hc hcell fin) hd
    · exact wpAny_Name (wpAny_loadName_free I.ok.kind hk hc hcell fin hcd) hd
theorem pe_int {i j pos} : PE X (.Constant (.int i) j pos) (tC (.int i)) := fun _ _ _ H _ I h => wpAny_Constant_int ⟨.int i, H, I.tok _, ⟨_, rfl⟩, h⟩
theorem pe_bl {b j pos} : PE X (.Constant (.bool b) j pos) (tC (.bl b)) := fun _ _ _ H _ I h => Constant_bool ⟨.bl b, H, I, rfl, h⟩
theorem pe_non {j pos} : PE X (.Constant .none j pos) (tC .non) := fun _ _ _ H _ I h => Constant_none ⟨.non, H, I, rfl, h⟩

/-- a global name of the def -/
def Gl (X : Cx) (x : Str) : Prop := X.env.kindOf x = some .globalImplicit
theorem ld_glob {E : Value → Shared → Prop} {pins : List (Addr × Obj)} {s : Shared} {σ : St} {H : Hp} {x : Str} {u : Value} {pos : Pos} {Q : Value → Shared → Prop} (I : Inv X pins σ H s) (hg : Gl X x) (hm : X.mg x = some u) (h : Q u s)
    (hd : (x == ("__debug__" : Str)) = false := by decide) : wpAny (model X.prog X.w) X.A (eval (.Name x pos) X.env) Q E s :=
  Calls.Name_function_global I.ok.kind hg (Calls.loadGlobal_global (by rw [I.ok.glob]; exact I.mod.glob.keeps I.bk) hm h) hd
theorem ld_blt {E : Value → Shared → Prop} {pins : List (Addr × Obj)} {s : Shared} {σ : St} {H : Hp} {x : Str} {u : Value} {pos : Pos} {Q : Value → Shared → Prop} (I : Inv X pins σ H s) (hg : Gl X x) (hm : X.mg x = none) (hv : bootBuiltins x = some u) (h : Q u s)
    (hn : x ≠ "__name__" := by decide) (hd : (x == ("__debug__" : Str)) = false := by decide) : wpAny (model X.prog X.w) X.A (eval (.Name x pos) X.env) Q E s := by
  obtain ⟨mb, h1, h2⟩ := I.mod.blt
  exact Calls.Name_function_global I.ok.kind hg (Calls.loadGlobal_builtin (by rw [I.ok.glob]; exact I.mod.glob.keeps I.bk) hm (by rw [I.ok.blt]; exact h1.keeps I.bk) ((h2 x hn).trans hv) h) hd
/-- a module's constant, a class, a function, as a value -/
theorem pe_glob {x : Str} {v : V} {u : Value} {pos : Pos} (hg : Gl X x) (hm : X.mg x = some u) (r : RelV v u) (hd : (x == ("__debug__" : Str)) = false := by decide) : PE X (.Name x pos) (tC v) :=
  fun _ _ _ H _ I h => ld_glob I hg hm ⟨v, H, I, r, h⟩ hd

/-! ### arithmetic -/
variable {a b : Expr} {ta tb : TE} {pos : Pos}

/-! ### comparisons -/
def PC (X : Cx) (op : CmpOp) (a b : Expr) (t : TE) : Prop :=
  ∀ (pins : List (Addr × Obj)) (s : Shared) (σ : St) (H : Hp) (Q : VK), Inv X pins σ H s → t σ H Q →
    wpAny (model X.prog X.w) X.A (eval a X.env) (fun v s₁ => wpAny (model X.prog X.w) X.A (eval b X.env) (fun u s₂ => wpAny (model X.prog X.w) X.A (compareOp op v u) (EP X pins σ Q) X.xe s₂) X.xe s₁) X.xe s
theorem nobehind (b : Expr) {op : CmpOp} (h : op ≠ .In) (h2 : op ≠ .NotIn) : behindInMarks op b = false := by
  have e1 : (op == CmpOp.In) = false := by cases op <;> first | rfl | exact absurd rfl h
  have e2 : (op == CmpOp.NotIn) = false := by cases op <;> first | rfl | exact absurd rfl h2
  cases b <;> simp [behindInMarks, e1, e2]
def tNotN (ta : TE) : TE := fun σ H Q => ta σ H fun x H1 => Q (.bl (!decide (x = .non))) H1
theorem RelV.none_iff {x : V} {v : Value} (r : RelV x v) : (v == Value.none) = decide (x = .non) := by
  cases x with
  | non => cases r; rfl
  | bl _ => cases r; rfl
  | int _ => obtain ⟨t, rfl⟩ := r; rfl
  | str _ => obtain ⟨t, rfl⟩ := r; rfl
  | byt _ => obtain ⟨t, rfl⟩ := r; rfl
  | flt _ => obtain ⟨t, rfl⟩ := r; rfl
  | ref _ => cases r; rfl
  | ty _ => cases r; rfl
theorem pc_notN {j pos'} (ha : PE X a ta) : PC X .IsNot a (.Constant .none j pos') (tNotN ta) := by
  intro pins s σ H Q I h
  refine thn (ha pins s σ H _ I h) fun v s1 ⟨x, H1, I1, r1, q1⟩ => ?_
  exact Constant_none (isnot_none_gen ⟨.bl _, H1, I1, by rw [r1.none_iff]; rfl, q1⟩)
/-- a comparison as a value, as a test -/
def tB (t : TE) : TT := fun σ H Q => t σ H fun x H1 => ∃ c, x = .bl c ∧ Q c H1
theorem pt_cmp {op : CmpOp} {t : TE} (h : PC X op a b t) (h1 : behindInMarks op b = false := by first | exact nobehind _ (by decide) (by decide) | rfl) : PT X (.Compare a [op] [b] pos) (tB t) := by
  intro pins s σ H Q I hw
  refine wpAny_isTrue_Compare1 (thn (h pins s σ H _ I hw) fun v s1 h1 => thn h1 fun u s2 h2 => thn h2 fun c s3 ⟨x, H1, I1, r1, q1⟩ => ?_) h1
  obtain ⟨d, rfl, q⟩ := q1
  cases r1
  exact wpAny_truthy_bool ⟨H1, I1, q⟩
/-- an expression whose value is a bool, as a test -/
theorem pt_val {e : Expr} {t : TE} (h : PE X e t) (he : ∀ whole, isTrue e X.env whole = (do let v ← whole; standAt e.pos; holding [v] (truthy v)) := by intro _; rfl) : PT X e (tB t) := by
  intro pins s σ H Q I hw
  refine isTrue_plain (thn (h pins s σ H _ I hw) fun v s1 ⟨x, H1, I1, r1, q1⟩ => ?_) (he _)
  obtain ⟨d, rfl, q⟩ := q1
  cases r1
  exact wpAny_truthy_bool ⟨H1, I1, q⟩

/-! ### and, or, not -/
variable {tA tB' : TT} {rest : List Expr}
def tAnd (t u : TT) : TT := fun σ H Q => t σ H fun c H1 => if c = true then u σ H1 Q else Q false H1
def tOr (t u : TT) : TT := fun σ H Q => t σ H fun c H1 => if c = true then Q true H1 else u σ H1 Q
def tNot (t : TT) : TT := fun σ H Q => t σ H fun c H1 => Q (!c) H1
theorem pw_and1 (ha : PT X a tA) : PW X (.BoolOp .And [a] pos) tA := by
  intro wh pins s σ H Q I h
  refine isTrue_and (thn (ha pins s σ H Q I h) fun c s1 e => ?_)
  cases c with
  | true => exact isTrue_and_nil e
  | false => exact e
theorem pw_or1 (ha : PT X a tA) : PW X (.BoolOp .Or [a] pos) tA := by
  intro wh pins s σ H Q I h
  refine isTrue_or (thn (ha pins s σ H Q I h) fun c s1 e => ?_)
  cases c with
  | false => exact isTrue_or_nil e
  | true => exact e
theorem pw_and (ha : PT X a tA) (hb : PW X (.BoolOp .And (b :: rest) pos) tB') : PW X (.BoolOp .And (a :: b :: rest) pos) (tAnd tA tB') := by
  intro wh pins s σ H Q I h
  refine isTrue_and (thn (ha pins s σ H _ I h) fun c s1 ⟨H1, I1, q1⟩ => ?_)
  cases c with
  | true => exact hb wh pins s1 σ H1 Q I1 q1
  | false => exact ⟨H1, I1, q1⟩
theorem pw_or (ha : PT X a tA) (hb : PW X (.BoolOp .Or (b :: rest) pos) tB') : PW X (.BoolOp .Or (a :: b :: rest) pos) (tOr tA tB') := by
  intro wh pins s σ H Q I h
  refine isTrue_or (thn (ha pins s σ H _ I h) fun c s1 ⟨H1, I1, q1⟩ => ?_)
  cases c with
  | true => exact ⟨H1, I1, q1⟩
  | false => exact hb wh pins s1 σ H1 Q I1 q1
theorem pt_not (ha : PT X a tA) : PT X (.UnaryOp .Not a pos) (tNot tA) := by
  intro pins s σ H Q I h
  exact isTrue_not (ha pins s σ H (fun c H1 => Q (!c) H1) I h)
/-- .. as values (bools) -/
def tAndV (ta tb : TE) : TE := fun σ H Q => ta σ H fun x H1 => ∃ c, x = .bl c ∧ if c = true then tb σ H1 Q else Q (.bl false) H1
theorem pe_one {op} {t : TE} (h : PE X a t) : PE X (.BoolOp op [a] pos) t := fun pins s σ H Q I hw => BoolOp_one (h pins s σ H Q I hw)
theorem pe_and (ha : PE X a ta) (hb : PE X (.BoolOp .And (b :: rest) pos) tb) : PE X (.BoolOp .And (a :: b :: rest) pos) (tAndV ta tb) := by
  intro pins s σ H Q I h
  refine BoolOp_and (thn (ha pins s σ H _ I h) fun v s1 ⟨x, H1, I1, r1, q1⟩ => ?_)
  obtain ⟨c, rfl, q1⟩ := q1
  cases r1
  refine wpAny_truthy_bool ?_
  cases c with
  | true => exact hb pins s1 σ H1 Q I1 q1
  | false => exact ⟨.bl false, H1, I1, rfl, q1⟩
end
end L2

namespace L2
open PySem PySem.Spec PyProof.Rows

/-! ### a list, a tuple that is read: tracked, frozen, or an object of the module -/
def SqL (K : PySem.W.Frag) (H : Hp) (a : Addr) (xs : List V) : Prop :=
  Rd H a (.lst xs) ∨
    ∃ (o : Obj) (its : Array Value) (n : Nat), K.lookup a = some o ∧ o.cls = .type "list" ∧ o.dict = none ∧ o.data = .seq its n ∧ its.size ≤ sizeLine ∧ Vals xs its.toList
def SqT (K : PySem.W.Frag) (H : Hp) (a : Addr) (xs : List V) : Prop :=
  Rd H a (.tup xs) ∨
    ∃ (o : Obj) (its : Array Value) (n : Nat), K.lookup a = some o ∧ o.cls = .type "tuple" ∧ o.data = .seq its n ∧ its.size ≤ sizeLine ∧ Vals xs its.toList
def absV : Value → Option V
  | .none => some .non
  | .bool b => some (.bl b)
  | .int i _ => some (.int i)
  | .str x _ => some (.str x)
  | .bytes b _ => some (.byt b)
  | .float b _ => some (.flt b)
  | .ref a => some (.ref a)
  | .type n => some (.ty n)
  | _ => none
theorem RelV.abs {x : V} {u : Value} (r : RelV x u) : absV u = some x := by
  cases x with
  | non => cases r; rfl
  | bl _ => cases r; rfl
  | int _ => obtain ⟨t, rfl⟩ := r; rfl
  | str _ => obtain ⟨t, rfl⟩ := r; rfl
  | byt _ => obtain ⟨t, rfl⟩ := r; rfl
  | flt _ => obtain ⟨t, rfl⟩ := r; rfl
  | ref _ => cases r; rfl
  | ty _ => cases r; rfl
theorem RelV.inj {x y : V} {u : Value} (r : RelV x u) (q : RelV y u) : x = y := Option.some.inj (r.abs.symm.trans q.abs)
theorem Vals.inj : ∀ {xs ys : List V} {us : List Value}, Vals xs us → Vals ys us → xs = ys
  | _, _, _, .nil, .nil => rfl
  | _, _, _, .cons r t, .cons r' t' => by rw [r.inj r', Vals.inj t t']
section
variable {X : Cx} {pins : List (Addr × Obj)} {σ : St} {H : Hp} {s : Shared} {a : Addr} {xs ys : List V}
theorem SqL.of {K : PySem.W.Frag} (h : H a = some (.lst xs)) : SqL K H a xs := .inl (.inl h)
theorem SqT.of {K : PySem.W.Frag} (h : H a = some (.tup xs)) : SqT K H a xs := .inl (.inl h)
theorem Inv.list (I : Inv X pins σ H s) (h : SqL X.K H a xs) : ∃ its : List Value, Vals xs its ∧ PlainL s.heap a its.toArray ∧ xs.length ≤ sizeLine := by
  rcases h with h | ⟨o, its, n, hk, hc, hd, hs, hz, r⟩
  · obtain ⟨z, its, n, r, e⟩ := h.ok I.hok
    exact ⟨its, r, ⟨_, n, e, rfl, rfl, rfl⟩, z⟩
  · refine ⟨its.toList, r, ⟨o, n, I.kIn a o hk, hc, hd, by simpa using hs⟩, ?_⟩
    have e := r.length
    simp only [Array.length_toList] at e
    omega
theorem Inv.tuple (I : Inv X pins σ H s) (h : SqT X.K H a xs) : ∃ its : List Value, Vals xs its ∧ IsTup s.heap a its.toArray ∧ xs.length ≤ sizeLine := by
  rcases h with h | ⟨o, its, n, hk, hc, hs, hz, r⟩
  · obtain ⟨z, its, r, p⟩ := h.ok I.hok
    exact ⟨its, r, p, z⟩
  · refine ⟨its.toList, r, ⟨o, I.kIn a o hk, hc, n, by simpa using hs⟩, ?_⟩
    have e := r.length
    simp only [Array.length_toList] at e
    omega
theorem Inv.list_inj (I : Inv X pins σ H s) (h : SqL X.K H a xs) (h' : SqL X.K H a ys) : xs = ys := by
  obtain ⟨its, r, ⟨o, n, e, _, _, d⟩, _⟩ := I.list h
  obtain ⟨its', r', ⟨o', n', e', _, _, d'⟩, _⟩ := I.list h'
  rw [e] at e'; cases e'
  rw [d] at d'
  injection d' with d1 _
  have : its = its' := by simpa using congrArg Array.toList d1
  subst this
  exact r.inj r'
end

/-! ### another wish about exceptions -/
abbrev Cx.wish (X : Cx) (E : Value → Shared → Prop) : Cx := { X with xe := E }
/-- no exception leaves -/
abbrev Cx.nox (X : Cx) : Cx := X.wish fun _ _ => False
theorem Cx.Ok.wish {X : Cx} (ok : X.Ok) (E : Value → Shared → Prop) : (X.wish E).Ok :=
  ⟨ok.mod, ok.kind, ok.glob, ok.blt, ok.above, ok.inj, ok.has, ok.cab, ok.hd, ok.frames, ok.stk, ok.exf, ok.bs, ok.bsz, ok.noex, ok.exfs, ok.funs, ok.frf⟩
theorem Cx.Ok.unwish {X : Cx} {E : Value → Shared → Prop} (ok : (X.wish E).Ok) : X.Ok :=
  ⟨ok.mod, ok.kind, ok.glob, ok.blt, ok.above, ok.inj, ok.has, ok.cab, ok.hd, ok.frames, ok.stk, ok.exf, ok.bs, ok.bsz, ok.noex, ok.exfs, ok.funs, ok.frf⟩
section
variable {X : Cx} {pins : List (Addr × Obj)} {σ : St} {H : Hp} {s : Shared} {E : Value → Shared → Prop}
theorem Inv.wish (I : Inv X pins σ H s) (E : Value → Shared → Prop) : Inv (X.wish E) pins σ H s := ⟨I.ok.wish E, I.os, I.bare, I.base, I.loc, I.cell, I.free, I.freeC, I.pin, I.hok, I.len⟩
theorem Inv.unwish (I : Inv (X.wish E) pins σ H s) : Inv X pins σ H s := ⟨I.ok.unwish, I.os, I.bare, I.base, I.loc, I.cell, I.free, I.freeC, I.pin, I.hok, I.len⟩
theorem SP.unwish {D : Ends} {f : Flow} {s' : Shared} (h : SP (X.wish E) pins D f s') : SP X pins D f s' := by
  cases f with
  | next => obtain ⟨σ', H', I, q⟩ := h; exact ⟨σ', H', I.unwish, q⟩
  | brk => obtain ⟨σ', H', I, q⟩ := h; exact ⟨σ', H', I.unwish, q⟩
  | cont => obtain ⟨σ', H', I, q⟩ := h; exact ⟨σ', H', I.unwish, q⟩
  | ret u => obtain ⟨v, σ', H', I, r, q⟩ := h; exact ⟨v, σ', H', I.unwish, r, q⟩
theorem PSs.nox {st : List Stmt} {t : TS} (h : PSs X.nox st t) : PSs X st t := fun pins s σ H D I hw =>
  wpAny_mono (h pins s σ H D (I.wish _) hw) (fun _ _ q => q.unwish) fun _ _ z => False.elim z
end

/-! ### blocks and small statements -/
section
variable {X : Cx} {st : Stmt} {rest : List Stmt} {t u : TS} {e : Expr} {te : TE} {pos : Pos}
def tNext : TS := fun D σ H => D.nx σ H
def tSeq (t u : TS) : TS := fun D σ H => t { D with nx := u D } σ H
theorem pss_nil : PSs X [] tNext := fun _ _ σ H _ I h => wpAny_execs_nil ⟨σ, H, I, h⟩
theorem pss_cons (h1 : PS X st t) (h2 : PSs X rest u) : PSs X (st :: rest) (tSeq t u) := by
  intro pins s σ H D I h
  refine wpAny_execs_cons (thn (h1 pins s σ H { D with nx := u D } I h) fun f s1 q => ?_)
  cases f with
  | next =>
    obtain ⟨σ', H', I', q⟩ := q
    exact h2 pins s1 σ' H' D I' q
  | ret v => exact q
  | brk => exact q
  | cont => exact q
theorem pss_one (h1 : PS X st t) : PSs X [st] t := by
  intro pins s σ H D I h
  refine wpAny_execs_cons (thn (h1 pins s σ H D I h) fun f s1 q => ?_)
  cases f with
  | next => exact wpAny_execs_nil q
  | ret v => exact q
  | brk => exact q
  | cont => exact q
/-- in a def's body nothing is shown -/
theorem Inv.quiet {pins : List (Addr × Obj)} {σ : St} {H : Hp} {s : Shared} (I : Inv X pins σ H s) : interactive X.env = false := by simp [interactive, I.ok.kind]
/-- an expression whose value is dropped -/
def tDrop (te : TE) : TS := fun D σ H => te σ H fun _ H1 => D.nx σ H1
theorem ps_expr (he : PE X e te) (hs : swapsWith e none pos.line X.env = pure false := by rfl) : PS X (.Expr e pos) (tDrop te) := by
  intro pins s σ H D I h
  exact wpAny_Expr_any (thn (he pins s σ H _ I h) fun v s1 ⟨x, H1, I1, r1, q1⟩ => ⟨σ, H1, I1, q1⟩) I.quiet hs
def tRet (te : TE) : TS := fun D σ H => te σ H D.rt
theorem ps_ret (he : PE X e te) : PS X (.Return (some e) pos) (tRet te) := by
  intro pins s σ H D I h
  exact wpAny_Return_some (thn (he pins s σ H _ I h) fun v s1 ⟨x, H1, I1, r1, q1⟩ => ⟨x, σ, H1, I1, r1, q1⟩)
def tIfS (c : TT) (t u : TS) : TS := fun D σ H => c σ H fun b H1 => if b = true then t D σ H1 else u D σ H1
theorem ps_if {c : Expr} {a b : List Stmt} {tc : TT} (hc : PT X c tc) (ha : PSs X a t) (hb : PSs X b u) : PS X (.If c a b pos) (tIfS tc t u) := by
  intro pins s σ H D I h
  refine wpAny_If (thn (hc pins s σ H _ I h) fun d s1 ⟨H1, I1, q1⟩ => ?_)
  cases d with
  | true => exact ha pins s1 σ H1 D I1 q1
  | false => exact hb pins s1 σ H1 D I1 q1
end

/-! ### targets -/
abbrev TG := V → St → Hp → (St → Hp → Prop) → Prop
abbrev TGs := List V → St → Hp → (St → Hp → Prop) → Prop
def PG (X : Cx) (target : Expr) (t : TG) : Prop :=
  ∀ (pins : List (Addr × Obj)) (s : Shared) (σ : St) (H : Hp) (v : V) (u : Value) (Q : St → Hp → Prop), Inv X pins σ H s → RelV v u → t v σ H Q →
    wpAny (model X.prog X.w) X.A (assign target X.env u) (fun _ s' => ∃ σ' H', Inv X pins σ' H' s' ∧ Q σ' H') X.xe s
/-- several targets, one after another -/
def PGs (X : Cx) (ts : List Expr) (t : TGs) : Prop :=
  ∀ (pins : List (Addr × Obj)) (s : Shared) (σ : St) (H : Hp) (vs : List V) (us : List Value) (Q : St → Hp → Prop), Inv X pins σ H s → Vals vs us → t vs σ H Q →
    wpAny (model X.prog X.w) X.A (assignInOrder ((assignEach ts X.env).map (·.2)) us) (fun _ s' => ∃ σ' H', Inv X pins σ' H' s' ∧ Q σ' H') X.xe s
section
variable {X : Cx} {pos : Pos}
def gName (i : Nat) : TG := fun v σ H Q => Q (σ.set i (some v)) H
theorem pg_name {i : Nat} {x : Str} (hN : X.N.Nodup) (hi : X.N[i]? = some x) (hx : Loc X.env.scope x) (hf : X.fn x = true ∨ X.env.scope.names.lookup x = some .local := by first | exact .inl rfl | exact .inr rfl | assumption) : PG X (.Name x pos) (gName i) := by
  intro pins s σ H v u Q I r h
  exact wpAny_assign_Name (store_ok I hN hi hx r (fun s' I' => ⟨_, H, I', h⟩) hf)
def gNil : TGs := fun vs σ H Q => vs = [] ∧ Q σ H
def gCons (t : TG) (u : TGs) : TGs := fun vs σ H Q => ∃ v r, vs = v :: r ∧ t v σ H fun σ' H' => u r σ' H' Q
theorem pgs_nil : PGs X [] gNil := by
  intro pins s σ H vs us Q I r h
  obtain ⟨e, h⟩ := h
  subst e
  cases r
  exact assignInOrder_nil ⟨σ, H, I, h⟩
theorem pgs_cons {e : Expr} {es : List Expr} {t : TG} {u : TGs} (h1 : PG X e t) (h2 : PGs X es u)
    (hs : (assignEach (e :: es) X.env).map (·.2) = assign e X.env :: (assignEach es X.env).map (·.2) := by rfl) : PGs X (e :: es) (gCons t u) := by
  intro pins s σ H vs us Q I r h
  obtain ⟨v, vr, e1, h⟩ := h
  subst e1
  cases r with
  | cons r rr =>
    rw [hs]
    refine assignInOrder_cons (thn (h1 pins s σ H _ _ _ I r h) fun _ s1 ⟨σ1, H1, I1, q1⟩ => ?_)
    exact h2 pins s1 σ1 H1 _ _ Q I1 rr q1
/-- (a, b, ..) = a tuple of that length -/
def gTup (K : PySem.W.Frag) (n : Nat) (t : TGs) : TG := fun v σ H Q => ∃ a xs, v = .ref a ∧ SqT K H a xs ∧ xs.length = n ∧ t xs σ H Q
theorem pg_tup {es : List Expr} {k : Nat} {t : TGs} {n : Nat} (hc : X.calm = true) (h : PGs X es t)
    (hn : (assignEach es X.env).length = n := by rfl) (hst : (assignEach es X.env).findIdx? (·.1) = none := by rfl) : PG X (.Tuple es k pos) (gTup X.K n t) := by
  intro pins s σ H v u Q I r hw
  obtain ⟨a, xs, e1, hq, hl, hw⟩ := hw
  subst e1
  cases r
  obtain ⟨its, rv, ht, hz⟩ := I.tuple hq
  refine assign_Tuple_tuple (I.ok.hd hc) ht (by simp [hn, ← hl, rv.length]) hst fun h' hx => ?_
  have I1 : Inv X pins σ H { s with heap := h' } := I.kept (t' := s.toks) fun b o e => hx b o (Nat.ne_of_lt (Heap.lt_size e)) e
  exact h pins _ σ H xs _ Q I1 (by simpa using rv) hw
/-- target = value -/
def tAsg (te : TE) (g : TG) : TS := fun D σ H => te σ H fun x H1 => g x σ H1 D.nx
/-- name = value -/
theorem ps_set {i : Nat} {x : Str} {e : Expr} {te : TE} {pos' : Pos} (hN : X.N.Nodup) (hi : X.N[i]? = some x) (hx : Loc X.env.scope x) (he : PE X e te) (hs : swapsWith e (some (.Name x pos')) pos.line X.env = pure false := by rfl) (hf : X.fn x = true ∨ X.env.scope.names.lookup x = some .local := by first | exact .inl rfl | exact .inr rfl | assumption) :
    PS X (.Assign [.Name x pos'] e pos) (tAsg te (gName i)) := by
  intro pins s σ H D I h
  refine wpAny_Assign_Name (thn (he pins s σ H _ I h) fun v s1 ⟨y, H1, I1, r1, q1⟩ => ?_) hs
  exact store_ok I1 hN hi hx r1 (fun s2 I2 => ⟨_, H1, I2, q1⟩) hf
end

/-! ### while -/
section
variable {X : Cx} {pos : Pos}
end

/-! ### what a loop or a comprehension walks -/
/-- at turn i: it yields x (the heap may grow), or it stops -/
structure It where
  go : Nat → Hp → Prop
  yld : Nat → Hp → V → Hp → Prop
  stop : Nat → Hp → Prop
/-- the iterator's own objects may turn: they are not the frame's, not pinned, younger than the entry (or a comprehension's own) -/
def FpOk (X : Cx) (pins : List (Addr × Obj)) (H : Hp) (b : Addr) : Prop :=
  H b = none ∧ b ≠ X.env.locals ∧ b ∉ X.fs ∧ (b ∈ X.ex ∨ X.s_0.heap.objs.size ≤ b) ∧ (∀ x c, X.env.cells.lookup x = some c → c ≠ b) ∧ ∀ p ∈ X.pn ++ pins, p.1 ≠ b
theorem Inv.fpOk {X : Cx} {pins : List (Addr × Obj)} {σ : St} {H H' : Hp} {s : Shared} {b : Addr} (I : Inv X pins σ H s) (hb : s.heap.objs.size ≤ b) (hn : H' b = none) : FpOk X pins H' b := by
  refine ⟨hn, Nat.ne_of_gt (Nat.lt_of_lt_of_le I.lt hb), I.nofs hb, .inr (Nat.le_trans I.sz hb), fun x c e z => ?_, fun p hp z => ?_⟩
  · obtain ⟨v, q⟩ := I.cell x c e
    exact absurd (Nat.lt_of_lt_of_le q.lt (by rw [z]; exact hb)) (Nat.lt_irrefl _)
  · exact absurd (Nat.lt_of_lt_of_le (Heap.lt_size (I.pin p hp).1) (by rw [z]; exact hb)) (Nat.lt_irrefl _)
structure Turn (P : Program) (w : World) (K : PySem.W.Frag) (tg : Expr) (J : It) (fp : List Addr) (it : Addr) (tn : Nat → Heap → Prop) : Prop where
  mem : it ∈ fp
  obj : ∀ i h, tn i h → ∀ b ∈ fp, ∃ o, h.get? b = some o ∧ ∀ v, o.data ≠ .cell v
  keep : ∀ i h h', tn i h → (∀ b ∈ fp, ∀ o, h.get? b = some o → h'.get? b = some o) → tn i h'
  item : ∀ (X : Cx), X.prog = P → X.w = w → X.K = K → X.calm = true → ∀ (i : Nat) (pins : List (Addr × Obj)) (s : Shared) (σ : St) (H : Hp) (E : Value → Shared → Prop), Inv X pins σ H s → (∀ b ∈ fp, FpOk X pins H b) → tn i s.heap → J.go i H →
    wpAny (model P w) X.A (pyNext (.ref it)) (fun r s1 => ∃ u, r = some u ∧
      wpAny (model P w) X.A (letOwnedTupleGo tg (.ref it) u) (fun _ s2 => ∃ x H', Inv X pins σ H' s2 ∧ RelV x u ∧ J.yld i H x H' ∧ tn (i + 1) s2.heap ∧ ∀ b ∈ fp, H' b = none) E s1) E s
  done : ∀ (X : Cx), X.prog = P → X.w = w → X.K = K → X.calm = true → ∀ (i : Nat) (pins : List (Addr × Obj)) (s : Shared) (σ : St) (H : Hp) (E : Value → Shared → Prop), Inv X pins σ H s → (∀ b ∈ fp, FpOk X pins H b) → tn i s.heap → J.stop i H →
    wpAny (model P w) X.A (pyNext (.ref it)) (fun r s1 => r = none ∧ Inv X pins σ H s1) E s
  self : ∀ (A : Around) (i : Nat) (s : Shared) (Q : Value → Shared → Prop) (E : Value → Shared → Prop), tn i s.heap → Q (.ref it) s → wpAny (model P w) A (pyIter (.ref it)) Q E s
abbrev TI := St → Hp → (It → Hp → Prop) → Prop
/-- an iterator has come -/
def PIE (X : Cx) (pins : List (Addr × Obj)) (σ : St) (tg : Expr) (R : It → Hp → Prop) (itv : Value) (s2 : Shared) : Prop :=
  ∃ (it : Addr) (fp : List Addr) (tn : Nat → Heap → Prop) (J : It) (H' : Hp), itv = .ref it ∧ Inv X pins σ H' s2 ∧ Turn X.prog X.w X.K tg J fp it tn ∧ tn 0 s2.heap ∧ (∀ b ∈ fp, FpOk X pins H' b) ∧ R J H'
def PI (X : Cx) (tg iter : Expr) (wi : TI) : Prop :=
  ∀ (pins : List (Addr × Obj)) (s : Shared) (σ : St) (H : Hp) (R : It → Hp → Prop), Inv X pins σ H s → wi σ H R →
    wpAny (model X.prog X.w) X.A (eval iter X.env) (fun v s1 => wpAny (model X.prog X.w) X.A (pyIter v) (PIE X pins σ tg R) X.xe s1) X.xe s

/-- the step ahead of the store is nothing for an iterator that keeps no tuple -/
theorem go_of {M : Model} {A : Around} {E : Value → Shared → Prop} {s : Shared} {tg : Expr} {it : Addr} {u : Value} {o : Obj} {n : String} {vs : Array Value} {Q : Unit → Shared → Prop} (ho : s.heap.get? it = some o) (hc : o.cls = .type n) (hd : o.data = .fields vs)
    (hn : ["enumerate", "zip", "dict_itemiterator", "dict_reverseitemiterator", "odict_iterator", "itertools.zip_longest", "itertools.pairwise"].contains n = false) (hQ : Q () s) : wpAny M A (letOwnedTupleGo tg (.ref it) u) Q E s := by
  unfold letOwnedTupleGo
  cases tg <;> first
    | exact wpAny_pure hQ
    | (cases u <;> first
        | exact wpAny_pure hQ
        | (refine wpAny_bind (wpAny_load ho ?_)
           rw [hc, hd]
           show wpAny M A (if (["enumerate", "zip", "dict_itemiterator", "dict_reverseitemiterator", "odict_iterator", "itertools.zip_longest", "itertools.pairwise"].contains n && vs[0]? == some (rawInt _)) = true then _ else _) Q E s
           rw [if_neg (by intro h; rw [hn, Bool.false_and] at h; cases h)]
           exact wpAny_pure hQ))

/-- the list at a, as it stands at each turn (a loop may append to it) -/
def Itl (K : PySem.W.Frag) (a : Addr) : It :=
  ⟨fun i H => ∃ xs x, SqL K H a xs ∧ xs[i]? = some x, fun i H x H' => H' = H ∧ ∀ xs, SqL K H a xs → xs[i]? = some x, fun i H => ∃ xs, SqL K H a xs ∧ xs.length ≤ i⟩
/-- lo, lo + 1, .. (n of them) -/
def Itr (lo : Int) (n : Nat) : It := ⟨fun i _ => i < n, fun i H x H' => H' = H ∧ x = .int (lo + i), fun i _ => n ≤ i⟩
theorem turn_list {P : Program} {w : World} {K : PySem.W.Frag} {tg : Expr} (a it : Addr) : Turn P w K tg (Itl K a) [it] it (fun i h => h.IsListIter it a i) where
  mem := by simp
  obj := fun i h st b hb => by
    have e : b = it := by simpa using hb
    subst e
    obtain ⟨o, e, c, d⟩ := st
    exact ⟨o, e, fun v z => by rw [d] at z; cases z⟩
  keep := fun i h h' st k => st.at fun o e => k it (by simp) o e
  item := by
    intro X hP hw hK hc i pins s σ H E I hf st hg
    subst hP hw hK
    obtain ⟨xs, x, hq, hx⟩ := hg
    obtain ⟨its, rv, p, hz⟩ := I.list hq
    obtain ⟨u, hu, ru⟩ := rv.get hx
    obtain ⟨f0, f1, f2, f3, f4, f5⟩ := hf it (by simp)
    refine wpAny_pyNext_list_item st p.isList (x := u) (by simpa using hu) fun h' st' sb => ?_
    have I1 : Inv X pins σ H { s with heap := h' } := I.turned (t' := s.toks) (fun b o hb e => (sb.2 b hb).trans e) f0 f1 f3 f4 f5
    obtain ⟨o, e, c, d⟩ := id st'
    exact ⟨u, rfl, go_of (s := { s with heap := h' }) e c d (by decide) ⟨x, H, I1, ru, ⟨rfl, fun ys hy => by rw [I.list_inj hy hq]; exact hx⟩, st', fun b hb => (hf b hb).1⟩⟩
  done := by
    intro X hP hw hK hc i pins s σ H E I hf st hg
    subst hP hw hK
    obtain ⟨xs, hq, hx⟩ := hg
    obtain ⟨its, rv, p, hz⟩ := I.list hq
    obtain ⟨f0, f1, f2, f3, f4, f5⟩ := hf it (by simp)
    have hl := rv.length
    exact wpAny_pyNext_list_end (I.ok.hd hc) st p.isList (by simp; omega) fun h' eb => ⟨rfl, I.turned (t' := s.toks) (fun b o hb e => eb b o hb e) f0 f1 f3 f4 f5⟩
  self := fun _ _ _ _ _ st h => wpAny_pyIter_listiter st h
theorem turn_range {P : Program} {w : World} {K : PySem.W.Frag} {tg : Expr} (it : Addr) (lo : Int) (n : Nat) : Turn P w K tg (Itr lo n) [it] it (fun i h => IsRangeIter h it (lo + (i : Nat) * 1) ((n : Int) - (i : Nat)) 1) where
  mem := by simp
  obj := fun i h st b hb => by
    have e : b = it := by simpa using hb
    subst e
    exact ⟨_, st, fun v z => by
      have z' : Data.fields _ = Data.cell v := z
      cases z'⟩
  keep := fun i h h' st k => k it (by simp) _ st
  item := by
    intro X hP hw hK hc i pins s σ H E I hf st hg
    subst hP hw hK
    obtain ⟨f0, f1, f2, f3, f4, f5⟩ := hf it (by simp)
    have W := Walks.range (prog := X.prog) (w := X.w) (I.ok.hd hc) it lo 1 n
    refine W.item i s _ _ hg st fun v h' tk hv st' kk => ?_
    obtain ⟨t, rfl⟩ := hv
    have I1 : Inv X pins σ H { s with heap := h', toks := tk } := I.turned (fun b o hb e => kk b o (by simpa using hb) e) f0 f1 f3 f4 f5
    refine ⟨_, rfl, go_of (s := { s with heap := h', toks := tk }) (n := "range_iterator") st' rfl rfl (by decide) ⟨.int (lo + i), H, I1, ⟨t, ?_⟩, ⟨rfl, rfl⟩, st', fun b hb => (hf b hb).1⟩⟩
    rw [Int.mul_one]
  done := by
    intro X hP hw hK hc i pins s σ H E I hf st hg
    subst hP hw hK
    obtain ⟨f0, f1, f2, f3, f4, f5⟩ := hf it (by simp)
    exact wpAny_pyNext_range_end (I.ok.hd hc) st (by have : n ≤ i := hg; omega) fun h' eb => ⟨rfl, I.turned (t' := s.toks) (fun b o hb e => eb b o hb e) f0 f1 f3 f4 f5⟩
  self := fun _ _ _ _ _ st h => wpAny_pyIter_rangeiter st h
end L2

namespace L2
open PySem PySem.Spec PyProof.Rows
section
variable {X : Cx} {tg : Expr}
def iList (K : PySem.W.Frag) (tl : TE) : TI := fun σ H R => tl σ H fun x H1 => ∃ a, x = .ref a ∧ (∃ xs, SqL K H1 a xs) ∧ R (Itl K a) H1
theorem pi_list {l : Expr} {tl : TE} (hl : PE X l tl) : PI X tg l (iList X.K tl) := by
  intro pins s σ H R I h
  refine thn (hl pins s σ H _ I h) fun v s1 ⟨x, H1, I1, r1, q1⟩ => ?_
  obtain ⟨a, e, ⟨xs, hq⟩, q⟩ := q1
  subst e
  cases r1
  obtain ⟨its, rv, p, hz⟩ := I1.list hq
  refine wpAny_pyIter_list p.isList ?_
  refine ⟨s1.heap.objs.size, [s1.heap.objs.size], _, _, H1, rfl, I1.kept (t' := s1.toks) fun b o e => Heap.get?_push_of_some _ e, turn_list a _, ⟨_, Heap.get?_push_size _ rfl, rfl, rfl⟩, fun b hb => ?_, q⟩
  have e : b = s1.heap.objs.size := by simpa using hb
  subst e
  exact I1.fpOk (Nat.le_refl _) (I1.hok.fresh (Nat.le_refl _))
/-- a range object just made, walked -/
theorem range_it {pins : List (Addr × Obj)} {σ : St} {H : Hp} {s : Shared} {R : It → Hp → Prop} {E : Value → Shared → Prop} {lo hi : Int} {t u v : Tok} {tk : Nat} (I : Inv X pins σ H s) (h1 : -(2 ^ 62) ≤ lo) (h2 : lo < 2 ^ 62) (h3 : -(2 ^ 62) ≤ hi) (h4 : hi < 2 ^ 62)
    (q : R (Itr lo (hi - lo).toNat) H) : wpAny (model X.prog X.w) X.A (pyIter (.ref s.heap.objs.size)) (PIE X pins σ tg R) E { s with heap := s.heap.push { cls := .type "range", data := .fields #[.int lo t, .int hi u, .int 1 v] }, toks := tk } := by
  refine wpAny_pyIter_range (IsRange.new ..) (small_one h1 h2 h3 h4) ?_
  have I1 : Inv X pins σ H { s with heap := s.heap.push { cls := .type "range", data := .fields #[.int lo t, .int hi u, .int 1 v] }, toks := tk } := I.kept fun b o e => Heap.get?_push_of_some _ e
  refine ⟨(s.heap.push { cls := .type "range", data := .fields #[.int lo t, .int hi u, .int 1 v] }).objs.size, [(s.heap.push { cls := .type "range", data := .fields #[.int lo t, .int hi u, .int 1 v] }).objs.size], _, _, H, rfl,
    I1.kept (t' := tk) fun b o e => Heap.get?_push_of_some _ e, turn_range _ lo (hi - lo).toNat, ?_, fun b hb => ?_, q⟩
  · have e1 : lo + ((0 : Nat) : Int) * 1 = lo := by simp
    have e2 : (((hi - lo).toNat : Nat) : Int) - ((0 : Nat) : Int) = Builtin.Range.rangeSize lo hi 1 := by rw [rangeSize_one]; split <;> omega
    show IsRangeIter _ _ (lo + ((0 : Nat) : Int) * 1) ((((hi - lo).toNat : Nat) : Int) - ((0 : Nat) : Int)) 1
    rw [e1, e2]
    exact Heap.get?_push_size _ rfl
  · have e : b = (s.heap.push { cls := .type "range", data := .fields #[.int lo t, .int hi u, .int 1 v] }).objs.size := by simpa using hb
    subst e
    exact I1.fpOk (Nat.le_refl _) (I1.hok.fresh (Nat.le_refl _))
def iRng1 (ta : TA) : TI := fun σ H R => ta σ H fun vs H1 => ∃ j : Int, vs = [.int j] ∧ -(2 ^ 62) ≤ j ∧ j < 2 ^ 62 ∧ R (Itr 0 j.toNat) H1
theorem pi_range1 {a : Expr} {ta : TA} {p pos : Pos} (hg : Gl X "range") (hm : X.mg "range" = none) (ha : PA X [a] ta) (hs : starEach [a] X.env = [(false, eval a X.env)] := by rfl) : PI X tg (.Call (.Name "range" p) [a] [] pos) (iRng1 ta) := by
  intro pins s σ H R I h
  refine Call_ (ld_blt I hg hm boot_range (PyProof.Rows.callWith_type1 (thn (ha pos pins s σ H _ I h) fun us s1 ⟨vs, H1, I1, r1, q1⟩ => ?_) hs rfl))
  obtain ⟨j, e, q1, q2, q⟩ := q1
  subst e
  cases r1 with
  | cons r rr =>
    cases rr
    obtain ⟨t, rfl⟩ := r
    exact call_range_1 (range_it I1 (by omega) (by omega) q1 q2 (by simpa using q))

/-! ### for -/
/-- W: the invariant by the turn and a measure; N: what the body is to reach -/
def tFor (wi : TI) (g : TG) (tb : TS) : TS := fun D σ H => wi σ H fun J H1 => ∃ W : Nat → Nat → St → Hp → Prop, (∃ m, W 0 m σ H1) ∧ ∀ i m σ H, W i m σ H →
  (J.stop i H ∧ D.nx σ H) ∨ (J.go i H ∧ ∃ N : St → Hp → Prop, (∀ σ' H', N σ' H' → ∃ m', m' < m ∧ W (i + 1) m' σ' H') ∧ ∀ x H', J.yld i H x H' → g x σ H' fun σ2 H2 => tb { D with nx := N, ct := N, bk := D.nx } σ2 H2)
/-- the records at fp as they stand -/
def pinsAt (fp : List Addr) (h : Heap) : List (Addr × Obj) := fp.filterMap fun b => (h.get? b).map fun o => (b, o)
theorem mem_pinsAt {fp : List Addr} {h : Heap} {b : Addr} {o : Obj} (hb : b ∈ fp) (e : h.get? b = some o) : (b, o) ∈ pinsAt fp h := List.mem_filterMap.mpr ⟨b, hb, by rw [e]; rfl⟩
theorem of_pinsAt {fp : List Addr} {h : Heap} {p : Addr × Obj} (hp : p ∈ pinsAt fp h) : p.1 ∈ fp ∧ h.get? p.1 = some p.2 := by
  obtain ⟨b, hb, e⟩ := List.mem_filterMap.mp hp
  cases q : h.get? b with
  | none => rw [q] at e; cases e
  | some o =>
    rw [q] at e
    have e' : (b, o) = p := Option.some.inj e
    subst e'
    exact ⟨hb, q⟩
theorem Inv.pinned {pins : List (Addr × Obj)} {σ : St} {H : Hp} {s : Shared} {fp : List Addr} (I : Inv X pins σ H s) (hf : ∀ b ∈ fp, FpOk X pins H b) (ho : ∀ b ∈ fp, ∃ o, s.heap.get? b = some o ∧ ∀ v, o.data ≠ .cell v) : Inv X (pins ++ pinsAt fp s.heap) σ H s :=
  I.pins_of fun p hp => (List.mem_append.mp hp).elim (fun z => I.pin p (List.mem_append_right _ z)) fun z => by
    obtain ⟨hb, e⟩ := of_pinsAt z
    obtain ⟨f0, f1, f2, _⟩ := hf p.1 hb
    obtain ⟨o, e', d⟩ := ho p.1 hb
    rw [e] at e'; cases e'
    exact ⟨e, f0, f1, f2, d⟩
theorem Inv.unpinned {pins pl : List (Addr × Obj)} {σ : St} {H : Hp} {s : Shared} (I : Inv X (pins ++ pl) σ H s) : Inv X pins σ H s := I.pins_of fun p hp => I.pin p (List.mem_append_right _ (List.mem_append_left _ hp))
theorem ps_for {iter : Expr} {body : List Stmt} {wi : TI} {g : TG} {tb : TS} {pos : Pos} (hp : PassesOwn (model X.prog X.w) X.A X.env X.xe) (hc : X.calm = true) (hi : PI X tg iter wi) (hg : PG X tg g) (hb : PSs X body tb)
    (hs : ∀ x, foldedSetIterable iter X.env x = pure x := by intro _; rfl) : PS X (.For tg iter body [] pos) (tFor wi g tb) := by
  intro pins s σ H D I h
  refine wpAny_For (thn (hi pins s σ H _ I h) fun v s1 h1 => thn h1 fun itv s2 h2 => ?_) hs
  obtain ⟨it, fp, tn, J, H2, e, I2, T, st2, f2, W, ⟨m0, w0⟩, turn⟩ := h2
  subst e
  -- what stays true of the iterator's objects through the loop
  have stat : ∀ {H' : Hp}, (∀ b ∈ fp, H' b = none) → ∀ b ∈ fp, FpOk X pins H' b := fun hn b hb => ⟨hn b hb, (f2 b hb).2⟩
  refine codeAny_forLoop_any (fun n s' => ∃ i σ' H', Inv X pins σ' H' s' ∧ tn i s'.heap ∧ (∀ b ∈ fp, H' b = none) ∧ W i n σ' H') ?_ m0 ⟨0, σ, H2, I2, st2, fun b hb => (f2 b hb).1, w0⟩
  rintro n s3 ⟨i, σ3, H3, I3, st3, fr3, w3⟩
  rcases turn i n σ3 H3 w3 with ⟨stop, qn⟩ | ⟨go, N, hN, step⟩
  · refine wpAny_passesOwn hp (thn (T.done X rfl rfl rfl hc i pins s3 σ3 H3 X.xe I3 (stat fr3) st3 stop) fun r s4 ⟨hr, I4⟩ => ?_)
    subst hr
    exact wpAny_execs_nil ⟨σ3, H3, I4, qn⟩
  · refine wpAny_passesOwn hp (thn (T.item X rfl rfl rfl hc i pins s3 σ3 H3 X.xe I3 (stat fr3) st3 go) fun r s4 ⟨u, hr, h4⟩ => ?_)
    subst hr
    refine wpAny_passesOwn hp (thn h4 fun _ s5 ⟨x, H5, I5, r5, y5, st5, fr5⟩ => ?_)
    have I5' := I5.pinned (stat fr5) (T.obj _ _ st5)
    refine wpAny_passesOwn hp (thn (hg _ s5 σ3 H5 x u _ I5' r5 (step x H5 y5)) fun _ s6 ⟨σ6, H6, I6, q6⟩ => ?_)
    refine wpAny_passesOwn hp (thn (hb _ s6 σ6 H6 _ I6 q6) fun f s7 q7 => ?_)
    have again : ∀ {σ7 : St} {H7 : Hp}, Inv X (pins ++ pinsAt fp s5.heap) σ7 H7 s7 → N σ7 H7 → ∃ m, m < n ∧ ∃ i σ' H', Inv X pins σ' H' s7 ∧ tn i s7.heap ∧ (∀ b ∈ fp, H' b = none) ∧ W i m σ' H' := fun {σ7 H7} I7 n7 => by
      obtain ⟨m', hm, w7⟩ := hN σ7 H7 n7
      refine ⟨m', hm, i + 1, σ7, H7, I7.unpinned, T.keep _ _ _ st5 fun b hb o e => (I7.pin (b, o) (List.mem_append_right _ (List.mem_append_right _ (mem_pinsAt hb e)))).1, fun b hb => ?_, w7⟩
      obtain ⟨o, e, d⟩ := T.obj _ _ st5 b hb
      exact (I7.pin (b, o) (List.mem_append_right _ (List.mem_append_right _ (mem_pinsAt hb e)))).2.1
    cases f with
    | next => obtain ⟨σ7, H7, I7, n7⟩ := q7; exact again I7 n7
    | cont => obtain ⟨σ7, H7, I7, n7⟩ := q7; exact again I7 n7
    | brk => obtain ⟨σ7, H7, I7, q7⟩ := q7; exact ⟨σ7, H7, I7.unpinned, q7⟩
    | ret v => obtain ⟨x7, σ7, H7, I7, r7, q7⟩ := q7; exact ⟨x7, σ7, H7, I7.unpinned, r7, q7⟩
end

/-! ### the forms one uses -/
/-- over a list that the body leaves as it is -/
theorem for_list {K : PySem.W.Frag} {a : Addr} {xs : List V} {g : TG} {tb : TS} {D : Ends} {σ : St} {H : Hp} (Pv : Nat → St → Hp → Prop) (h0 : Pv 0 σ H) (hl : ∀ i σ H, i ≤ xs.length → Pv i σ H → SqL K H a xs)
    (hs : ∀ i x σ H, xs[i]? = some x → Pv i σ H → g x σ H fun σ2 H2 => tb { D with nx := Pv (i + 1), ct := Pv (i + 1), bk := D.nx } σ2 H2) (hd : ∀ σ H, Pv xs.length σ H → D.nx σ H) :
    ∃ W : Nat → Nat → St → Hp → Prop, (∃ m, W 0 m σ H) ∧ ∀ i m σ H, W i m σ H →
      ((Itl K a).stop i H ∧ D.nx σ H) ∨ ((Itl K a).go i H ∧ ∃ N : St → Hp → Prop, (∀ σ' H', N σ' H' → ∃ m', m' < m ∧ W (i + 1) m' σ' H') ∧ ∀ x H', (Itl K a).yld i H x H' → g x σ H' fun σ2 H2 => tb { D with nx := N, ct := N, bk := D.nx } σ2 H2) := by
  refine ⟨fun i m σ H => m = xs.length - i ∧ i ≤ xs.length ∧ Pv i σ H, ⟨xs.length, by simp, Nat.zero_le _, h0⟩, ?_⟩
  rintro i m σ H ⟨rfl, hi, p⟩
  have q := hl i σ H hi p
  by_cases hlt : i < xs.length
  · refine .inr ⟨⟨xs, xs[i], q, by simp [hlt]⟩, Pv (i + 1), fun σ' H' p' => ⟨xs.length - (i + 1), by omega, rfl, hlt, p'⟩, fun x H' y => ?_⟩
    obtain ⟨e, y⟩ := y
    subst e
    exact hs i x σ _ (y xs q) p
  · have e : i = xs.length := by omega
    subst e
    exact .inl ⟨⟨xs, q, Nat.le_refl _⟩, hd σ H p⟩
end L2

namespace L2
open PySem PySem.Spec PyProof.Rows

abbrev R2 := V → V → Hp → VK → Prop
/-- a two-place operation on values: f is binaryOp op, inplaceOp op or compareOp op -/
def OpR (X : Cx) (f : Value → Value → Sem Value) (r : R2) : Prop :=
  ∀ (pins : List (Addr × Obj)) (s : Shared) (σ : St) (H : Hp) (x y : V) (v u : Value) (Q : VK), Inv X pins σ H s → RelV x v → RelV y u → r x y H Q →
    wpAny (model X.prog X.w) X.A (f v u) (EP X pins σ Q) X.xe s
/-- a one-place operation -/
def UnR (X : Cx) (f : Value → Sem Value) (r : V → Hp → VK → Prop) : Prop :=
  ∀ (pins : List (Addr × Obj)) (s : Shared) (σ : St) (H : Hp) (x : V) (v : Value) (Q : VK), Inv X pins σ H s → RelV x v → r x H Q →
    wpAny (model X.prog X.w) X.A (f v) (EP X pins σ Q) X.xe s
/-- a call of a value that is known (a builtin, a type) with values -/
def CallR (X : Cx) (f : Value) (r : List V → Hp → VK → Prop) : Prop :=
  ∀ (pins : List (Addr × Obj)) (s : Shared) (σ : St) (H : Hp) (xs : List V) (us : List Value) (Q : VK), Inv X pins σ H s → Vals xs us → r xs H Q →
    wpAny (model X.prog X.w) X.A (call f us) (EP X pins σ Q) X.xe s

def tOp (r : R2) (ta tb : TE) : TE := fun σ H Q => ta σ H fun x H1 => tb σ H1 fun y H2 => r x y H2 Q
def tUn (r : V → Hp → VK → Prop) (ta : TE) : TE := fun σ H Q => ta σ H fun x H1 => r x H1 Q
/-- ints in, under C, and a value out -/
def rI (C : Int → Int → Prop) (g : Int → Int → V) : R2 := fun x y H Q => ∃ i j, x = .int i ∧ y = .int j ∧ C i j ∧ Q (g i j) H
def rI0 (g : Int → Int → V) : R2 := fun x y H Q => ∃ i j, x = .int i ∧ y = .int j ∧ Q (g i j) H
def rU (g : Int → V) : V → Hp → VK → Prop := fun x H Q => ∃ i, x = .int i ∧ Q (g i) H

section
variable {X : Cx} {a b c : Expr} {ta tb tc : TE} {pos : Pos}

theorem binT (ha : PE X a ta) (hb : PE X b tb) {pins : List (Addr × Obj)} {s : Shared} {σ : St} {H : Hp} {R : V → V → Hp → Prop} (I : Inv X pins σ H s)
    (h : ta σ H fun x H1 => tb σ H1 fun y H2 => R x y H2) {Q : Value → Shared → Prop} {f : Value → Value → Sem Value}
    (hf : ∀ v u s2 x y H2, Inv X pins σ H2 s2 → RelV x v → RelV y u → R x y H2 → wpAny (model X.prog X.w) X.A (f v u) Q X.xe s2) :
    wpAny (model X.prog X.w) X.A (eval a X.env) (fun v s₁ => wpAny (model X.prog X.w) X.A (eval b X.env) (fun u s₂ => wpAny (model X.prog X.w) X.A (f v u) Q X.xe s₂) X.xe s₁) X.xe s := by
  refine thn (ha pins s σ H _ I h) fun v s1 ⟨x, H1, I1, r1, q1⟩ => ?_
  refine thn (hb pins s1 σ H1 _ I1 q1) fun u s2 ⟨y, H2, I2, r2, q2⟩ => ?_
  exact hf v u s2 x y H2 I2 r1 r2 q2

theorem pe_op {op : Operator} {r : R2} (ho : OpR X (binaryOp op) r) (ha : PE X a ta) (hb : PE X b tb) : PE X (.BinOp a op b pos) (tOp r ta tb) := by
  intro pins s σ H Q I h
  exact wpAny_BinOp (binT ha hb I h fun v u s2 x y H2 I2 rx ry q => ho pins s2 σ H2 x y v u Q I2 rx ry q)
theorem pe_un {op : UnaryOp} {r : V → Hp → VK → Prop} (ho : UnR X (unaryOp op) r) (ha : PE X a ta) : PE X (.UnaryOp op a pos) (tUn r ta) := by
  intro pins s σ H Q I h
  exact UnaryOp_ (thn (ha pins s σ H _ I h) fun v s1 ⟨x, H1, I1, r1, q1⟩ => ho pins s1 σ H1 x v Q I1 r1 q1)

/-! ### ints -/
theorem opI {f : Value → Value → Sem Value} {C : Int → Int → Prop} {g : Int → Int → Int}
    (rule : ∀ (i j : Int) (t u : Tok) (s : Shared) (Q : Value → Shared → Prop) (E : Value → Shared → Prop), C i j → Q (.int (g i j) s.toks) { s with toks := s.toks + 1 } → wpAny (model X.prog X.w) X.A (f (.int i t) (.int j u)) Q E s) :
    OpR X f (rI C fun i j => .int (g i j)) := by
  intro pins s σ H x y v u Q I rx ry h
  obtain ⟨i, j, rfl, rfl, hc, q⟩ := h
  obtain ⟨t, rfl⟩ := rx
  obtain ⟨t', rfl⟩ := ry
  exact rule i j t t' s _ _ hc ⟨.int (g i j), H, I.tok _, ⟨_, rfl⟩, q⟩
theorem opI0 {f : Value → Value → Sem Value} {g : Int → Int → Int}
    (rule : ∀ (i j : Int) (t u : Tok) (s : Shared) (Q : Value → Shared → Prop) (E : Value → Shared → Prop), Q (.int (g i j) s.toks) { s with toks := s.toks + 1 } → wpAny (model X.prog X.w) X.A (f (.int i t) (.int j u)) Q E s) :
    OpR X f (rI0 fun i j => .int (g i j)) := by
  intro pins s σ H x y v u Q I rx ry h
  obtain ⟨i, j, rfl, rfl, q⟩ := h
  obtain ⟨t, rfl⟩ := rx
  obtain ⟨t', rfl⟩ := ry
  exact rule i j t t' s _ _ ⟨.int (g i j), H, I.tok _, ⟨_, rfl⟩, q⟩
theorem opB0 {f : Value → Value → Sem Value} {g : Int → Int → Bool}
    (rule : ∀ (i j : Int) (t u : Tok) (s : Shared) (Q : Value → Shared → Prop) (E : Value → Shared → Prop), Q (.bool (g i j)) s → wpAny (model X.prog X.w) X.A (f (.int i t) (.int j u)) Q E s) :
    OpR X f (rI0 fun i j => .bl (g i j)) := by
  intro pins s σ H x y v u Q I rx ry h
  obtain ⟨i, j, rfl, rfl, q⟩ := h
  obtain ⟨t, rfl⟩ := rx
  obtain ⟨t', rfl⟩ := ry
  exact rule i j t t' s _ _ ⟨.bl (g i j), H, I, rfl, q⟩

def CMul (i j : Int) : Prop := (-(2 ^ 64) < i ∧ i < 2 ^ 64) ∨ (-(2 ^ 64) < j ∧ j < 2 ^ 64)
theorem CMul.ok {i j : Int} (h : CMul i j) : IntMulOk i j := by
  rcases h with ⟨h1, h2⟩ | ⟨h1, h2⟩
  · exact .of_left (intBits_le_64 h1 h2)
  · exact .of_right (intBits_le_64 h1 h2)

theorem op_add : OpR X (binaryOp .Add) (rI0 fun i j => .int (i + j)) := opI0 fun _ _ _ _ _ _ _ q => add_int q
theorem op_sub : OpR X (binaryOp .Sub) (rI0 fun i j => .int (i - j)) := opI0 fun _ _ _ _ _ _ _ q => sub_int q
theorem op_mul : OpR X (binaryOp .Mult) (rI CMul fun i j => .int (i * j)) := opI fun _ _ _ _ _ _ _ hc q => mul_int q hc.ok


theorem unI {f : Value → Sem Value} {g : Int → Int}
    (rule : ∀ (i : Int) (t : Tok) (s : Shared) (Q : Value → Shared → Prop) (E : Value → Shared → Prop), Q (.int (g i) s.toks) { s with toks := s.toks + 1 } → wpAny (model X.prog X.w) X.A (f (.int i t)) Q E s) :
    UnR X f (rU fun i => .int (g i)) := by
  intro pins s σ H x v Q I rx h
  obtain ⟨i, rfl, q⟩ := h
  obtain ⟨t, rfl⟩ := rx
  exact rule i t s _ _ ⟨.int (g i), H, I.tok _, ⟨_, rfl⟩, q⟩
theorem un_neg : UnR X (unaryOp .USub) (rU fun i => .int (-i)) := unI fun _ _ _ _ _ q => neg_int q

/-! ### bools among ints: n += (a < b) -/
end

/-! ### comparisons -/
/-- the scalars that == tells apart as data does -/
def scal : V → V → Bool
  | .non, .non => true | .non, .int _ => true | .int _, .non => true | .non, .bl _ => true | .bl _, .non => true | .non, .str _ => true | .str _, .non => true
  | .int _, .int _ => true | .bl _, .bl _ => true | .str _, .str _ => true | .byt _, .byt _ => true
  | .int _, .str _ => true | .str _, .int _ => true | .bl _, .str _ => true | .str _, .bl _ => true
  | _, _ => false
def rEq : R2 := fun x y H Q => scal x y = true ∧ Q (.bl (decide (x = y))) H
def rNe : R2 := fun x y H Q => scal x y = true ∧ Q (.bl (!decide (x = y))) H

theorem dec_int {i j : Int} : decide (V.int i = V.int j) = (i == j) := by
  rw [Bool.eq_iff_iff]
  simp
theorem dec_bl {i j : Bool} : decide (V.bl i = V.bl j) = (i == j) := by
  rw [Bool.eq_iff_iff]
  simp
theorem dec_str {i j : Str} : decide (V.str i = V.str j) = (i == j) := by
  rw [Bool.eq_iff_iff]
  simp
theorem dec_byt {i j : Array UInt8} : decide (V.byt i = V.byt j) = (i.toList == j.toList) := by
  rw [Bool.eq_iff_iff]
  cases i
  cases j
  simp

section
variable {X : Cx} {a b c : Expr} {ta tb tc : TE} {pos : Pos}
theorem fin_bl {pins : List (Addr × Obj)} {σ : St} {H : Hp} {s : Shared} {Q : VK} {k k' : Bool} (I : Inv X pins σ H s) (q : Q (.bl k) H) (e : k = k') : EP X pins σ Q (.bool k') s := by
  subst e
  exact ⟨.bl k, H, I, rfl, q⟩
theorem op_eq : OpR X (compareOp .Eq) rEq := by
  intro pins s σ H x y v u Q I rx ry h
  obtain ⟨hs, q⟩ := h
  cases x with
  | non =>
    cases rx
    cases y with
    | non => cases ry; exact PySem.EqNone.eq_none_none (fin_bl I q (by simp))
    | bl j => cases ry; exact PySem.EqNone.eq_none_bool (fin_bl I q (by simp))
    | int j => obtain ⟨t', rfl⟩ := ry; exact PySem.EqNone.eq_none_int (fin_bl I q (by simp))
    | str j => obtain ⟨t', rfl⟩ := ry; exact PySem.EqNone.eq_none_str (fin_bl I q (by simp))
    | _ => exact absurd (show false = true from hs) Bool.false_ne_true
  | bl i =>
    cases rx
    cases y with
    | non => cases ry; exact PySem.EqNone.eq_bool_none (fin_bl I q (by simp))
    | bl j => cases ry; exact eq_bool (fin_bl I q dec_bl)
    | str j => obtain ⟨t', rfl⟩ := ry; exact PySem.EqMixed.eq_bool_str (fin_bl I q (by simp))
    | _ => exact absurd (show false = true from hs) Bool.false_ne_true
  | int i =>
    obtain ⟨t, rfl⟩ := rx
    cases y with
    | non => cases ry; exact PySem.EqNone.eq_int_none (fin_bl I q (by simp))
    | int j => obtain ⟨t', rfl⟩ := ry; exact eq_int (fin_bl I q dec_int)
    | str j => obtain ⟨t', rfl⟩ := ry; exact PySem.EqMixed.eq_int_str (fin_bl I q (by simp))
    | _ => exact absurd (show false = true from hs) Bool.false_ne_true
  | str i =>
    obtain ⟨t, rfl⟩ := rx
    cases y with
    | non => cases ry; exact PySem.EqNone.eq_str_none (fin_bl I q (by simp))
    | bl j => cases ry; exact PySem.EqMixed.eq_str_bool (fin_bl I q (by simp))
    | int j => obtain ⟨t', rfl⟩ := ry; exact PySem.EqMixed.eq_str_int (fin_bl I q (by simp))
    | str j => obtain ⟨t', rfl⟩ := ry; exact eq_str (fin_bl I q dec_str)
    | _ => exact absurd (show false = true from hs) Bool.false_ne_true
  | byt i =>
    obtain ⟨t, rfl⟩ := rx
    cases y with
    | byt j => obtain ⟨t', rfl⟩ := ry; exact PySem.W.eq_bytes (fin_bl I q dec_byt)
    | _ => exact absurd (show false = true from hs) Bool.false_ne_true
  | _ => cases y <;> exact absurd (show false = true from hs) Bool.false_ne_true
theorem op_ne : OpR X (compareOp .NotEq) rNe := by
  intro pins s σ H x y v u Q I rx ry h
  obtain ⟨hs, q⟩ := h
  cases x with
  | non =>
    cases rx
    cases y with
    | non => cases ry; exact PySem.EqNone.ne_none_none (fin_bl I q (by simp))
    | bl j => cases ry; exact PySem.EqNone.ne_none_bool (fin_bl I q (by simp))
    | int j => obtain ⟨t', rfl⟩ := ry; exact PySem.EqNone.ne_none_int (fin_bl I q (by simp))
    | str j => obtain ⟨t', rfl⟩ := ry; exact PySem.EqNone.ne_none_str (fin_bl I q (by simp))
    | _ => exact absurd (show false = true from hs) Bool.false_ne_true
  | bl i =>
    cases rx
    cases y with
    | non => cases ry; exact PySem.EqNone.ne_bool_none (fin_bl I q (by simp))
    | bl j => cases ry; exact ne_bool (fin_bl I q (congrArg not dec_bl))
    | str j => obtain ⟨t', rfl⟩ := ry; exact PySem.EqMixed.ne_bool_str (fin_bl I q (by simp))
    | _ => exact absurd (show false = true from hs) Bool.false_ne_true
  | int i =>
    obtain ⟨t, rfl⟩ := rx
    cases y with
    | non => cases ry; exact PySem.EqNone.ne_int_none (fin_bl I q (by simp))
    | int j => obtain ⟨t', rfl⟩ := ry; exact ne_int (fin_bl I q (congrArg not dec_int))
    | str j => obtain ⟨t', rfl⟩ := ry; exact PySem.EqMixed.ne_int_str (fin_bl I q (by simp))
    | _ => exact absurd (show false = true from hs) Bool.false_ne_true
  | str i =>
    obtain ⟨t, rfl⟩ := rx
    cases y with
    | non => cases ry; exact PySem.EqNone.ne_str_none (fin_bl I q (by simp))
    | bl j => cases ry; exact PySem.EqMixed.ne_str_bool (fin_bl I q (by simp))
    | int j => obtain ⟨t', rfl⟩ := ry; exact PySem.EqMixed.ne_str_int (fin_bl I q (by simp))
    | str j => obtain ⟨t', rfl⟩ := ry; exact ne_str (fin_bl I q (congrArg not dec_str))
    | _ => exact absurd (show false = true from hs) Bool.false_ne_true
  | byt i =>
    obtain ⟨t, rfl⟩ := rx
    cases y with
    | byt j => obtain ⟨t', rfl⟩ := ry; exact PySem.W.ne_bytes (fin_bl I q (congrArg not dec_byt))
    | _ => exact absurd (show false = true from hs) Bool.false_ne_true
  | _ => cases y <;> exact absurd (show false = true from hs) Bool.false_ne_true

theorem op_lt : OpR X (compareOp .Lt) (rI0 fun i j => .bl (decide (i < j))) := opB0 fun _ _ _ _ _ _ _ q => lt_int q
theorem op_le : OpR X (compareOp .LtE) (rI0 fun i j => .bl (decide (i ≤ j))) := opB0 fun _ _ _ _ _ _ _ q => le_int q
theorem op_gt : OpR X (compareOp .Gt) (rI0 fun i j => .bl (decide (j < i))) := opB0 fun _ _ _ _ _ _ _ q => gt_int q
theorem op_ge : OpR X (compareOp .GtE) (rI0 fun i j => .bl (decide (j ≤ i))) := opB0 fun _ _ _ _ _ _ _ q => ge_int q




theorem nomark (b : Expr) {op : CmpOp} (h : op ≠ .In := by decide) (h2 : op ≠ .NotIn := by decide) : behindInMarks op b = false := by
  have e1 : (op == CmpOp.In) = false := by cases op <;> first | rfl | exact absurd rfl h
  have e2 : (op == CmpOp.NotIn) = false := by cases op <;> first | rfl | exact absurd rfl h2
  cases b <;> simp [behindInMarks, e1, e2]
/-- a comparison as a value; hm: nomark b, or (for in, not in) by with_unfolding_all rfl -/
theorem pe_cmpR {op : CmpOp} {r : R2} (ho : OpR X (compareOp op) r) (ha : PE X a ta) (hb : PE X b tb) (hm : behindInMarks op b = false) : PE X (.Compare a [op] [b] pos) (tOp r ta tb) := by
  intro pins s σ H Q I h
  exact wpAny_Compare1 (binT ha hb I h fun v u s2 x y H2 I2 rx ry q => ho pins s2 σ H2 x y v u Q I2 rx ry q) hm
/-- a reading of a value as a test -/
def tTest (t : TE) : TT := fun σ H Q => t σ H fun x H' => ∃ k, x = .bl k ∧ Q k H'
theorem pt_cmpR {op : CmpOp} {r : R2} (ho : OpR X (compareOp op) r) (ha : PE X a ta) (hb : PE X b tb) (hm : behindInMarks op b = false) : PT X (.Compare a [op] [b] pos) (tTest (tOp r ta tb)) := by
  intro pins s σ H Q I h
  refine wpAny_isTrue_Compare1 (thn (ha pins s σ H _ I h) fun v s1 ⟨x, H1, I1, r1, q1⟩ => thn (hb pins s1 σ H1 _ I1 q1) fun u s2 ⟨y, H2, I2, r2, q2⟩ =>
    thn (ho pins s2 σ H2 x y v u _ I2 r1 r2 q2) fun c s3 ⟨z, H3, I3, r3, k, e, q3⟩ => ?_) hm
  subst e
  cases r3
  exact wpAny_truthy_bool ⟨H3, I3, q3⟩

/-! ### truth -/
theorem line63 : (sizeLine : Nat) < 2 ^ 63 := by rw [sizeLine_eq]; decide

/-! ### strs and bytes -/


/-! ### scalar builtins, by CallR -/
theorem vals1 {x : V} {us : List Value} (r : Vals [x] us) : ∃ u, us = [u] ∧ RelV x u := by
  cases r with
  | cons r1 r2 => cases r2; exact ⟨_, rfl, r1⟩
theorem vals2 {x y : V} {us : List Value} (r : Vals [x, y] us) : ∃ u w', us = [u, w'] ∧ RelV x u ∧ RelV y w' := by
  cases r with
  | cons r1 r2 =>
    cases r2 with
    | cons r3 r4 => cases r4; exact ⟨_, _, rfl, r1, r3⟩
theorem call_abs : CallR X (.builtin "abs") (fun xs H Q => ∃ i, xs = [.int i] ∧ Q (.int (if i < 0 then -i else i)) H) := by
  intro pins s σ H xs us Q I r h
  obtain ⟨i, rfl, q⟩ := h
  obtain ⟨u, rfl, t, rfl⟩ := vals1 r
  exact call_abs_int fun u tk => ⟨.int (if i < 0 then -i else i), H, I.tok _, ⟨_, rfl⟩, q⟩
theorem call_max2 (hc : X.calm = true) : CallR X (.builtin "max") (fun xs H Q => ∃ i j, xs = [.int i, .int j] ∧ Q (.int (if j > i then j else i)) H) := by
  intro pins s σ H xs us Q I r h
  obtain ⟨i, j, rfl, q⟩ := h
  obtain ⟨u, w', rfl, ⟨t, rfl⟩, ⟨t', rfl⟩⟩ := vals2 r
  refine max_two_ints (I.ok.hd hc) fun h' tk k => ⟨_, H, I.kept k, ?_, q⟩
  by_cases hj : j > i
  · rw [if_pos hj, if_pos hj]; exact ⟨_, rfl⟩
  · rw [if_neg hj, if_neg hj]; exact ⟨_, rfl⟩
theorem call_min2 (hc : X.calm = true) : CallR X (.builtin "min") (fun xs H Q => ∃ i j, xs = [.int i, .int j] ∧ Q (.int (if j < i then j else i)) H) := by
  intro pins s σ H xs us Q I r h
  obtain ⟨i, j, rfl, q⟩ := h
  obtain ⟨u, w', rfl, ⟨t, rfl⟩, ⟨t', rfl⟩⟩ := vals2 r
  refine min_two_ints (I.ok.hd hc) fun h' tk k => ⟨_, H, I.kept k, ?_, q⟩
  by_cases hj : j < i
  · rw [if_pos hj, if_pos hj]; exact ⟨_, rfl⟩
  · rw [if_neg hj, if_neg hj]; exact ⟨_, rfl⟩
end
end L2

namespace L2
open PySem PySem.Spec PyProof.Rows

/-! ### an instance, its attributes a map -/



section
variable {prog : Program} {w : World} {A : Around} {E : Value → Shared → Prop} {s : Shared} {K : PySem.W.Frag} {x dx C f : Addr} {mA : Str → Option Value} {name : Str} {v : Value}





end

/-! ### the attributes as a list of pairs -/


section
variable {P : Program} {w : World} {H H' : Hp} {h h' : Heap} {a C dx : Addr} {fs fs' : List (Str × V)}
end

/-! ### what of the text a class must have -/

section
variable {X : Cx} {pins : List (Addr × Obj)} {σ : St} {H : Hp} {s : Shared} {a C dx : Addr} {fs : List (Str × V)} {f : Str} {v : V} {A : Around} {E : Value → Shared → Prop}






end

/-! ### readings and rules -/

section
variable {X : Cx} {o e value : Expr} {f : Str} {pos pos' tpos : Pos} {ta tv : TE}

end

/-! ### isinstance -/
section
variable {X : Cx} {pins : List (Addr × Obj)} {σ : St} {H : Hp} {s : Shared} {A : Around} {E : Value → Shared → Prop} {Q : Value → Shared → Prop} {c : Value} {b : Bool}
end
end L2

namespace L2
open PySem PySem.Spec PyProof.Rows

/-! ### room -/
structure Room (k : Nat) (A : Around) : Prop where
  hd : A.handled = none
  dp : A.depth + 3 * k + 5 < recursionLimit
  un : A.units + 16 * k + 200 < cLine
theorem Room.mono {j k : Nat} {A : Around} (r : Room k A) (h : j ≤ k) : Room j A := ⟨r.hd, by have := r.dp; omega, by have := r.un; omega⟩
theorem Room.deeper {k : Nat} {A : Around} (r : Room (k + 1) A) (env : Env) : Room k (A.deeper env) :=
  ⟨r.hd, by have := r.dp; show A.depth + 1 + 3 * k + 5 < _; omega, by have := r.un; show A.units + 3 + 16 * k + 200 < _; omega⟩
theorem Room.in1 {k : Nat} {A : Around} (r : Room (k + 1) A) : Room k A.in1 :=
  ⟨r.hd, by have := r.dp; show A.depth + 3 * k + 5 < _; omega, by have := r.un; show A.units + 1 + 16 * k + 200 < _; omega⟩
theorem Room.depth {k : Nat} {A : Around} (r : Room k A) : A.depth < recursionLimit := by have := r.dp; omega
theorem Room.units {k : Nat} {A : Around} (r : Room k A) : A.units + 64 < cLine := by have := r.un; omega

/-! ### argument lists and displays -/
def tNil : TA := fun _ H Q => Q [] H
def tCons (ta : TE) (tr : TA) : TA := fun σ H Q => ta σ H fun x H1 => tr σ H1 fun xs H2 => Q (x :: xs) H2
section
variable {X : Cx} {e : Expr} {es : List Expr} {te : TE} {t : TA} {pos : Pos}
theorem pa_nil : PA X [] tNil := fun _ _ _ _ H Q I h => Calls.spliced_nil ⟨[], H, I, .nil, h⟩
theorem pa_cons (ha : PE X e te) (hr : PA X es t) (hs : starEach (e :: es) X.env = (false, eval e X.env) :: starEach es X.env := by rfl) : PA X (e :: es) (tCons te t) := by
  intro pos pins s σ H Q I h
  rw [hs]
  show wpAny _ _ (spliced ((false, eval e X.env) :: backTo pos (starEach es X.env))) _ _ s
  refine Calls.spliced_cons (thn (ha pins s σ H _ I h) fun u s1 ⟨x, H1, I1, r1, q1⟩ => ?_)
  exact thn (hr pos pins s1 σ H1 _ I1 q1) fun us s2 ⟨xs, H2, I2, r2, q2⟩ => ⟨x :: xs, H2, I2, .cons r1 r2, q2⟩

/-- a tuple, a list of written items -/
def tTup (t : TA) : TE := fun σ H Q => t σ H fun xs H1 => xs.length ≤ sizeLine ∧ ∀ p, H1 p = none → Q (.ref p) (upd H1 p (.tup xs))
def tLst (t : TA) : TE := fun σ H Q => t σ H fun xs H1 => xs.length ≤ sizeLine ∧ ∀ p, H1 p = none → Q (.ref p) (upd H1 p (.lst xs))
theorem pe_tup {x1} (h : PA X es t) : PE X (.Tuple es x1 pos) (tTup t) := by
  intro pins s σ H Q I hq
  refine wpAny_Tuple_spliced (thn (h pos pins s σ H _ I hq) fun us s1 ⟨xs, H1, I1, r, z, q⟩ => ⟨by rw [← r.length]; exact z, ?_⟩)
  have hf : H1 s1.heap.objs.size = none := I1.hok.fresh (Nat.le_refl _)
  refine ⟨.ref s1.heap.objs.size, upd H1 s1.heap.objs.size (.tup xs), I1.laid (t' := s1.toks) (fun b u e => Heap.get?_push_of_some _ e) (Nat.le_refl _) ?_, rfl, q _ hf⟩
  exact ⟨z, us, r, ⟨_, Heap.get?_push_size _ rfl, rfl, _, rfl⟩⟩
theorem pe_lst (h : PA X es t) : PE X (.List es pos) (tLst t) := by
  intro pins s σ H Q I hq
  refine wpAny_List_spliced (thn (h pos pins s σ H _ I hq) fun us s1 ⟨xs, H1, I1, r, z, q⟩ => ⟨by rw [← r.length]; exact z, ?_⟩)
  have hf : H1 s1.heap.objs.size = none := I1.hok.fresh (Nat.le_refl _)
  refine ⟨.ref s1.heap.objs.size, upd H1 s1.heap.objs.size (.lst xs), I1.laid (t' := s1.toks) (fun b u e => Heap.get?_push_of_some _ e) (Nat.le_refl _) ?_, rfl, q _ hf⟩
  exact ⟨z, us, 0, r, Heap.get?_push_size _ rfl⟩
end

/-! ### what a def promises -/
/-- a def's promise: the bound arguments in the parameters' order, the heap, the wanted end, the wanted exception -/
abbrev Sp := List V → Hp → VK → XK → Prop
/-- how an exception lies behind a call (file 08 gives it): the callers' frames, abstract heap and state ahead of the call, the wish, the exception, the state -/
abbrev CXT := List Env → Hp → Shared → XK → Value → Shared → Prop

/-- the state at a call -/
structure Env0 (P : Program) (w : World) (K : PySem.W.Frag) (mg : Str → Option Value) (base : Heap) (A : Around) (outer : List Env) (s : Shared) (H : Hp) : Prop where
  frames : A.frames = some outer
  mod : Mod K mg base
  bs : ∀ b o, base.get? b = some o → s.heap.get? b = some o ∧ H b = none
  bsz : base.objs.size ≤ s.heap.objs.size
  funs : s.heap.FunFrames base outer
  frf : ∀ b ∈ frs outer, H b = none
  hok : HOk P w H s.heap
  bare : AllBare s.gens
/-- a call's end -/
def CE (outer : List Env) (P : Program) (w : World) (H : Hp) (s : Shared) (Q : VK) (u : Value) (s' : Shared) : Prop :=
  ∃ v H', s'.os = s.os ∧ AllBare s'.gens ∧ Un (frs outer) [] H H' s.heap s'.heap ∧ HOk P w H' s'.heap ∧ RelV v u ∧ Q v H'
def CR (CX : CXT) (outer : List Env) (P : Program) (w : World) (H : Hp) (s : Shared) (Q : VK) (E : XK) (r : Result) (s' : Shared) : Prop :=
  match r with
  | .ok (.ret u) => CE outer P w H s Q u s'
  | .ok _ => False
  | .error e => CX outer H s E e s'
structure FnOk (P : Program) (w : World) (K : PySem.W.Frag) (mg : Str → Option Value) (base : Heap) (CX : CXT) (k : Nat) (f : Addr) (fd : FuncData) (ps : List Str) (sp : Sp) : Prop where
  len : ∀ vs H Q E, sp vs H Q E → vs.length = ps.length
  run : ∀ (A : Around) (outer : List Env) (s : Shared) (H : Hp) (args : Args) (us : List Value) (vs : List V) (Q : VK) (E : XK), Room k A → Env0 P w K mg base A outer s H → BindsTo s fd args (ps.zip us) → Vals vs us → sp vs H Q E →
    codeAny (model P w) A (.call (.ref f) args) (CR CX outer P w H s Q E) s
theorem FnOk.mono {P : Program} {w : World} {K : PySem.W.Frag} {mg : Str → Option Value} {base : Heap} {CX : CXT} {j k : Nat} {f : Addr} {fd : FuncData} {ps : List Str} {sp : Sp} (F : FnOk P w K mg base CX j f fd ps sp) (h : j ≤ k) :
    FnOk P w K mg base CX k f fd ps sp := ⟨F.len, fun A outer s H args us vs Q E hr => F.run A outer s H args us vs Q E (hr.mono h)⟩


section
variable {X : Cx} {pins : List (Addr × Obj)} {σ : St} {H : Hp} {s s' : Shared}
/-- from a body: what a callee wants -/
theorem Inv.env0 (I : Inv X pins σ H s) : Env0 X.prog X.w X.K X.mg X.base X.A X.stack s H :=
  ⟨I.ok.frames, I.ok.mod, I.bs, Nat.le_trans I.ok.bsz I.sz, I.stack, I.stkFree, I.hok, I.bare⟩
/-- behind a call -/
theorem Inv.after {Q : VK} {u : Value} (I : Inv X pins σ H s) (h : CE X.stack X.prog X.w H s Q u s') : EP X pins σ Q u s' := by
  obtain ⟨v, H', os, bare, un, hok, r, q⟩ := h
  obtain ⟨hh, g, d, t, os'⟩ := s'
  obtain rfl : os' = s.os := os
  exact ⟨v, H', I.call (h' := hh) (g' := g) (d' := d) (t' := t) (ch := []) un hok bare (fun b z => absurd z (by simp)), r, q⟩
end

/-! ### calls -/
/-- f(..): the written arguments, then the defaults dvs; E: what is wanted of an exception -/
def tCall (sp : Sp) (dvs : List V) (E : XK) (t : TA) : TE := fun σ H Q => t σ H fun vs H1 => sp (vs ++ dvs) H1 Q E

/-- how the parameters are bound: us the positional arguments, kw the keywords' values by name, ds the defaults that fill up -/
def Binds (K : PySem.W.Frag) (fd : FuncData) (ps : List Str) (ds : List Value) : Prop :=
  ∀ (s : Shared) (us : List Value), K.In s.heap → (us ++ ds).length = ps.length → BindsTo s fd ⟨us, []⟩ (ps.zip (us ++ ds))
/-- every parameter is given -/
theorem Binds.all {K : PySem.W.Frag} {fd : FuncData} {ps : List Str} (h : ∀ us : List Value, us.length = ps.length → bindArgs fd ⟨us, []⟩ = pure (ps.zip us)) : Binds K fd ps [] := fun s us _ hl => by
  rw [List.append_nil] at hl ⊢
  exact .of_eq (h us hl)

/-- an exception of a callee reaches what this body wants of exceptions -/
def Passes (CX : CXT) (X : Cx) (E : XK) : Prop := ∀ (pins : List (Addr × Obj)) (σ : St) (H : Hp) (s : Shared) (e : Value) (s' : Shared), Inv X pins σ H s → CX X.stack H s E e s' → X.xe e s'

section
variable {X : Cx} {CX : CXT} {k : Nat} {f C : Addr} {fd : FuncData} {ps : List Str} {sp : Sp} {dvs : List V} {ds : List Value} {E : XK} {x m : Str} {p pos apos : Pos} {e o : Expr} {es : List Expr} {ta : TE} {t : TA}

/-- the callee runs -/
theorem run_fn {pins : List (Addr × Obj)} {σ : St} {H : Hp} {s : Shared} {Q : VK} {us : List Value} {vs : List V} (F : FnOk X.prog X.w X.K X.mg X.base CX k f fd ps sp) (hr : Room k X.A) (hb : Binds X.K fd ps ds) (hd : Vals dvs ds) (hx : Passes CX X E)
    (I : Inv X pins σ H s) (r : Vals vs us) (h : sp (vs ++ dvs) H Q E) : wpAny (model X.prog X.w) X.A (call (.ref f) us) (EP X pins σ Q) X.xe s := by
  have r2 : Vals (vs ++ dvs) (us ++ ds) := r.append hd
  have hl : (us ++ ds).length = ps.length := by rw [← r2.length]; exact F.len _ _ _ _ h
  refine wpAny_call (codeAny_mono (F.run X.A X.stack s H ⟨us, []⟩ (us ++ ds) (vs ++ dvs) Q E hr I.env0 (hb s us I.kIn hl) r2 h) fun r s' hq => ?_)
  cases r with
  | error e => exact hx pins σ H s e s' I hq
  | ok fl =>
    cases fl with
    | ret u => exact I.after hq
    | next => exact False.elim hq
    | brk => exact False.elim hq
    | cont => exact False.elim hq

theorem pe_call (F : FnOk X.prog X.w X.K X.mg X.base CX k f fd ps sp) (hr : Room k X.A) (hg : Gl X x) (hm : X.mg x = some (.ref f)) (hk : PySem.W.keepIn X.K (.ref f) = true) (hb : Binds X.K fd ps ds) (hd : Vals dvs ds) (hx : Passes CX X E)
    (ha : PA X (e :: es) t) (hdb : (x == ("__debug__" : Str)) = false := by decide) (he : starEach (e :: es) X.env = (false, eval e X.env) :: starEach es X.env := by rfl) (hpl : (backTo pos (starEach es X.env)).any (·.1) = false := by rfl) :
    PE X (.Call (.Name x p) (e :: es) [] pos) (tCall sp dvs E t) := by
  intro pins s σ H Q I h
  refine wpAny_Call_Name_kw (ld_glob I hg hm ?_ hdb)
  refine PySem.W.callWith_K (h₀ := X.base) I.ok.mod.kin hk (thn (ha pos pins s σ H _ I h) fun us s1 ⟨vs, H1, I1, r, q⟩ => ⟨I1.kIn, ?_⟩) he hpl
  exact run_fn F hr hb hd hx I1 r q



end

/-! ### keywords -/
section
variable {X : Cx} {CX : CXT} {k : Nat} {f C : Addr} {fd : FuncData} {ps ks : List Str} {sp : Sp} {E : XK} {x m : Str} {p pos apos kpos : Pos} {e o : Expr} {es : List Expr} {kws : List Keyword} {te ta : TE} {t tk : TA} {nm : Option Str}

variable {g : List Value → List Value → List Value} {gV : List V → List V → List V}
end

/-! ### a def's body keeps its promise -/
/-- names: the parameters first -/
structure FnScope (N P : List Str) (sc : Scope) : Prop where
  kind : sc.kind = .function
  co : sc.isCoroutine = false
  gen : sc.isGenerator = false
  nd : N.Nodup
  pre : N.take P.length = P
  par : ∀ x ∈ P, sc.names.lookup x = some .local ∨ sc.names.lookup x = some .cell
  nofree : ∀ y ∈ sc.names, y.2 ≠ .free

theorem bindL_out {kindOf : Str → Option NameKind} {x : Str} : ∀ {binds : List (Str × Value)} {m : Str → Option Value}, (∀ v, (x, v) ∉ binds) → bindL kindOf binds m x = m x
  | [], _, _ => rfl
  | (n, v) :: r, m, h => by
    unfold bindL
    rw [bindL_out fun w hw => h w (List.mem_cons_of_mem _ hw)]
    split
    · have : x ≠ n := by rintro rfl; exact h v List.mem_cons_self
      simp [this]
    · rfl
theorem bindC_out {kindOf : Str → Option NameKind} {x : Str} : ∀ {binds : List (Str × Value)} {m : Str → Option Value}, (∀ v, (x, v) ∉ binds) → bindC kindOf binds m x = m x
  | [], _, _ => rfl
  | (n, v) :: r, m, h => by
    unfold bindC
    rw [bindC_out fun w hw => h w (List.mem_cons_of_mem _ hw)]
    split
    · rfl
    · have : x ≠ n := by rintro rfl; exact h v List.mem_cons_self
      simp [this]
theorem bindL_get {kindOf : Str → Option NameKind} {x : Str} {v : Value} : ∀ {P : List Str} {vs : List Value} {i : Nat} {m : Str → Option Value}, P.Nodup → P[i]? = some x → vs[i]? = some v → kindOf x = some .local →
    bindL kindOf (P.zip vs) m x = some v
  | [], _, _, _, _, h, _, _ => by simp at h
  | _ :: _, [], _, _, _, _, h, _ => by simp at h
  | p :: P, w :: vs, 0, m, nd, h1, h2, hk => by
    simp at h1 h2; subst h1; subst h2
    show bindL kindOf ((p, w) :: P.zip vs) m p = _
    unfold bindL
    rw [bindL_out fun v hv => (List.nodup_cons.mp nd).1 (List.of_mem_zip hv).1, if_pos hk]
    simp
  | p :: P, w :: vs, i + 1, m, nd, h1, h2, hk => by
    show bindL kindOf ((p, w) :: P.zip vs) m x = _
    unfold bindL
    exact bindL_get (i := i) (List.nodup_cons.mp nd).2 (by simpa using h1) (by simpa using h2) hk
theorem bindC_get {kindOf : Str → Option NameKind} {x : Str} {v : Value} : ∀ {P : List Str} {vs : List Value} {i : Nat} {m : Str → Option Value}, P.Nodup → P[i]? = some x → vs[i]? = some v → kindOf x ≠ some .local →
    bindC kindOf (P.zip vs) m x = some v
  | [], _, _, _, _, h, _, _ => by simp at h
  | _ :: _, [], _, _, _, _, h, _ => by simp at h
  | p :: P, w :: vs, 0, m, nd, h1, h2, hk => by
    simp at h1 h2; subst h1; subst h2
    show bindC kindOf ((p, w) :: P.zip vs) m p = _
    unfold bindC
    rw [bindC_out fun v hv => (List.nodup_cons.mp nd).1 (List.of_mem_zip hv).1, if_neg hk]
    simp
  | p :: P, w :: vs, i + 1, m, nd, h1, h2, hk => by
    show bindC kindOf ((p, w) :: P.zip vs) m x = _
    unfold bindC
    exact bindC_get (i := i) (List.nodup_cons.mp nd).2 (by simpa using h1) (by simpa using h2) hk

/-- the names' values at the entry -/
def start (N : List Str) (vs : List V) : St := vs.map some ++ List.replicate (N.length - vs.length) none

/-- the context of a def's body, at its entry; an exception leaves the frame, then lies as CX says -/
def cxOf (CX : CXT) (P : Program) (w : World) (K : PySem.W.Frag) (mg : Str → Option Value) (base : Heap) (N : List Str) (qual : Str) (scope : Scope) (f : Addr) (cd : Value) (A : Around) (outer : List Env) (s : Shared) (H : Hp) (E : XK) : Cx where
  prog := P
  w := w
  K := K
  mg := mg
  base := base
  A := A.deeper (envOfC qual scope s.heap.objs.size f cd)
  N := N
  s_0 := s
  H_0 := H
  env := envOfC qual scope s.heap.objs.size f cd
  outer := outer
  stack := envOfC qual scope s.heap.objs.size f cd :: outer
  ex := []
  calm := true
  fn := fun _ => true
  pn := []
  xe := fun e s' => wpAny (model P w) (A.deeper (envOfC qual scope s.heap.objs.size f cd)) (leaving (envOfC qual scope s.heap.objs.size f cd) e) (fun _ s'' => CX outer H s E e s'') (fun e' s'' => CX outer H s E e' s'') s'

theorem cell_has {sc : Scope} {n : Nat} {x : Str} (h : sc.names.lookup x = some .cell) : ∃ c, (cellsFrom n sc.names []).lookup x = some c := by
  have q := PySem.W.cellsFrom_some sc.names n [] (.inl h)
  exact Option.isSome_iff_exists.mp q

theorem inv_start {CX : CXT} {P : Program} {w : World} {K : PySem.W.Frag} {mg : Str → Option Value} {base : Heap} {N ps : List Str} {qual : Str} {scope : Scope} {f : Addr} {cd : Value} {A : Around} {outer : List Env} {s s1 : Shared} {H : Hp} {E : XK} {us : List Value} {vs : List V}
    (S : FnScope N ps scope) (hd : A.handled = none) (e0 : Env0 P w K mg base A outer s H) (hl : vs.length = ps.length) (r : Vals vs us)
    (x : InCallC s s.heap.objs.size (bindL (envOfC qual scope s.heap.objs.size f cd).kindOf (ps.zip us) fun _ => none) (cellsFrom (s.heap.objs.size + 1) scope.names []) (bindC (envOfC qual scope s.heap.objs.size f cd).kindOf (ps.zip us) fun _ => none) s1) :
    Inv (cxOf CX P w K mg base N qual scope f cd A outer s H E) [] (start N vs) H s1 := by
  have hpl : ps.length ≤ N.length := by have := congrArg List.length S.pre; rw [List.length_take] at this; omega
  obtain ⟨h1, tk, rfl, hk⟩ := x.done
  have noA : ∀ b : Addr, b ∉ (cxOf CX P w K mg base N qual scope f cd A outer s H E).ex := fun b z => absurd (show b ∈ ([] : List Addr) from z) (by simp)
  refine ⟨⟨e0.mod, S.kind, rfl, rfl, Nat.le_refl _, fun y z c h1 h2 => ?_, fun y hy => ?_, fun y c _ h => ?_, fun _ => hd, Around.frames_deeper e0.frames, .inr ⟨rfl, rfl⟩, fun b z => absurd z (noA b), e0.bs, e0.bsz, fun b _ _ => noA b, fun b z => absurd z (noA b), e0.funs, e0.frf⟩,
    rfl, e0.bare, Un.kept hk, ⟨_, x.toInCall.ns, fun i y v h1 h2 h3 => ?_⟩, fun y c h => ⟨_, x.cell y c h⟩, e0.hok.fresh (Nat.le_refl _), fun y c h => ?_, fun p hp => absurd (show p ∈ ([] : List (Addr × Obj)) from hp) (by simp), e0.hok.kept hk, ?_⟩
  · exact name_of_addr x.apart (PySem.mem_of_lookup h1) (PySem.mem_of_lookup h2)
  · have hy : scope.names.lookup y = some .cell ∨ scope.names.lookup y = some .free := hy
    rcases hy with hy | hy
    · exact cell_has hy
    · exact absurd rfl (S.nofree _ (PySem.mem_of_lookup hy))
  · exact Nat.le_of_lt (x.above y c (PySem.mem_of_lookup h))
  · have hi : i < vs.length := by
      unfold start at h2
      by_cases hi : i < vs.length
      · exact hi
      · rw [List.getElem?_append_right (by simpa using hi)] at h2
        rw [List.getElem?_replicate] at h2
        split at h2 <;> cases h2
    have ha : vs[i]? = some v := by
      unfold start at h2
      rw [List.getElem?_append_left (by simpa using hi), List.getElem?_map] at h2
      cases e : vs[i]? with
      | none => rw [e] at h2; cases h2
      | some a => rw [e] at h2; cases h2; rfl
    obtain ⟨u, hu, rv⟩ := r.get ha
    have hp : ps[i]? = some y := by
      rw [← S.pre, List.getElem?_take_of_lt (by omega)]; exact h1
    have ndP : ps.Nodup := by rw [← S.pre]; exact S.nd.sublist (List.take_sublist _ _)
    refine ⟨u, rv, ?_⟩
    rcases S.par y (List.mem_of_getElem? hp) with k | k
    · exact .inl ⟨k, bindL_get ndP hp hu k⟩
    · obtain ⟨c, e⟩ := cell_has (n := s.heap.objs.size + 1) k
      refine .inr ⟨.inl k, c, e, ?_⟩
      have q := x.cell y c e
      rw [bindC_get ndP hp hu (by show scope.names.lookup y ≠ _; rw [k]; decide)] at q
      exact q
  · exact e0.hok.fresh (Nat.le_of_lt (x.above y c (PySem.mem_of_lookup h)))
  · unfold start
    show _ = N.length
    rw [List.length_append, List.length_map, List.length_replicate]
    omega

/-- THE RULE: a def (or a method) of the text, by its body. The body's reading t is chosen for each entry; it is run at the parameters' values -/
theorem fn_of {CX : CXT} {P : Program} {w : World} {K : PySem.W.Frag} {mg : Str → Option Value} {base : Heap} {k : Nat} {f : Addr} {name qual : Str} {params : Arguments} {body : List Stmt} {scope : Scope} {dV kV doc pm cdv ct oc : Value} {an od : Option Addr}
    {osl : Array (Option Value)} {N ps : List Str} {sp : Sp} (lk : K.lookup f = some ⟨oc, od, .func (PySem.W.fnOf name qual params body scope dV kV doc pm an cdv ct), osl⟩) (hcd : PySem.W.codeIn K cdv qual = true) (S : FnScope N ps scope)
    (len : ∀ vs H Q E, sp vs H Q E → vs.length = ps.length)
    (hbody : ∀ (A : Around) (outer : List Env) (s : Shared) (H : Hp) (vs : List V) (Q : VK) (E : XK), Room k (A.deeper (envOfC qual scope s.heap.objs.size f cdv)) → sp vs H Q E →
      ∃ t, PSs (cxOf CX P w K mg base N qual scope f cdv A outer s H E) body t ∧ t { nx := fun _ H' => Q .non H', rt := Q } (start N vs) H) :
    FnOk P w K mg base CX (k + 1) f (PySem.W.fnOf name qual params body scope dV kV doc pm an cdv ct) ps sp := by
  refine ⟨len, fun A outer s H args us vs Q E hr e0 hb r hsp => ?_⟩
  have hl := len _ _ _ _ hsp
  have KX : K.In s.heap := e0.mod.kin.keeps fun b o e => (e0.bs b o e).1
  have lim : s.heap.NoLimit := e0.mod.nolimit.keeps fun b o e => (e0.bs b o e).1
  have hkind : ∀ y ∈ ps.zip us, scope.names.lookup y.1 = some .local ∨ (scope.names.lookup y.1 = some .cell ∧ ((cellsFrom (s.heap.objs.size + 1) scope.names []).lookup y.1).isSome = true) := fun ⟨n, v⟩ hy => by
    rcases S.par n (List.of_mem_zip hy).1 with q | q
    · exact .inl q
    · exact .inr ⟨q, PySem.W.cellsFrom_some _ _ _ (.inl q)⟩
  refine codeAny_call_function hr.depth (KX _ _ lk) rfl S.co S.gen rfl (PySem.W.codeRec_of KX hcd) (hb _ _ _ _ ?_)
  refine wpAny_newFunctionEnv_cells S.kind hkind fun env he s1 x => ?_
  subst he
  refine ⟨lim.keeps x.toInCall.keep, codeAny_func ?_⟩
  obtain ⟨t, ht, hq⟩ := hbody A outer s H vs Q E (hr.deeper _) hsp
  have I : Inv (cxOf CX P w K mg base N qual scope f cdv A outer s H E) [] (start N vs) H s1 := inv_start S hr.hd e0 hl r x
  refine wpAny_mono (ht [] s1 (start N vs) H _ I hq) (fun fl s' hs => ?_) fun e s' hs => hs
  have fin : ∀ {σ' : St} {H' : Hp} {v : V} {u : Value}, Inv (cxOf CX P w K mg base N qual scope f cdv A outer s H E) [] σ' H' s' → RelV v u → Q v H' → CE outer P w H s Q u s' :=
    fun {σ' H' v u} J rv q => ⟨v, H', J.os, J.bare, J.base, J.hok, rv, q⟩
  cases fl with
  | ret u =>
    obtain ⟨v, σ', H', J, rv, q⟩ := hs
    exact fin J rv q
  | next =>
    obtain ⟨σ', H', J, q⟩ := hs
    exact fin (v := V.non) (u := Value.none) J rfl q
  | brk =>
    obtain ⟨_, _, _, q⟩ := hs
    exact False.elim q
  | cont =>
    obtain ⟨_, _, _, q⟩ := hs
    exact False.elim q
end L2

namespace L2
open PySem PySem.Spec PyProof.Rows
section
variable {X : Cx} {x : Str} {p pos : Pos} {e : Expr} {es : List Expr} {t : TA} {id T : String} {r : List V → Hp → VK → Prop}

def tCB (r : List V → Hp → VK → Prop) (t : TA) : TE := fun σ H Q => t σ H fun vs H1 => r vs H1 Q
/-- f(e, ..), f a built-in function -/
theorem pe_callB (hc : CallR X (.builtin id) r) (hg : Gl X x) (hm : X.mg x = none) (hv : bootBuiltins x = some (.builtin id)) (ha : PA X (e :: es) t) (hn : x ≠ "__name__" := by decide) (hdb : (x == ("__debug__" : Str)) = false := by decide)
    (he : starEach (e :: es) X.env = (false, eval e X.env) :: starEach es X.env := by rfl) (hpl : (backTo pos (starEach es X.env)).any (·.1) = false := by rfl) : PE X (.Call (.Name x p) (e :: es) [] pos) (tCB r t) := by
  intro pins s σ H Q I h
  refine wpAny_Call_Name_kw (ld_blt I hg hm hv ?_ hn hdb)
  exact PyProof.Rows.callWith_builtin1 (thn (ha pos pins s σ H _ I h) fun us s1 ⟨vs, H1, I1, r1, q1⟩ => hc pins s1 σ H1 vs us Q I1 r1 q1) he hpl
end
end L2

namespace HT
open PySem PyProof.Rows



section
open PySem.SeqAt
open PySem.AutoSeq1 (wpAny_loadPart')
open PySem.MeetsSeq PySem.MeetsSeq2 PySem.MeetsSeq3

end

section
variable {prog : Program} {w : World} {A : Around} {E : Value → Shared → Prop} {s : Shared}



/-! ### t[a:b], not the whole -/

end
end HT

namespace L2
open PySem PySem.Spec PyProof.Rows

/-! ### the parts of a slice -/


section
variable {X : Cx} {e : Expr} {te : TE} {lo hi : Option Expr} {tl th : TO} {pos p2 : Pos}




/-! ### t < u, t + u -/
end
end L2

namespace L2
open PySem PySem.Spec PyProof.Rows

/-! ### places -/
/-- the place that an index of any sign means -/
def ixN (n : Nat) (i : Int) : Option Nat := if 0 ≤ i then (if i < n then some i.toNat else none) else if -(n : Int) ≤ i then some (i + n).toNat else none
def atI {α : Type} (xs : List α) (i : Int) : Option α := (ixN xs.length i).bind fun j => xs[j]?
theorem ixN_seq {n : Nat} {i : Int} {j : Nat} (h : ixN n i = some j) : seqIndex? i n = some j ∧ j < n ∧ -(n : Int) ≤ i ∧ i < n := by
  unfold ixN at h
  by_cases h0 : 0 ≤ i
  · rw [if_pos h0] at h
    by_cases h1 : i < n
    · rw [if_pos h1] at h
      have e : i.toNat = j := Option.some.inj h
      exact ⟨by rw [seqIndex_of h0 h1, e], by omega, by omega, h1⟩
    · rw [if_neg h1] at h; cases h
  · rw [if_neg h0] at h
    by_cases h1 : -(n : Int) ≤ i
    · rw [if_pos h1] at h
      have e : (i + n).toNat = j := Option.some.inj h
      exact ⟨by rw [seqIndex_neg (by omega) h1, e], by omega, h1, by omega⟩
    · rw [if_neg h1] at h; cases h
theorem atI_get {α : Type} {xs : List α} {i : Int} {v : α} (h : atI xs i = some v) : ∃ j, seqIndex? i xs.length = some j ∧ xs[j]? = some v ∧ j < xs.length ∧ -(xs.length : Int) ≤ i ∧ i < xs.length := by
  unfold atI at h
  cases e : ixN xs.length i with
  | none => rw [e] at h; cases h
  | some j =>
    rw [e] at h
    obtain ⟨h1, h2, h3, h4⟩ := ixN_seq e
    exact ⟨j, h1, h, h2, h3, h4⟩
theorem atI_nat {α : Type} {xs : List α} {j : Nat} {v : α} (h : xs[j]? = some v) : atI xs (j : Int) = some v := by
  have hj : j < xs.length := (List.getElem?_eq_some_iff.mp h).1
  have e : ixN xs.length (j : Int) = some j := by
    unfold ixN
    rw [if_pos (by omega), if_pos (by omega)]; simp
  unfold atI; rw [e]; exact h
theorem atI_last {α : Type} (xs : List α) (v : α) : atI (xs ++ [v]) (-1) = some v := by
  have hl : (xs ++ [v]).length = xs.length + 1 := by simp
  have e : ixN (xs ++ [v]).length (-1) = some xs.length := by
    unfold ixN
    rw [hl, if_neg (by decide), if_pos (by omega)]
    congr 1
    omega
  unfold atI
  rw [e]
  show (xs ++ [v])[xs.length]? = some v
  simp

/-! ### what may be subscripted -/
/-- what stands as an index of a plain subscript -/
def PlainIx (b : Expr) : Prop := ∀ o i, subscripted b false o i = operate [o, i] (getItem o i)
/-- a subscript by values -/
def IxR (X : Cx) (r : R2) : Prop :=
  ∀ (value slice : Expr) (pins : List (Addr × Obj)) (s : Shared) (σ : St) (H : Hp) (x y : V) (v u : Value) (Q : VK), Inv X pins σ H s → RelV x v → RelV y u → r x y H Q →
    subscripted slice false v u = operate [v, u] (getItem v u) → wpAny (model X.prog X.w) X.A (subscriptTail value slice v u) (EP X pins σ Q) X.xe s
/-- a call of a builtin's method by values: the receiver, the arguments -/
def MtR (X : Cx) (id : String) (r : V → List V → Hp → VK → Prop) : Prop :=
  ∀ (pins : List (Addr × Obj)) (s : Shared) (σ : St) (H : Hp) (x : V) (xs : List V) (v : Value) (us : List Value) (Q : VK), Inv X pins σ H s → RelV x v → Vals xs us → r x xs H Q →
    wpAny (model X.prog X.w) X.A (call (.builtin id) (v :: us)) (EP X pins σ Q) X.xe s
section
variable {X : Cx} {a b : Expr} {ta tb : TE} {pos : Pos}
/-- a[b] -/
theorem pe_ix {r : R2} (hr : IxR X r) (ha : PE X a ta) (hb : PE X b tb) (hs : PlainIx b) : PE X (.Subscript a b pos) (tOp r ta tb) := by
  intro pins s σ H Q I h
  exact Subscript_ (binT ha hb I h fun v u s2 x y H2 I2 rx ry q => hr a b pins s2 σ H2 x y v u Q I2 rx ry q (hs _ _))

def rIxL (K : PySem.W.Frag) : R2 := fun x y H Q => ∃ p xs i v, x = .ref p ∧ y = .int i ∧ SqL K H p xs ∧ atI xs i = some v ∧ Q v H
def rIxT (K : PySem.W.Frag) : R2 := fun x y H Q => ∃ p xs i v, x = .ref p ∧ y = .int i ∧ SqT K H p xs ∧ atI xs i = some v ∧ Q v H
theorem ix_list : IxR X (rIxL X.K) := by
  intro value slice pins s σ H x y v u Q I rx ry h hs
  obtain ⟨p, xs, i, z, rfl, rfl, hq, he, q⟩ := h
  cases rx
  obtain ⟨t, rfl⟩ := ry
  obtain ⟨its, r, pl, hz⟩ := I.list hq
  obtain ⟨j, h1, h2, h3, h4, h5⟩ := atI_get he
  obtain ⟨w, ew, rw'⟩ := r.get h2
  have hl := r.length
  have hn := line63
  have fin : EP X pins σ Q w s := ⟨z, H, I, rw', q⟩
  by_cases h0 : 0 ≤ i
  · have hj : i.toNat = j := by
      rw [seqIndex_of h0 h5] at h1
      exact Option.some.inj h1
    exact item_listR pl.isList h0 (by omega) (by rw [hj]; simpa using ew) fin hs
  · have hj : (i + (its.toArray.size : Int)).toNat = j := by
      rw [seqIndex_neg (by omega) h4] at h1
      rw [List.size_toArray, ← hl]
      exact Option.some.inj h1
    exact subscriptTail_builtinR (x := w) pl.isList.typeIs slot_list_getitem.lookup
      (wpAny_getItem_list_neg (Q := fun r s' => r = w ∧ EP X pins σ Q r s') pl.isList (by omega) (by rw [List.size_toArray] <;> omega) (by omega) (by rw [hj]; simpa using ew) ⟨rfl, fin⟩) hs
theorem ix_tup : IxR X (rIxT X.K) := by
  intro value slice pins s σ H x y v u Q I rx ry h hs
  obtain ⟨p, xs, i, z, rfl, rfl, hq, he, q⟩ := h
  cases rx
  obtain ⟨t, rfl⟩ := ry
  obtain ⟨its, r, pl, hz⟩ := I.tuple hq
  obtain ⟨j, h1, h2, h3, h4, h5⟩ := atI_get he
  obtain ⟨w, ew, rw'⟩ := r.get h2
  have hl := r.length
  have hn := line63
  have fin : EP X pins σ Q w s := ⟨z, H, I, rw', q⟩
  exact subscriptTail_builtinR (x := w) pl.typeIs slot_tuple_getitem.lookup
    (getItem_tuple (j := j) (Q := fun r s' => r = w ∧ EP X pins σ Q r s') pl (by omega) (by omega) (by rw [List.size_toArray, ← hl]; exact h1) (by simpa using ew) ⟨rfl, fin⟩) hs

/-! ### xs[i] = v, any sign -/

/-! ### slices -/

/-! ### in, not in: flat items -/
def flatV : V → Bool
  | .non => true
  | .bl _ => true
  | .int _ => true
  | .str _ => true
  | _ => false
/-- == of flat values -/
def eqV : V → V → Bool
  | .non, .non => true
  | .bl a, .bl b => a == b
  | .bl a, .int b => (if a then 1 else 0) == b
  | .int a, .bl b => a == (if b then 1 else 0)
  | .int a, .int b => a == b
  | .str a, .str b => a == b
  | _, _ => false
theorem eqAt_V {A : Around} {s : Shared} {y x : V} {u v : Value} (ry : RelV y u) (rx : RelV x v) (fy : flatV y = true) (fx : flatV x = true) : SeqAt.EqAt A s u v (eqV y x) := by
  cases y with
  | non =>
    cases ry
    cases x with
    | non => cases rx; exact SeqAt.EqAt.same _
    | bl b => cases rx; exact SeqAt.EqAt.none_bool b
    | int b => obtain ⟨t, rfl⟩ := rx; exact SeqAt.EqAt.none_int b t
    | str b => obtain ⟨t, rfl⟩ := rx; exact SeqAt.EqAt.none_str b t
    | _ => exact absurd (show false = true from fx) Bool.false_ne_true
  | bl a =>
    cases ry
    cases x with
    | non => cases rx; exact SeqAt.EqAt.bool_none a
    | bl b => cases rx; exact SeqAt.EqAt.bool_bool a b
    | int b => obtain ⟨t, rfl⟩ := rx; exact SeqAt.EqAt.bool_int a b t
    | str b => obtain ⟨t, rfl⟩ := rx; exact SeqAt.EqAt.bool_str a b t
    | _ => exact absurd (show false = true from fx) Bool.false_ne_true
  | int a =>
    obtain ⟨t', rfl⟩ := ry
    cases x with
    | non => cases rx; exact SeqAt.EqAt.int_none a t'
    | bl b => cases rx; exact SeqAt.EqAt.int_bool a t' b
    | int b => obtain ⟨t, rfl⟩ := rx; exact SeqAt.EqAt.int_int a t' b t
    | str b => obtain ⟨t, rfl⟩ := rx; exact SeqAt.EqAt.int_str a t' b t
    | _ => exact absurd (show false = true from fx) Bool.false_ne_true
  | str a =>
    obtain ⟨t', rfl⟩ := ry
    cases x with
    | non => cases rx; exact SeqAt.EqAt.str_none a t'
    | bl b => cases rx; exact SeqAt.EqAt.str_bool a t' b
    | int b => obtain ⟨t, rfl⟩ := rx; exact SeqAt.EqAt.str_int a t' b t
    | str b => obtain ⟨t, rfl⟩ := rx; exact SeqAt.EqAt.str_str a t' b t
    | _ => exact absurd (show false = true from fx) Bool.false_ne_true
  | _ => exact absurd (show false = true from fy) Bool.false_ne_true
/-- the items' answers, read off the values (a value's own answer does not lean on its token) -/
def eqU (x : V) (u : Value) : Bool := match u with
  | .none => eqV .non x
  | .bool b => eqV (.bl b) x
  | .int i _ => eqV (.int i) x
  | .str z _ => eqV (.str z) x
  | _ => false
theorem eqU_of {x y : V} {u : Value} (r : RelV y u) (f : flatV y = true) : eqU x u = eqV y x := by
  cases y with
  | non => cases r; rfl
  | bl b => cases r; rfl
  | int i => obtain ⟨t, rfl⟩ := r; rfl
  | str z => obtain ⟨t, rfl⟩ := r; rfl
  | _ => exact absurd (show false = true from f) Bool.false_ne_true
theorem mem_eqAt {A : Around} {s : Shared} {x : V} {v : Value} (rx : RelV x v) (fx : flatV x = true) : ∀ {xs : List V} {us : List Value}, Vals xs us → xs.all flatV = true → ∀ u ∈ us, SeqAt.EqAt A s u v (eqU x u)
  | _, _, .nil, _ => fun u hu => by cases hu
  | y :: xs, u :: us, .cons r t, f => fun u' hu => by
    rw [List.all_cons, Bool.and_eq_true] at f
    rcases List.mem_cons.mp hu with rfl | hu
    · rw [eqU_of r f.1]; exact eqAt_V r rx f.1 fx
    · exact mem_eqAt rx fx t f.2 u' hu

/-! ### len, list(x), tuple(x) of any list or tuple that is read -/
theorem call_len_seq : CallR X (.builtin "len") (fun xs H Q => ∃ p ys, xs = [.ref p] ∧ (SqL X.K H p ys ∨ SqT X.K H p ys) ∧ Q (.int ys.length) H) := by
  intro pins s σ H xs us Q I r h
  obtain ⟨p, ys, rfl, hq, q⟩ := h
  obtain ⟨u, rfl, rx⟩ := vals1 r
  cases rx
  have hn := line63
  rcases hq with hq | hq
  · obtain ⟨its, r', pl, hz⟩ := I.list hq
    have hlen := r'.length
    exact Calls.call_len_list pl.isList (by simp only [List.size_toArray] <;> omega) ⟨.int ys.length, H, I.tok _, ⟨s.toks + 1, by rw [List.size_toArray, hlen]⟩, q⟩
  · obtain ⟨its, r', pl, hz⟩ := I.tuple hq
    have hlen := r'.length
    exact len_tuple pl (by simp only [List.size_toArray] <;> omega) ⟨.int ys.length, H, I.tok _, ⟨s.toks + 1, by rw [List.size_toArray, hlen]⟩, q⟩

/-! ### the call of a builtin's method: o.m(..) -/
/-- the value is of that builtin type -/
def tyV (K : PySem.W.Frag) (T : String) (x : V) (H : Hp) : Prop := match x with
  | .str _ => T = "str"
  | .int _ => T = "int"
  | .ref p => (T = "list" ∧ ∃ xs, SqL K H p xs) ∨ (T = "tuple" ∧ ∃ o, K.lookup p = some o ∧ o.cls = .type "tuple" ∧ o.dict = none) ∨
      (T = "dict" ∧ ((∃ kvs, H p = some (.dK kvs)) ∨ ∃ kvs, H p = some (.dT kvs))) ∨ (T = "set" ∧ ∃ S n, H p = some (.set S n))
  | _ => False
theorem tyV_is {pins : List (Addr × Obj)} {σ : St} {H : Hp} {s : Shared} {T : String} {x : V} {v : Value} (I : Inv X pins σ H s) (r : RelV x v) (ty : tyV X.K T x H) :
    s.TypeIs v T ∧ ∀ a, v = .ref a → ∃ ob, s.heap.get? a = some ob ∧ ob.dict = none := by
  cases x with
  | str z =>
    obtain ⟨t, rfl⟩ := r
    cases (show T = "str" from ty)
    exact ⟨typeIs_str s z t, fun _ e => nomatch e⟩
  | int i =>
    obtain ⟨t, rfl⟩ := r
    cases (show T = "int" from ty)
    exact ⟨typeIs_int s i t, fun _ e => nomatch e⟩
  | ref p =>
    cases r
    rcases ty with ⟨rfl, xs, hq⟩ | ⟨rfl, o, hk, hc, hd⟩ | ⟨rfl, hk⟩ | ⟨rfl, S, n, hk⟩
    · obtain ⟨its, _, pl, _⟩ := I.list hq
      refine ⟨pl.isList.typeIs, fun a e => ?_⟩
      cases e
      obtain ⟨o, n, e, c, hd, _⟩ := pl
      exact ⟨o, e, hd⟩
    · refine ⟨⟨o, I.kIn p o hk, hc⟩, fun a e => ?_⟩
      cases e
      exact ⟨o, I.kIn _ o hk, hd⟩
    · have z : ∃ o, s.heap.get? p = some o ∧ o.ExactDict := by
        rcases hk with ⟨kvs, hk⟩ | ⟨kvs, hk⟩
        · obtain ⟨_, _, _, _, o, _, _, e, ex, _⟩ := I.hok p _ hk
          exact ⟨o, e, ex⟩
        · obtain ⟨_, _, _, _, o, _, _, e, ex, _⟩ := I.hok p _ hk
          exact ⟨o, e, ex⟩
      obtain ⟨o, e, ex⟩ := z
      refine ⟨⟨o, e, ex.1⟩, fun a e2 => ?_⟩
      cases e2
      exact ⟨o, e, ex.2.1⟩
    · obtain ⟨o, _, _, _, e, ex, _⟩ := I.hok p _ hk
      refine ⟨⟨o, e, ex.1⟩, fun a e2 => ?_⟩
      cases e2
      exact ⟨o, e, ex.2.1⟩
  | _ => exact False.elim ty
def tBM0 (K : PySem.W.Frag) (T : String) (r : V → List V → Hp → VK → Prop) (to : TE) : TE := fun σ H Q => to σ H fun x H1 => tyV K T x H1 ∧ r x [] H1 Q
def tBM (K : PySem.W.Frag) (T : String) (r : V → List V → Hp → VK → Prop) (to : TE) (t : TA) : TE := fun σ H Q => to σ H fun x H1 => tyV K T x H1 ∧ t σ H1 fun xs H2 => r x xs H2 Q
variable {o e : Expr} {es : List Expr} {to : TE} {t : TA} {name : Str} {apos cpos : Pos} {T id : String} {r : V → List V → Hp → VK → Prop}
theorem pe_bm0 (pa : PlainAttrs T) (slot : Slot T name id) (hty : typeOf (.builtin id) = pure (.type "method_descriptor")) (hm : MtR X id r) (ho : PE X o to)
    (hbase : attributeBase o name X.env (eval o X.env) = eval o X.env := by rfl) (hline : (apos.endLine == cpos.line) = true := by rfl) : PE X (.Call (.Attribute o name apos) [] [] cpos) (tBM0 X.K T r to) := by
  intro pins s σ H Q I h
  refine wpAny_Call_method0_late hbase hline (thn (ho pins s σ H _ I h) fun v s1 ⟨x, H1, I1, r1, ty, q1⟩ => ?_)
  obtain ⟨h1, h2⟩ := tyV_is I1 r1 ty
  exact ⟨T, id, pa, slot, hty, h1, h2, Calls.callWith_builtin rfl (PySem.evalArgs_none (hm pins s1 σ H1 x [] v [] Q I1 r1 .nil q1))⟩
theorem pe_bm (pa : PlainAttrs T) (slot : Slot T name id) (hty : typeOf (.builtin id) = pure (.type "method_descriptor")) (hm : MtR X id r) (ho : PE X o to) (ha : PA X (e :: es) t)
    (hbase : attributeBase o name X.env (eval o X.env) = eval o X.env := by rfl)
    (hfew : ((backTo cpos (starEach (e :: es) X.env)).all (fun x => !x.1) && (backToKw cpos (keywordEach [] X.env)).all (fun x => x.1.isSome)
      && decide ((e :: es).length + ([] : List Keyword).length + (if ([] : List Keyword).isEmpty then 0 else 1) < 30)) = true := by rfl)
    (hline : (apos.endLine == cpos.line) = true := by rfl) (hs : starEach (e :: es) X.env = (false, eval e X.env) :: starEach es X.env := by rfl) (hplain : (backTo cpos (starEach es X.env)).any (·.1) = false := by rfl) :
    PE X (.Call (.Attribute o name apos) (e :: es) [] cpos) (tBM X.K T r to t) := by
  intro pins s σ H Q I h
  refine wpAny_Call_method_late hbase hfew hline rfl (thn (ho pins s σ H _ I h) fun v s1 ⟨x, H1, I1, r1, ty, q1⟩ => ?_)
  obtain ⟨h1, h2⟩ := tyV_is I1 r1 ty
  refine ⟨T, id, pa, slot, hty, h1, h2, ?_⟩
  have hA := ha cpos pins s1 σ H1 _ I1 q1
  rw [hs] at hA ⊢
  refine Calls.callWith_builtin (by show (false || (backTo cpos (starEach es X.env)).any (·.1)) = false; rw [hplain] <;> rfl) (Calls.evalArgs_plain ?_)
  exact thn hA fun us s2 ⟨vs, H2, I2, r2, q2⟩ => hm pins s2 σ H2 x vs v us Q I2 r1 r2 q2
/- xs.append(e), list.index on a module's tuple .. are MtR facts of 06m -/
end
end L2

namespace L2
open PySem PySem.Spec PyProof.Rows

def MtM (X : Cx) (id : String) (r : V → List V → Hp → VK → Prop) : Prop :=
  ∀ (pins : List (Addr × Obj)) (s : Shared) (σ : St) (H : Hp) (x : V) (xs : List V) (v : Value) (us : List Value) (Q : VK), Inv X pins σ H s → RelV x v → Vals xs us → r x xs H Q →
    wpAny (model X.prog X.w) X.A (call (.builtin id) (v :: us)) (EP X pins σ Q) X.xe s

/-! ### lists of values -/
theorem Vals.one : ∀ {x : V} {us : List Value}, Vals [x] us → ∃ u, us = [u] ∧ RelV x u
  | _, _, .cons r .nil => ⟨_, rfl, r⟩
theorem Vals.zero : ∀ {us : List Value}, Vals [] us → us = []
  | _, .nil => rfl
theorem Vals.dropLast {xs : List V} {us : List Value} (h : Vals xs us) : Vals xs.dropLast us.dropLast := by
  induction h with
  | nil => exact .nil
  | cons r t ih =>
    cases t with
    | nil => exact .nil
    | cons q t' => exact .cons r ih
theorem Vals.reverse {xs : List V} {us : List Value} (h : Vals xs us) : Vals xs.reverse us.reverse := by
  induction h with
  | nil => exact .nil
  | cons r t ih => rw [List.reverse_cons, List.reverse_cons]; exact Vals.append ih (.cons r .nil)
theorem erase_last {α : Type} (l : List α) : l.eraseIdx (l.length - 1) = l.dropLast := by
  induction l with
  | nil => rfl
  | cons a r ih =>
    cases r with
    | nil => rfl
    | cons b r =>
      have e : (a :: b :: r).length - 1 = ((b :: r).length - 1) + 1 := by
        have h1 : (a :: b :: r).length = r.length + 2 := rfl
        have h2 : (b :: r).length = r.length + 1 := rfl
        omega
      rw [e, List.eraseIdx_cons_succ, ih]
      all_goals rfl

section
variable {X : Cx} {pins : List (Addr × Obj)} {σ : St} {H : Hp} {s : Shared} {l b : Addr} {xs ys zs : List V}

/-! ### the two steps: a tracked list is rewritten, a new list is laid -/
theorem Inv.lset {its its' : List Value} {n : Nat} {f : Array Value → Array Value} {t' : Nat} (I : Inv X pins σ H s) (hH : H l = some (.lst xs))
    (e : s.heap.get? l = some { cls := .type "list", data := .seq its.toArray n }) (hf : f its.toArray = its'.toArray) (hv : Vals ys its') (hz : ys.length ≤ sizeLine) :
    Inv X pins σ (upd H l (.lst ys)) { s with heap := s.heap.update l (Obj.mapSeq f), toks := t' } := by
  have q := PySem.IsL.update e f
  rw [hf] at q
  refine I.write (x := l) (e := l) (by rw [hH]; exact trivial) (.inl rfl) (fun b' u hb hu => (Heap.get?_update_other s.heap (Obj.mapSeq f) (Ne.symm hb)).trans hu) ⟨_, q⟩ ?_
  exact ⟨hz, its', _, hv, q⟩
theorem Inv.lnew {its : List Value} {t' : Nat} (I : Inv X pins σ H s) (hv : Vals ys its) (hz : ys.length ≤ sizeLine) :
    Inv X pins σ (upd H s.heap.objs.size (.lst ys)) { s with heap := s.heap.push { cls := .type "list", data := .seq its.toArray }, toks := t' } :=
  I.laid (fun _ _ q => Heap.get?_push_of_some _ q) (Nat.le_refl _) ⟨hz, its, 0, hv, Heap.get?_push_size _ rfl⟩
theorem Inv.fresh (I : Inv X pins σ H s) : H s.heap.objs.size = none := I.hok.fresh (Nat.le_refl _)
theorem Inv.lstM (I : Inv X pins σ H s) (hH : H l = some (.lst xs)) : xs.length ≤ sizeLine ∧ ∃ (its : List Value) (n : Nat), Vals xs its ∧ xs.length = its.length ∧ s.heap.get? l = some { cls := .type "list", data := .seq its.toArray n } := by
  obtain ⟨z, its, n, r, e⟩ := I.hok l _ hH
  exact ⟨z, its, n, r, r.length, e⟩

theorem notLongL {n : Nat} (h : n ≤ sizeLine) : Builtin.List.listTooLong n = false := by
  unfold Builtin.List.listTooLong
  exact decide_eq_false (by omega)
end

section
variable {X : Cx}

/-! ### methods -/
def rAppend : V → List V → Hp → VK → Prop := fun x vs H Q => ∃ l xs y, x = .ref l ∧ vs = [y] ∧ H l = some (.lst xs) ∧ xs.length < sizeLine ∧ Q .non (upd H l (.lst (xs ++ [y])))
theorem mt_append : MtM X "list.append" rAppend := by
  intro pins s σ H x vs v us Q I rx rv h
  obtain ⟨l, xs, y, rfl, rfl, hH, hz, q⟩ := h
  cases rx
  obtain ⟨u, rfl, ru⟩ := rv.one
  obtain ⟨z, its, n, r, hl, e⟩ := I.lstM hH
  refine call_meets F.slot_list_append ⟨_, e, rfl⟩ F.entry_list_append (F.args_list_append_2 _ _) (PySem.list_append l its.toArray n u (by rw [List.size_toArray]; omega)) ⟨e, ?_⟩
  refine ⟨.non, _, I.lset (its' := its ++ [u]) hH e (by simp) (r.append (.cons ru .nil)) ?_, rfl, q⟩
  rw [List.length_append, List.length_singleton]
  omega

def rExtend : V → List V → Hp → VK → Prop := fun x vs H Q => ∃ l b xs zs, x = .ref l ∧ vs = [.ref b] ∧ H l = some (.lst xs) ∧ H b = some (.lst zs) ∧ xs.length + zs.length ≤ sizeLine ∧ Q .non (upd H l (.lst (xs ++ zs)))
theorem mt_extend : MtM X "list.extend" rExtend := by
  intro pins s σ H x vs v us Q I rx rv h
  obtain ⟨l, b, xs, zs, rfl, rfl, hH, hB, hz, q⟩ := h
  cases rx
  obtain ⟨u, rfl, ru⟩ := rv.one
  cases ru
  obtain ⟨z, its, n, r, hl, e⟩ := I.lstM hH
  obtain ⟨z2, its2, n2, r2, hl2, e2⟩ := I.lstM hB
  have hsz : its.toArray.size + its2.toArray.size ≤ sizeLine := by rw [List.size_toArray, List.size_toArray]; omega
  have hlong : ¬ (!its.toArray.isEmpty && Builtin.List.listTooLong (its.toArray.size + its2.toArray.size)) = true := by
    rw [notLongL hsz, Bool.and_false]
    exact Bool.false_ne_true
  refine call_meets F.slot_list_extend ⟨_, e, rfl⟩ F.entry_list_extend (F.args_list_extend_2 _ _)
    (AutoSeq1.list_extend_list_list_0 l its.toArray n b its2.toArray n2 hlong (by rw [List.size_toArray]; omega) (by omega)) ⟨e, e2, ?_⟩
  refine ⟨.non, _, I.lset (its' := its ++ its2) hH e (by simp) (r.append r2) ?_, rfl, q⟩
  rw [List.length_append]
  omega

def rPop : V → List V → Hp → VK → Prop := fun x vs H Q => ∃ l xs y, x = .ref l ∧ vs = [] ∧ H l = some (.lst xs) ∧ xs[xs.length - 1]? = some y ∧ Q y (upd H l (.lst xs.dropLast))
theorem mt_pop : MtM X "list.pop" rPop := by
  intro pins s σ H x vs v us Q I rx rv h
  obtain ⟨l, xs, y, rfl, rfl, hH, hy, q⟩ := h
  cases rx
  have hus := rv.zero
  subst hus
  obtain ⟨z, its, n, r, hl, e⟩ := I.lstM hH
  obtain ⟨u, hu, ru⟩ := r.get hy
  have hy' : its.toArray[its.toArray.size - 1]? = some u := by
    show its.toArray[its.length - 1]? = some u
    rw [← Array.getElem?_toList, ← hl]
    exact hu
  refine call_meets F.slot_list_pop ⟨_, e, rfl⟩ F.entry_list_pop (F.args_list_pop_1 _) (MeetsSeq.list_pop_last l its.toArray n u hy' (by rw [List.size_toArray]; omega)) ⟨e, ?_⟩
  refine ⟨y, _, I.lset (its' := its.dropLast) hH e ?_ r.dropLast ?_, ru, q⟩
  · show its.toArray.eraseIdxIfInBounds (its.toArray.size - 1) = its.dropLast.toArray
    rw [List.size_toArray, List.eraseIdxIfInBounds_toArray, erase_last]
  · rw [List.length_dropLast]
    omega




/-! ### list + list, list += list, list * int -/
def rCat : R2 := fun x y H Q => ∃ l b xs zs, x = .ref l ∧ y = .ref b ∧ H l = some (.lst xs) ∧ H b = some (.lst zs) ∧ xs.length + zs.length ≤ sizeLine ∧ ∀ p, H p = none → Q (.ref p) (upd H p (.lst (xs ++ zs)))
theorem op_cat : OpR X (binaryOp .Add) rCat := by
  intro pins s σ H x y v u Q I rx ry h
  obtain ⟨l, b, xs, zs, rfl, rfl, hH, hB, hz, q⟩ := h
  cases rx
  cases ry
  obtain ⟨z, its, n, r, hl, e⟩ := I.lstM hH
  obtain ⟨z2, its2, n2, r2, hl2, e2⟩ := I.lstM hB
  refine PySem.P.add_list e e2 ?_ (by rw [List.size_toArray, List.size_toArray]; omega)
  have ea : its.toArray ++ its2.toArray = (its ++ its2).toArray := by simp
  rw [ea]
  exact ⟨.ref _, _, I.lnew (t' := s.toks) (r.append r2) (by rw [List.length_append]; omega), rfl, q _ I.fresh⟩

/-! ### del xs[i] -/
end

/-! ### xs[a:b] = ys -/
section
variable {prog : Program} {w : World} {A : Around} {E : Value → Shared → Prop} {s : Shared}
end

section
variable {X : Cx}
end
end L2

namespace L2
open PySem PySem.Spec PyProof.Rows

theorem Vals.ints : ∀ {ns : List Int} {us : List Value}, Vals (ns.map V.int) us → IntsAre us ns
  | [], us, h => by
    rw [List.map_nil] at h
    cases h
    exact IntsAre.nil
  | n :: ns, us, h => by
    rw [List.map_cons] at h
    cases h with
    | cons r t =>
      obtain ⟨k, rfl⟩ := r
      exact IntsAre.cons n k (Vals.ints t)
theorem vals_of_ints : ∀ {us : List Value} {ns : List Int}, IntsAre us ns → Vals (ns.map V.int) us
  | _, _, .nil => by rw [List.map_nil]; exact Paired.nil
  | _, _, .cons n t h => by rw [List.map_cons]; exact Paired.cons (show RelV (V.int n) (Value.int n t) from ⟨t, rfl⟩) (vals_of_ints h)
theorem Vals.ref1 {a : Addr} {us : List Value} (r : Vals [V.ref a] us) : us = [Value.ref a] := by
  cases r with
  | cons r t =>
    cases t
    cases r
    rfl
theorem Vals.int2 {i j : Int} {us : List Value} (r : Vals [V.int i, V.int j] us) : ∃ t u, us = [Value.int i t, Value.int j u] := by
  cases r with
  | cons r t =>
    cases t with
    | cons r2 t2 =>
      cases t2
      obtain ⟨t, rfl⟩ := r
      obtain ⟨u, rfl⟩ := r2
      exact ⟨t, u, rfl⟩

/-! ### the library's walks over a list of ints, kept objects alone -/
section
variable {prog : Program} {w : World} {A : Around} {E : Value → Shared → Prop} {s : Shared} {l : Addr} {its : List Value} {ns : List Int} {Q : Value → Shared → Prop}
end

/-! ### the calls, by values (CallR of 03t; MtR of 06l) -/
section
variable {X : Cx}

/-! sorted, sort (fewer than 64 items: the library's own bound) -/
end

/-! ### list.index, flat items -/
section
variable {X : Cx}
end

/-! ### type(x) of an own instance; is, is not of a module's class -/
section
variable {X : Cx}
end

/-! ### any(xs), all(xs) of a list of bools -/
section
variable {X : Cx}
end

/-! ### == and != of data at any depth: none, bools, ints, texts, lists, tuples -/
mutual
inductive Dp (K : PySem.W.Frag) (H : Hp) : V → PyData → Prop
  | non : Dp K H .non .none
  | bl (b : Bool) : Dp K H (.bl b) (.bool b)
  | int (i : Int) : Dp K H (.int i) (.int i)
  | str (x : Str) : Dp K H (.str x) (.str x)
  | lst {a : Addr} {xs : List V} {ds : List PyData} : SqL K H a xs → DpAll K H xs ds → Dp K H (.ref a) (.list ds)
  | tup {a : Addr} {xs : List V} {ds : List PyData} : SqT K H a xs → DpAll K H xs ds → Dp K H (.ref a) (.tuple ds)
inductive DpAll (K : PySem.W.Frag) (H : Hp) : List V → List PyData → Prop
  | nil : DpAll K H [] []
  | cons {v : V} {vs : List V} {d : PyData} {ds : List PyData} : Dp K H v d → DpAll K H vs ds → DpAll K H (v :: vs) (d :: ds)
end
section
variable {X : Cx} {pins : List (Addr × Obj)} {σ : St} {H : Hp} {s : Shared}
mutual
theorem Dp.reads (I : Inv X pins σ H s) : ∀ (d : PyData) (v : V) (u : Value), Dp X.K H v d → RelV v u → ∃ as, Reads s.heap u d as
  | .none, _, _, h, r => by
    cases h
    cases r
    exact ⟨_, Reads.none⟩
  | .bool b, _, _, h, r => by
    cases h
    cases r
    exact ⟨_, Reads.bool b⟩
  | .int i, _, _, h, r => by
    cases h
    obtain ⟨t, rfl⟩ := r
    exact ⟨_, Reads.int i t⟩
  | .str x, _, _, h, r => by
    cases h
    obtain ⟨t, rfl⟩ := r
    exact ⟨_, Reads.str x t⟩
  | .list ds, _, _, h, r => by
    cases h with
    | lst hs ha =>
      cases r
      obtain ⟨its, rv, ⟨o, n, ho, hc, _, hd⟩, _⟩ := I.list hs
      obtain ⟨as, hr⟩ := Dp.readsAll I ds _ its ha rv
      exact ⟨_, Reads.list ho hc hd hr⟩
  | .tuple ds, _, _, h, r => by
    cases h with
    | tup hs ha =>
      cases r
      obtain ⟨its, rv, ⟨o, ho, hc, n, hd⟩, _⟩ := I.tuple hs
      obtain ⟨as, hr⟩ := Dp.readsAll I ds _ its ha rv
      exact ⟨_, Reads.tuple ho hc hd hr⟩
  | .dict _, _, _, h, _ => by cases h
theorem Dp.readsAll (I : Inv X pins σ H s) : ∀ (ds : List PyData) (vs : List V) (us : List Value), DpAll X.K H vs ds → Vals vs us → ∃ as, ReadsAll s.heap us ds as
  | [], _, _, h, r => by
    cases h
    cases r
    exact ⟨_, ReadsAll.nil⟩
  | d :: ds, _, _, h, r => by
    cases h with
    | cons h1 h2 =>
      cases r with
      | cons r1 r2 =>
        obtain ⟨as, q1⟩ := Dp.reads I d _ _ h1 r1
        obtain ⟨bs, q2⟩ := Dp.readsAll I ds _ _ h2 r2
        exact ⟨_, ReadsAll.cons q1 q2⟩
end
end
section
variable {X : Cx}
def rEqD (K : PySem.W.Frag) : R2 := fun x y H Q => ∃ d e, Dp K H x d ∧ Dp K H y e ∧ SeqAt.shaped d = true ∧ SeqAt.shaped e = true ∧ Q (.bl (PyData.eqv d e)) H
def rNeD (K : PySem.W.Frag) : R2 := fun x y H Q => ∃ d e, Dp K H x d ∧ Dp K H y e ∧ SeqAt.shaped d = true ∧ SeqAt.shaped e = true ∧ Q (.bl (!PyData.eqv d e)) H
theorem op_eqD (hu : X.A.units + 64 < cLine) : OpR X (compareOp .Eq) (rEqD X.K) := by
  intro pins s σ H x y v u Q I rx ry h
  obtain ⟨d, e, hd, he, sd, se, q⟩ := h
  obtain ⟨as, r1⟩ := Dp.reads I d x v hd rx
  obtain ⟨bs, r2⟩ := Dp.reads I e y u he ry
  exact SeqAt.compareEq_shaped r1 r2 sd se hu ⟨.bl _, H, I, rfl, q⟩
theorem op_neD (hu : X.A.units + 64 < cLine) : OpR X (compareOp .NotEq) (rNeD X.K) := by
  intro pins s σ H x y v u Q I rx ry h
  obtain ⟨d, e, hd, he, sd, se, q⟩ := h
  obtain ⟨as, r1⟩ := Dp.reads I d x v hd rx
  obtain ⟨bs, r2⟩ := Dp.reads I e y u he ry
  exact SeqAt.compareNe_shaped r1 r2 sd se hu ⟨.bl _, H, I, rfl, q⟩
end
end L2

namespace L2
open PySem PySem.Spec PyProof.Rows
abbrev CellAt (h : Heap) (c : Addr) (v : Option Value) : Prop := h.IsCell c v
def relS (scope sc : Scope) : Scope :=
  { scope with names := scope.names.map fun (n, k) => if (k == .free && sc.kind == .function && sc.names.lookup n == some .cell) then (n, .cell) else (n, k) }

def cloFrom (cells : List (Str × Addr)) : List (Str × NameKind) → List (Str × Addr) → List (Str × Addr)
  | [], acc => acc
  | (n, k) :: r, acc => if k == .free then cloFrom cells r ((n, (cells.lookup n).getD 0) :: acc) else cloFrom cells r acc

theorem closure_loop (env : Env) (f : Str × NameKind → List (Str × Addr) → Sem (ForInStep (List (Str × Addr))))
    (hf : ∀ n k c, f (n, k) c = if k == .free then (do let a ← cellOf env n; pure (.yield ((n, a) :: c))) else pure (.yield c)) :
    ∀ (names : List (Str × NameKind)) (acc : List (Str × Addr)), (∀ y ∈ names, y.2 = .free → ∃ c, env.cells.lookup y.1 = some c) → forIn names acc f = pure (cloFrom env.cells names acc)
  | [], acc, _ => by rw [List.forIn_nil]; rfl
  | (n, k) :: r, acc, h => by
    rw [List.forIn_cons, hf]
    have ih := fun acc => closure_loop env f hf r acc fun y hy => h y (List.mem_cons_of_mem _ hy)
    unfold cloFrom
    by_cases hk : (k == NameKind.free) = true
    · rw [if_pos hk, if_pos hk]
      obtain ⟨c, hc⟩ := h (n, k) List.mem_cons_self (by simpa using hk)
      have e : cellOf env n = pure c := by unfold cellOf; rw [hc]
      rw [e]
      have e2 : (env.cells.lookup n).getD 0 = c := by rw [hc]; rfl
      rw [e2]
      exact ih _
    · rw [if_neg hk, if_neg hk]
      exact ih _
theorem closure_ok {scope : Scope} {env : Env} (h : ∀ y ∈ scope.names, y.2 = .free → ∃ c, env.cells.lookup y.1 = some c) : closureFor scope env = pure (cloFrom env.cells scope.names []) := by
  simp only [closureFor]
  rw [closure_loop env _ (fun n k c => rfl) scope.names [] h]
  rfl

theorem mem_lookup {α : Type} : ∀ {l : List (Str × α)} {n : Str} {c : α}, (n, c) ∈ l → ∃ c', l.lookup n = some c'
  | (k, v) :: r, n, c, h => by
    rw [List.lookup_cons]
    cases hb : n == k with
    | true => exact ⟨_, rfl⟩
    | false =>
      rcases List.mem_cons.mp h with e | h
      · cases e; simp at hb
      · exact mem_lookup h

theorem cloFrom_mem {cells : List (Str × Addr)} : ∀ {names : List (Str × NameKind)} {acc : List (Str × Addr)} {n : Str} {c : Addr}, (n, c) ∈ cloFrom cells names acc → (n, c) ∈ acc ∨ ((n, .free) ∈ names ∧ c = (cells.lookup n).getD 0)
  | [], _, _, _, h => .inl h
  | (m, k) :: r, acc, n, c, h => by
    unfold cloFrom at h
    split at h
    · rename_i hk
      have hk : k = .free := by simpa using hk
      rcases cloFrom_mem h with h | ⟨h1, h2⟩
      · rcases List.mem_cons.mp h with e | h
        · cases e; exact .inr ⟨hk ▸ List.mem_cons_self, rfl⟩
        · exact .inl h
      · exact .inr ⟨List.mem_cons_of_mem _ h1, h2⟩
    · rcases cloFrom_mem h with h | ⟨h1, h2⟩
      · exact .inl h
      · exact .inr ⟨List.mem_cons_of_mem _ h1, h2⟩
theorem cloFrom_acc {cells : List (Str × Addr)} : ∀ {names : List (Str × NameKind)} {acc : List (Str × Addr)} {p : Str × Addr}, p ∈ acc → p ∈ cloFrom cells names acc
  | [], _, _, h => h
  | (m, k) :: r, acc, p, h => by
    unfold cloFrom
    split
    · exact cloFrom_acc (List.mem_cons_of_mem _ h)
    · exact cloFrom_acc h
theorem cloFrom_has {cells : List (Str × Addr)} : ∀ {names : List (Str × NameKind)} {acc : List (Str × Addr)} {n : Str}, (n, .free) ∈ names → (n, (cells.lookup n).getD 0) ∈ cloFrom cells names acc
  | (m, k) :: r, acc, n, h => by
    unfold cloFrom
    rcases List.mem_cons.mp h with e | h
    · cases e
      exact cloFrom_acc List.mem_cons_self
    · split
      · exact cloFrom_has h
      · exact cloFrom_has h

theorem cells_mem : ∀ {names : List (Str × NameKind)} {h : Heap} {acc : List (Str × Addr)} {x : Str} {c : Addr}, (x, c) ∈ cellsFrom h.objs.size names acc →
    (x, c) ∈ acc ∨ ((x, .cell) ∈ names ∧ h.objs.size ≤ c ∧ CellAt (pushCells h names) c none)
  | [], _, _, _, _, h => .inl h
  | (n, k) :: r, h, acc, x, c, hm => by
    unfold cellsFrom at hm
    unfold pushCells
    split at hm
    · rename_i hk
      rw [if_pos hk]
      have hk : k = .cell := by simpa using hk
      rw [← Heap.size_push h { cls := .type "cell", data := .cell none }] at hm
      rcases cells_mem hm with hm | ⟨h1, h2, h3⟩
      · rcases List.mem_cons.mp hm with e | hm
        · cases e
          exact .inr ⟨hk ▸ List.mem_cons_self, Nat.le_refl _, _, pushCells_keeps r _ _ _ (Heap.get?_push_size _ rfl), rfl⟩
        · exact .inl hm
      · rw [Heap.size_push] at h2
        exact .inr ⟨List.mem_cons_of_mem _ h1, Nat.le_of_succ_le h2, h3⟩
    · rename_i hk
      rw [if_neg hk]
      rcases cells_mem hm with hm | ⟨h1, h2, h3⟩
      · exact .inl hm
      · exact .inr ⟨List.mem_cons_of_mem _ h1, h2, h3⟩
theorem cells_acc : ∀ {names : List (Str × NameKind)} {n : Nat} {acc : List (Str × Addr)} {p : Str × Addr}, p ∈ acc → p ∈ cellsFrom n names acc
  | [], _, _, _, h => h
  | (m, k) :: r, n, acc, p, h => by
    unfold cellsFrom
    split
    · exact cells_acc (List.mem_cons_of_mem _ h)
    · exact cells_acc h
theorem cells_has : ∀ {names : List (Str × NameKind)} {n : Nat} {acc : List (Str × Addr)} {x : Str}, (x, .cell) ∈ names → ∃ c, (x, c) ∈ cellsFrom n names acc
  | (m, k) :: r, n, acc, x, h => by
    unfold cellsFrom
    rcases List.mem_cons.mp h with e | h
    · cases e
      exact ⟨n, cells_acc List.mem_cons_self⟩
    · split
      · exact cells_has h
      · exact cells_has h
theorem cells_inj : ∀ {names : List (Str × NameKind)} {h : Heap} {acc : List (Str × Addr)} {x y : Str} {c : Addr}, (∀ p ∈ acc, p.2 < h.objs.size) → (∀ x y c, (x, c) ∈ acc → (y, c) ∈ acc → x = y) →
    (x, c) ∈ cellsFrom h.objs.size names acc → (y, c) ∈ cellsFrom h.objs.size names acc → x = y
  | [], _, _, _, _, _, _, hi, h1, h2 => hi _ _ _ h1 h2
  | (n, k) :: r, h, acc, x, y, c, hl, hi, h1, h2 => by
    unfold cellsFrom at h1 h2
    split at h1
    · rename_i hk
      rw [if_pos hk] at h2
      rw [← Heap.size_push h { cls := .type "cell", data := .cell none }] at h1 h2
      refine cells_inj (h := h.push _) (fun p hp => ?_) (fun x y c a b => ?_) h1 h2
      · rw [Heap.size_push]
        rcases List.mem_cons.mp hp with rfl | hp
        · exact Nat.lt_succ_self _
        · exact Nat.lt_succ_of_lt (hl p hp)
      · rcases List.mem_cons.mp a with e | a <;> rcases List.mem_cons.mp b with e' | b
        · cases e; cases e'; rfl
        · cases e; exact absurd (hl _ b) (Nat.lt_irrefl _)
        · cases e'; exact absurd (hl _ a) (Nat.lt_irrefl _)
        · exact hi _ _ _ a b
    · rename_i hk
      rw [if_neg hk] at h2
      exact cells_inj hl hi h1 h2

theorem newEnv_comp {M : Model} {A : Around} {E : Value → Shared → Prop} {s : Shared} {scope : Scope} {globals : Addr} {closure : List (Str × Addr)} {qual : Str} {func : Option Addr} {code : Value} {around : Env} {builtins : Addr} {Q : Env → Shared → Prop}
    (h : Q (newEnv scope s.heap.objs.size globals (cellsFrom (s.heap.objs.size + 1) scope.names closure) qual func code (some around) builtins)
      { s with heap := pushCells (s.heap.push { cls := .type "dict", data := .dict #[] }) scope.names }) :
    wpAny M A (newFunctionEnv scope globals closure [] qual func code (some around) builtins) Q E s := by
  simp only [newFunctionEnv, Option.isSome_some, if_true]
  refine wpAny_bind (wpAny_alloc ?_)
  refine wpAny_bind (wpAny_layCells _ (fun n k c => rfl) scope.names closure _ _ ?_)
  rw [show ({ s with heap := s.heap.push { cls := .type "dict", data := .dict #[] } } : Shared).heap.objs.size = s.heap.objs.size + 1 from Heap.size_push ..]
  rw [List.forIn_nil]
  exact wpAny_bind (wpAny_pure (wpAny_pure h))

/-- every name of the written scope, in the scope that runs -/
theorem lookup_relS {sc : Scope} : ∀ {names : List (Str × NameKind)} {x : Str} {k : NameKind},
    (names.map fun (n, k) => if (k == NameKind.free && sc.kind == .function && sc.names.lookup n == some .cell) then (n, NameKind.cell) else (n, k)).lookup x = some k →
    ∃ k', names.lookup x = some k' ∧ (k = k' ∨ (k' = .free ∧ k = .cell))
  | [], _, _, h => by simp at h
  | (n, k₀) :: r, x, k, h => by
    have ih := @lookup_relS sc r x k
    have h' : List.lookup x ((if (k₀ == NameKind.free && sc.kind == .function && sc.names.lookup n == some .cell) = true then (n, NameKind.cell) else (n, k₀)) :: (r.map _)) = some k := h
    cases hx : x == n with
    | true =>
      simp only [List.lookup_cons, hx]
      by_cases hc : (k₀ == NameKind.free && sc.kind == .function && sc.names.lookup n == some .cell) = true
      · rw [if_pos hc] at h'
        simp only [List.lookup_cons, hx] at h'
        cases h'
        simp only [Bool.and_eq_true, beq_iff_eq] at hc
        exact ⟨k₀, rfl, .inr ⟨hc.1.1, rfl⟩⟩
      · rw [if_neg hc] at h'
        simp only [List.lookup_cons, hx] at h'
        cases h'
        exact ⟨_, rfl, .inl rfl⟩
    | false =>
      simp only [List.lookup_cons, hx]
      by_cases hc : (k₀ == NameKind.free && sc.kind == .function && sc.names.lookup n == some .cell) = true
      · rw [if_pos hc] at h'
        simp only [List.lookup_cons, hx] at h'
        exact ih h'
      · rw [if_neg hc] at h'
        simp only [List.lookup_cons, hx] at h'
        exact ih h'



/-- the names of a comprehension's block: its own (with their places in N), or captured -/
structure BlkOk (N : List Str) (sc scope : Scope) (own : List (Str × Nat)) : Prop where
  kind : scope.kind = .function
  uniq : ∀ y ∈ scope.names, scope.names.lookup y.1 = some y.2
  ix : ∀ p ∈ own, N[p.2]? = some p.1
  free : ∀ y ∈ scope.names, y.2 = .free → sc.names.lookup y.1 = some .cell ∨ sc.names.lookup y.1 = some .free
  own : ∀ y ∈ scope.names, y.2 = .local ∨ y.2 = .cell → y.1 ∈ own.map (·.1) ∨ y.1 ∉ N
/-- the slots of the block's own names forgotten -/
def wipe (σ : St) : List Nat → St
  | [] => σ
  | v :: vs => (wipe σ vs).set v none
theorem wipe_length (σ : St) : ∀ vs : List Nat, (wipe σ vs).length = σ.length
  | [] => rfl
  | v :: vs => by unfold wipe; rw [List.length_set, wipe_length σ vs]
theorem wipe_some {σ : St} {i : Nat} {x : V} : ∀ {vs : List Nat}, (wipe σ vs)[i]? = some (some x) → σ[i]? = some (some x) ∧ i ∉ vs
  | [], h => ⟨h, by simp⟩
  | v :: vs, h => by
    unfold wipe at h
    by_cases hi : v = i
    · subst hi
      by_cases hv : v < (wipe σ vs).length
      · rw [List.getElem?_set_self hv] at h; cases h
      · rw [List.getElem?_eq_none (by simpa using hv)] at h; cases h
    · rw [List.getElem?_set_ne hi] at h
      obtain ⟨h1, h2⟩ := wipe_some h
      exact ⟨h1, by simp only [List.mem_cons, not_or]; exact ⟨fun e => hi e.symm, h2⟩⟩

/-- the context of a block that starts at s, its iterator's objects at fp -/
abbrev Cx.blk (X : Cx) (s : Shared) (H : Hp) (scope : Scope) (cenv : Env) (fp : List Addr) : Cx := { X with s_0 := s, H_0 := H, env := cenv, outer := X.stack, ex := fp, fn := fun x => scope.names.lookup x == some .cell, pn := [], xe := fun _ _ => False }
section
variable {X : Cx} {pins : List (Addr × Obj)} {σ : St} {H : Hp} {s : Shared}
theorem block_start {scope : Scope} {own : List (Str × Nat)} {fp : List Addr} (I : Inv X pins σ H s) (ok : BlkOk X.N X.env.scope scope own) (hN : X.N.Nodup) (hfp : ∀ b ∈ fp, FpOk X pins H b ∧ b < s.heap.objs.size) :
    Inv (X.blk s H scope (compEnvC scope (cellsFrom (s.heap.objs.size + 1) scope.names (cloFrom X.env.cells scope.names [])) s.heap.objs.size X.env) fp) [] (wipe σ (own.map (·.2))) H { s with heap := pushCells (s.heap.push { cls := .type "dict", data := .dict #[] }) scope.names } := by
  have hfree : ∀ y ∈ scope.names, y.2 = .free → ∃ c, X.env.cells.lookup y.1 = some c := fun y hy e => by
    rcases ok.free y hy e with k | k
    · exact I.ok.has _ (.inl k)
    · exact I.ok.has _ (.inr k)
  generalize hcenv : compEnvC scope (cellsFrom (s.heap.objs.size + 1) scope.names (cloFrom X.env.cells scope.names [])) s.heap.objs.size X.env = cenv
  have kp : ∀ b o, s.heap.get? b = some o → (pushCells (s.heap.push { cls := .type "dict", data := .dict #[] }) scope.names).get? b = some o := fun b o e => pushCells_keeps _ _ _ _ (Heap.get?_push_of_some _ e)
  have hL : cenv.locals = s.heap.objs.size := by rw [← hcenv]; rfl
  have hcl : cenv.cells = cellsFrom (s.heap.objs.size + 1) scope.names (cloFrom X.env.cells scope.names []) := by rw [← hcenv]; rfl
  have hsc : cenv.scope = relS scope X.env.scope := by rw [← hcenv]; rfl
  rw [← Heap.size_push s.heap { cls := .type "dict", data := .dict #[] }] at hcl
  have cm : ∀ {y c}, (y, c) ∈ cloFrom X.env.cells scope.names [] → X.env.cells.lookup y = some c ∧ c < s.heap.objs.size := fun {y c} hm => by
    rcases cloFrom_mem hm with hm | ⟨h1, rfl⟩
    · cases hm
    · obtain ⟨c, hc⟩ := hfree _ h1 rfl
      rw [hc]
      obtain ⟨w, z⟩ := I.cell _ _ hc
      exact ⟨rfl, z.lt⟩
  have mem : ∀ {y c}, cenv.cells.lookup y = some c → (X.env.cells.lookup y = some c ∧ c < s.heap.objs.size) ∨ (s.heap.objs.size + 1 ≤ c ∧ CellAt (pushCells (s.heap.push { cls := .type "dict", data := .dict #[] }) scope.names) c none) := fun {y c} e => by
    rw [hcl] at e
    rcases cells_mem (PySem.mem_of_lookup e) with hm | ⟨_, h2, h3⟩
    · exact .inl (cm hm)
    · rw [Heap.size_push] at h2; exact .inr ⟨h2, h3⟩
  have look : ∀ {y}, scope.names.lookup y = some .free → ∃ c, cenv.cells.lookup y = some c ∧ X.env.cells.lookup y = some c := fun {y} hl => by
    have hy : (y, NameKind.free) ∈ scope.names := PySem.mem_of_lookup hl
    obtain ⟨c', e'⟩ := mem_lookup (cells_acc (names := scope.names) (n := (s.heap.push { cls := .type "dict", data := .dict #[] }).objs.size) (cloFrom_has (cells := X.env.cells) (acc := []) hy))
    rw [← hcl] at e'
    refine ⟨c', e', ?_⟩
    rw [hcl] at e'
    rcases cells_mem (PySem.mem_of_lookup e') with hm | ⟨h1, _, _⟩
    · exact (cm hm).1
    · have := ok.uniq _ h1
      rw [hl] at this; cases this
  have okB : (X.blk s H scope cenv fp).Ok := by
    refine ⟨I.ok.mod, by show cenv.scope.kind = _; rw [hsc]; exact ok.kind, by show cenv.globals = _; rw [← hcenv]; exact I.ok.glob, by show cenv.builtins = _; rw [← hcenv]; exact I.ok.blt, by show s.heap.objs.size ≤ cenv.locals; rw [hL]; exact Nat.le_refl _,
      fun y z c e1 e2 => ?_, fun y hy => ?_, fun y c z e => ?_, I.ok.hd, I.ok.frames, .inl rfl, fun b hb => ⟨?_, fun y c e z => ?_⟩, I.bs, Nat.le_trans I.ok.bsz I.sz, fun b o e hb => ?_, fun b hb z => ?_, I.stack, I.stkFree⟩
    · have e1 : cenv.cells.lookup y = some c := e1
      have e2 : cenv.cells.lookup z = some c := e2
      rw [hcl] at e1 e2
      refine cells_inj (fun p hp => ?_) (fun y z c a b => I.ok.inj y z c (cm a).1 (cm b).1) (PySem.mem_of_lookup e1) (PySem.mem_of_lookup e2)
      rw [Heap.size_push]
      exact Nat.lt_succ_of_lt (cm (y := p.1) (c := p.2) hp).2
    · show ∃ c, cenv.cells.lookup y = some c
      have key : ∀ k, cenv.kindOf y = some k → (k = .cell ∨ k = .free) → ∃ c, cenv.cells.lookup y = some c := fun k hk hk' => by
        unfold Env.kindOf at hk
        rw [hsc] at hk
        obtain ⟨k', e, r⟩ := lookup_relS hk
        have : k' = .cell ∨ k' = .free := by
          rcases r with rfl | ⟨rfl, _⟩
          · exact hk'
          · exact .inr rfl
        rcases this with rfl | rfl
        · obtain ⟨c, hm⟩ := cells_has (n := (s.heap.push { cls := .type "dict", data := .dict #[] }).objs.size) (acc := cloFrom X.env.cells scope.names []) (PySem.mem_of_lookup e)
          obtain ⟨c', e'⟩ := mem_lookup hm
          exact ⟨c', by rw [hcl]; exact e'⟩
        · obtain ⟨c, h1, _⟩ := look e
          exact ⟨c, h1⟩
      rcases hy with hy | hy
      · exact key _ hy (.inl rfl)
      · exact key _ hy (.inr rfl)
    · have z : (scope.names.lookup y == some NameKind.cell) = true := z
      have z : scope.names.lookup y = some .cell := by simpa using z
      have e : cenv.cells.lookup y = some c := e
      rw [hcl] at e
      rcases cells_mem (PySem.mem_of_lookup e) with hm | ⟨_, h2, _⟩
      · rcases cloFrom_mem hm with hm | ⟨h1, _⟩
        · cases hm
        · have q := ok.uniq _ h1
          rw [z] at q; cases q
      · rw [Heap.size_push] at h2
        exact Nat.le_of_succ_le h2
    · show b ≠ cenv.locals
      rw [hL]; exact Nat.ne_of_lt (hfp b hb).2
    · have e : cenv.cells.lookup y = some c := e
      rcases mem e with ⟨h1, _⟩ | ⟨h1, _⟩
      · exact (hfp b hb).1.2.2.2.2.1 y c h1 z
      · have h2 : s.heap.objs.size + 1 ≤ b := by rw [← z]; exact h1
        exact absurd (Nat.lt_of_lt_of_le (hfp b hb).2 (Nat.le_of_succ_le h2)) (Nat.lt_irrefl _)
    · rcases (hfp b hb).1.2.2.2.1 with z | z
      · exact I.ok.noex b o e z
      · exact absurd (Nat.lt_of_lt_of_le (Heap.lt_size e) (Nat.le_trans I.ok.bsz z)) (Nat.lt_irrefl _)
    · rcases List.mem_cons.mp (I.stkSub b z) with z | z
      · exact (hfp b hb).1.2.1 z
      · exact (hfp b hb).1.2.2.1 z
  refine ⟨okB, rfl, I.bare, Un.kept kp, ⟨fun _ => none, ?_, fun i y av e1 e2 e3 => ?_⟩, fun y c e => ?_, ?_, fun y c e => ?_, fun p hp => ?_, I.hok.kept kp, by rw [wipe_length]; exact I.len⟩
  · show Heap.Ns _ cenv.locals _
    rw [hL]
    exact Heap.Ns.keeps (Heap.Ns.new ..) fun b o e => pushCells_keeps _ _ _ _ e
  · obtain ⟨e2, hne⟩ := wipe_some e2
    have hfr : scope.names.lookup y = some .free ∧ (cenv.kindOf y = some .cell ∨ cenv.kindOf y = some .free) := by
      have key : ∀ k, cenv.scope.names.lookup y = some k → k = .local ∨ k = .cell ∨ k = .free → scope.names.lookup y = some .free ∧ (cenv.kindOf y = some .cell ∨ cenv.kindOf y = some .free) := fun k hk hk' => by
        have hk0 := hk
        rw [hsc] at hk
        obtain ⟨k', e, r⟩ := lookup_relS hk
        have no : ¬ (k' = .local ∨ k' = .cell) := fun hh => by
          rcases ok.own _ (PySem.mem_of_lookup e) hh with e' | e'
          · obtain ⟨p, hp, hpy⟩ := List.mem_map.mp e'
            have e3 := ok.ix p hp
            have : p.1 = y := hpy
            rw [this] at e3
            exact hne (List.mem_map.mpr ⟨p, hp, nodup_ix hN e3 e1⟩)
          · exact e' (List.mem_of_getElem? e1)
        rcases r with rfl | ⟨rfl, rfl⟩
        · rcases hk' with rfl | rfl | rfl
          · exact absurd (.inl rfl) no
          · exact absurd (.inr rfl) no
          · exact ⟨e, .inr hk0⟩
        · exact ⟨e, .inl hk0⟩
      have e3 : Vis cenv.scope y := e3
      rcases e3 with e3 | e3 | e3
      · exact key _ e3 (.inl rfl)
      · exact key _ e3 (.inr (.inl rfl))
      · exact key _ e3 (.inr (.inr rfl))
    obtain ⟨m, hn, hl⟩ := I.loc
    have hvis : Vis X.env.scope y := (ok.free _ (PySem.mem_of_lookup hfr.1) rfl).elim (fun k => .inr (.inl k)) (fun k => .inr (.inr k))
    obtain ⟨w, r, q⟩ := hl i y av e1 e2 hvis
    refine ⟨w, r, .inr ⟨hfr.2, ?_⟩⟩
    obtain ⟨c, h1, h2⟩ := look hfr.1
    rcases q with ⟨k, _⟩ | ⟨_, c', e', z⟩
    · have k : X.env.scope.names.lookup y = some .local := k
      rcases ok.free _ (PySem.mem_of_lookup hfr.1) rfl with k' | k' <;> rw [show X.env.scope.names.lookup y = _ from k'] at k <;> cases k
    · rw [h2] at e'; cases e'
      exact ⟨c, h1, z.keeps kp⟩
  · have e : cenv.cells.lookup y = some c := e
    rcases mem e with ⟨h1, _⟩ | ⟨_, z⟩
    · obtain ⟨w, z⟩ := I.cell y c h1
      exact ⟨w, z.keeps kp⟩
    · exact ⟨_, z⟩
  · show H cenv.locals = none
    rw [hL]; exact I.hok.fresh (Nat.le_refl _)
  · have e : cenv.cells.lookup y = some c := e
    rcases mem e with ⟨h1, _⟩ | ⟨h1, _⟩
    · exact I.freeC y c h1
    · exact I.hok.fresh (Nat.le_of_succ_le h1)
  · exact absurd (show p ∈ ([] : List (Addr × Obj)) ++ [] from hp) (by simp)

/-- an item appended to a tracked list -/
theorem app_ok {E : Value → Shared → Prop} {D : Addr} {xs : List V} {y : V} {v : Value} {Q : Value → Shared → Prop} (I : Inv X pins σ H s) (hD : H D = some (.lst xs)) (hz : xs.length < sizeLine) (r : RelV y v)
    (h : ∀ s', Inv X pins σ (upd H D (.lst (xs ++ [y]))) s' → Q .none s') : wpAny (model X.prog X.w) X.A (call (.builtin "list.append") [.ref D, v]) Q E s := by
  obtain ⟨hz', its, n, ri, e⟩ := I.hok D _ hD
  have hl := ri.length
  refine append_at (hsz := by rw [List.size_toArray]; omega) e fun h' sb ho' => ?_
  refine h { s with heap := h' } (I.write (t' := s.toks) (by rw [hD]; trivial) (.inl rfl) (fun b u hb q => (sb.2 b hb).trans q) ⟨_, ho'⟩ ⟨by rw [List.length_append]; exact hz, its ++ [v], n + 1, ri.append (.cons r .nil), ?_⟩)
  rw [ho']
  simp

/-- a clause's tests -/
def PTs (X : Cx) (ifs : List Expr) (t : TT) : Prop :=
  ∀ (pins : List (Addr × Obj)) (s : Shared) (σ : St) (H : Hp) (Q : Bool → Hp → Prop), Inv X pins σ H s → t σ H Q →
    wpAny (model X.prog X.w) X.A (forIn ifs true fun c r => if r = true then do let ok ← isTrue c X.env (eval c X.env); pure (ForInStep.yield ok) else pure (ForInStep.yield r)) (TP X pins σ Q) X.xe s
def tYes : TT := fun _ H Q => Q true H
theorem pts_nil : PTs X [] tYes := fun _ _ _ H _ I h => wpAny_tests_nil ⟨H, I, h⟩
theorem pts_one {c : Expr} {t : TT} (h : PT X c t) : PTs X [c] t := fun pins s σ H Q I hw => wpAny_tests_one (h pins s σ H Q I hw)
end

theorem thnF {α : Type} {t : Sem α} {Q Q' : α → Shared → Prop} {M : Model} {A : Around} {E : Value → Shared → Prop} {s : Shared} (h : wpAny M A t Q (fun _ _ => False) s) (hQ : ∀ a s, Q a s → Q' a s) : wpAny M A t Q' E s := wpAny_mono h hQ fun _ _ z => False.elim z

/-- the loop of a list comprehension's block, the target of any form (codeAny_compLoop_tests asks a target that no tuple goes to; statement and proof follow it, PyProof/CompMap.lean:41-61, with the step letOwnedTupleGo kept) -/
theorem compLoop_any {prog : Program} {w : World} {A : Around} {R : Result → Shared → Prop} {s : Shared} {elt target iter : Expr} {ifs : List Expr} {scope : Scope} {pos : Pos} {it acc : Value} {env : Env} (I : Nat → Shared → Prop)
    (turn : ∀ n s, I n s → wpAny (model prog w) A (pyNext it) (fun r s₁ => match r with
      | none => R (.ok .next) s₁
      | some v => wpAny (model prog w) A (letOwnedTupleGo target it v) (fun _ s₁' => wpAny (model prog w) A (assign target env v) (fun _ s₂ =>
          wpAny (model prog w) A (forIn ifs true fun c r => if r = true then do let ok ← isTrue c env (eval c env); pure (ForInStep.yield ok) else pure (ForInStep.yield r)) (fun ok s₃ =>
            if ok = true then wpAny (model prog w) A (eval elt env) (fun x s₄ =>
              wpAny (model prog w) A (call (.builtin "list.append") [acc, x]) (fun _ s₅ => ∃ m, m < n ∧ I m s₅) (notedBy (model prog w) A env fun e s' => R (.error e) s') s₄) (notedBy (model prog w) A env fun e s' => R (.error e) s') s₃
            else ∃ m, m < n ∧ I m s₃) (notedBy (model prog w) A env fun e s' => R (.error e) s') s₂) (notedBy (model prog w) A env fun e s' => R (.error e) s') s₁') (notedBy (model prog w) A env fun e s' => R (.error e) s') s₁) (notedBy (model prog w) A env fun e s' => R (.error e) s') s)
    (n : Nat) (h : I n s) :
    codeAny (model prog w) A (.compLoop (.ListComp elt [⟨target, iter, ifs, 0⟩] scope pos) 0 it acc env) R s := by
  refine codeAny_loop rfl I (fun n s hI => ?_) n h
  show wpAny _ A ((compTurn (.ListComp elt [⟨target, iter, ifs, 0⟩] scope pos) 0 it acc env).onRaise (fun x => do noteFrame x env; theTreesLotGoes x)) _ _ s
  refine wpAny_noted ?_
  rw [compTurn_list]
  refine wpAny_bind (wpAny_standAt (wpAny_bind (wpAny_mono (turn n s hI) (fun r s₁ h₁ => ?_) fun _ _ h' => h')))
  cases r with
  | none => exact wpAny_pure h₁
  | some v =>
    refine wpAny_bind (wpAny_mono h₁ (fun _ s₁' h₁' => ?_) fun _ _ h' => h')
    refine wpAny_bind (wpAny_mono h₁' (fun _ s₂ h₂ => wpAny_bind (wpAny_mono h₂ (fun ok s₃ h₃ => ?_) fun _ _ h' => h')) fun _ _ h' => h')
    cases ok with
    | false => exact wpAny_pure ⟨rfl, h₃⟩
    | true =>
      exact wpAny_bind (wpAny_bind (wpAny_mono h₃ (fun x s₄ h₄ => wpAny_bind (wpAny_mono h₄ (fun _ s₅ h₅ => wpAny_pure (wpAny_pure ⟨rfl, h₅⟩)) fun _ _ h' => h')) fun _ _ h' => h'))

section
variable {X : Cx}
/-- [elt for target in iter if ..]: D the new list; W by the turn and a measure, Nx what a turn is to reach -/
def tLc (wi : TI) (g : TG) (tt : TT) (te : TE) (vs : List Nat) : TE := fun σ H Q => wi σ H fun J H1 => ∀ D, H1 D = none → ∃ W : Nat → Nat → Hp → Prop, (∃ m, W 0 m (upd H1 D (.lst []))) ∧ ∀ i m H, W i m H →
  (J.stop i H ∧ Q (.ref D) H) ∨ (J.go i H ∧ ∃ Nx : Hp → Prop, (∀ H', Nx H' → ∃ m', m' < m ∧ W (i + 1) m' H') ∧ ∀ x H', J.yld i H x H' → g x (wipe σ vs) H' fun σ2 H2 => wipe σ2 vs = wipe σ vs ∧ tt σ2 H2 fun b H3 =>
    if b = true then te σ2 H3 fun y H4 => ∃ acc, H4 D = some (.lst acc) ∧ acc.length < sizeLine ∧ Nx (upd H4 D (.lst (acc ++ [y]))) else Nx H3)
theorem lc_core {pins : List (Addr × Obj)} {s : Shared} {σ : St} {H : Hp} {Q : VK} {elt tg iter : Expr} {ifs : List Expr} {scope : Scope} {own : List (Str × Nat)} {pos pos' : Pos} {wi : TI} {g : TG} {tt : TT} {te : TE} {use : Option (Value → Sem Unit)} {Qf : Value → Shared → Prop}
    (hc : X.calm = true) (hN : X.N.Nodup) (I : Inv X pins σ H s) (hi : PI X tg iter wi) (ok : BlkOk X.N X.env.scope scope own)
    (hg : ∀ (s : Shared) (H : Hp) (C : Addr) (cl : List (Str × Addr)) (fp : List Addr), PG (X.blk s H scope (compEnvC scope cl C X.env) fp) tg g) (ht : ∀ (s : Shared) (H : Hp) (C : Addr) (cl : List (Str × Addr)) (fp : List Addr), PTs (X.blk s H scope (compEnvC scope cl C X.env) fp) ifs tt)
    (he : ∀ (s : Shared) (H : Hp) (C : Addr) (cl : List (Str × Addr)) (fp : List Addr), PE (X.blk s H scope (compEnvC scope cl C X.env) fp) elt te) (hs : ∀ x, foldedSetIterable iter X.env x = pure x)
    (h : tLc wi g tt te (own.map (·.2)) σ H Q)
    (hRR : ∀ D C s' m H', Inv X pins σ H' s' → Q (.ref D) H' → s'.heap.Ns C m → FpOk X pins H' C → compPost (model X.prog X.w) X.A X.xe use Qf (.ref D) C (.ok .next) s') :
    wpAny (model X.prog X.w) X.A (comprehension (.ListComp elt [⟨tg, iter, ifs, 0⟩] scope pos) scope X.env pos' (newList []) false (eval iter X.env) use) Qf X.xe s := by
  have hfree : ∀ y ∈ scope.names, y.2 = .free → ∃ c, X.env.cells.lookup y.1 = some c := fun y hy e => by
    rcases ok.free y hy e with k | k
    · exact I.ok.has _ (.inl k)
    · exact I.ok.has _ (.inr k)
  refine wpAny_comprehension_free (use := use) rfl hs (closure_ok hfree) ok.kind (fun y hy e => by rw [ok.uniq y hy, e])
    (thn (hi pins s σ H _ I h) fun xv s1 hx => thn hx fun itv s2 h2 => ?_)
  obtain ⟨it, fp, tn, J, H2, e, I2, T, st2, f2, q⟩ := h2
  subst e
  refine wpAny_newObj_type (newEnv_comp ?_) (by show 0 ≤ sizeLine; decide)
  generalize hD : s2.heap.objs.size = D
  have hDn : H2 D = none := I2.hok.fresh (Nat.le_of_eq hD)
  obtain ⟨W, ⟨m0, w0⟩, turn⟩ := q D hDn
  -- the new list
  generalize hs3 : ({ s2 with heap := s2.heap.push { cls := .type "list", data := .seq ([] : List Value).toArray } } : Shared) = s3
  have I3 : Inv X pins σ (upd H2 D (.lst [])) s3 := by
    rw [← hs3]
    refine I2.laid (t' := s2.toks) (fun b o e => Heap.get?_push_of_some _ e) (Nat.le_of_eq hD) ⟨Nat.zero_le _, [], 0, .nil, ?_⟩
    rw [← hD]
    exact Heap.get?_push_size _ rfl
  have h3 : s3.heap = s2.heap.push { cls := .type "list", data := .seq ([] : List Value).toArray } := by rw [← hs3]
  have sz : ∀ b ∈ fp, b < s2.heap.objs.size := fun b hb => by
    obtain ⟨o, e, _⟩ := T.obj _ _ st2 b hb
    exact Heap.lt_size e
  have f3 : ∀ b ∈ fp, FpOk X pins (upd H2 D (.lst [])) b ∧ b < s3.heap.objs.size := fun b hb => by
    have hlt := sz b hb
    refine ⟨⟨?_, (f2 b hb).2⟩, by rw [h3, Heap.size_push]; exact Nat.lt_succ_of_lt hlt⟩
    rw [upd_ne (by rw [← hD]; exact Nat.ne_of_lt hlt)]
    exact (f2 b hb).1
  have st3 : tn 0 s3.heap := T.keep _ _ _ st2 fun b _ o e => by rw [h3]; exact Heap.get?_push_of_some _ e
  have I4 := block_start I3 ok hN f3
  have pg := hg s3 (upd H2 D (.lst [])) s3.heap.objs.size (cellsFrom (s3.heap.objs.size + 1) scope.names (cloFrom X.env.cells scope.names [])) fp
  have pt := ht s3 (upd H2 D (.lst [])) s3.heap.objs.size (cellsFrom (s3.heap.objs.size + 1) scope.names (cloFrom X.env.cells scope.names [])) fp
  have pe := he s3 (upd H2 D (.lst [])) s3.heap.objs.size (cellsFrom (s3.heap.objs.size + 1) scope.names (cloFrom X.env.cells scope.names [])) fp
  show codeAny _ _ (.compStart (.ListComp elt [⟨tg, iter, ifs, 0⟩] scope pos) 0 (.ref it) (.ref D) (compEnvC scope (cellsFrom (s3.heap.objs.size + 1) scope.names (cloFrom X.env.cells scope.names [])) s3.heap.objs.size X.env)) (compPost (model X.prog X.w) X.A X.xe use Qf (.ref D) s3.heap.objs.size) { s3 with heap := pushCells (s3.heap.push { cls := .type "dict", data := .dict #[] }) scope.names }
  have nfp : ∀ b ∈ fp, (upd H2 D (.lst [])) b = none := fun b hb => (f3 b hb).1.1
  generalize hce : compEnvC scope (cellsFrom (s3.heap.objs.size + 1) scope.names (cloFrom X.env.cells scope.names [])) s3.heap.objs.size X.env = ce at I4 pg pt pe ⊢
  have cL : ce.locals = s3.heap.objs.size := by subst hce; rfl
  generalize hH3 : upd H2 D (.lst []) = H3 at I3 I4 pg pt pe w0 nfp f3
  generalize hs4 : ({ s3 with heap := pushCells (s3.heap.push { cls := .type "dict", data := .dict #[] }) scope.names } : Shared) = s4 at I4 ⊢
  have st4 : tn 0 s4.heap := T.keep _ _ _ st3 fun b _ o e => by rw [← hs4]; exact pushCells_keeps _ _ _ _ (Heap.get?_push_of_some _ e)
  have stat : ∀ {σ' : St} {H' : Hp} {s' : Shared}, Inv (X.blk s3 H3 scope ce fp) [] σ' H' s' → (∀ b ∈ fp, H' b = none) → ∀ b ∈ fp, FpOk (X.blk s3 H3 scope ce fp) [] H' b := fun {σ' H' s'} I' hn b hb =>
    ⟨hn b hb, (I'.ok.exf b hb).1, I'.ok.exfs b hb, .inl hb, fun x c e => (I'.ok.exf b hb).2 x c e, fun p hp => absurd (show p ∈ ([] : List (Addr × Obj)) ++ [] from hp) (by simp)⟩
  have loop : codeAny (model X.prog X.w) X.A (.compLoop (.ListComp elt [⟨tg, iter, ifs, 0⟩] scope pos) 0 (.ref it) (.ref D) ce) (compPost (model X.prog X.w) X.A X.xe use Qf (.ref D) s3.heap.objs.size) s4 := by
    refine compLoop_any (fun n s' => ∃ i H', Inv (X.blk s3 H3 scope ce fp) [] (wipe σ (own.map (·.2))) H' s' ∧ tn i s'.heap ∧ (∀ b ∈ fp, H' b = none) ∧ W i n H') ?_ m0 ⟨0, H3, I4, st4, nfp, w0⟩
    rintro n s5 ⟨i, H5, I5, st5, n5, w5⟩
    rcases turn i n H5 w5 with ⟨stop, qq⟩ | ⟨go, Nx, hNx, step⟩
    · have td := T.done (X.blk s3 H3 scope ce fp) rfl rfl rfl hc i [] s5 _ H5 (fun _ _ => False) I5 (stat I5 n5) st5 stop
      refine thnF td fun r s6 ⟨hr, I6⟩ => ?_
      subst hr
      -- back in the def's context
      have I7 : Inv X pins σ H5 s6 := I3.call' (ch := fp) I6.os I6.base I6.hok I6.bare fun b hb => ⟨(f3 b hb).1.2.2.2.1, (f3 b hb).1.2.1, (f3 b hb).1.2.2.2.2.1, (f3 b hb).1.2.2.2.2.2⟩
      have nC : H5 s3.heap.objs.size = none := by
        have z : H5 ce.locals = none := I6.free
        rw [cL] at z
        exact z
      obtain ⟨m, hn, _⟩ := I6.loc
      have hn : s6.heap.Ns ce.locals m := hn
      rw [cL] at hn
      exact hRR D s3.heap.objs.size s6 m H5 I7 qq hn (I3.fpOk (Nat.le_refl _) nC)
    · have ti := T.item (X.blk s3 H3 scope ce fp) rfl rfl rfl hc i [] s5 _ H5 (fun _ _ => False) I5 (stat I5 n5) st5 go
      refine thnF ti fun r s6 ⟨u, hr, h6⟩ => ?_
      subst hr
      refine thnF h6 fun _ s7 ⟨x, H7, I7, r7, y7, st7, n7⟩ => ?_
      have I7' := I7.pinned (stat I7 n7) (T.obj _ _ st7)
      refine thnF (pg _ s7 _ H7 x u _ I7' r7 (step x H7 y7)) fun _ s8 ⟨σ8, H8, I8, hw8, q8⟩ => ?_
      refine thnF (pt _ s8 σ8 H8 _ I8 q8) fun b s9 ⟨H9, I9, q9⟩ => ?_
      -- the turn's end
      have fin : ∀ {s' : Shared} {H' : Hp}, Inv (X.blk s3 H3 scope ce fp) ([] ++ pinsAt fp s7.heap) σ8 H' s' → Nx H' → ∃ m, m < n ∧ ∃ i H', Inv (X.blk s3 H3 scope ce fp) [] (wipe σ (own.map (·.2))) H' s' ∧ tn i s'.heap ∧ (∀ b ∈ fp, H' b = none) ∧ W i m H' := fun {s' H'} I' nx => by
        obtain ⟨m', hm, w'⟩ := hNx H' nx
        have pin' : ∀ b ∈ fp, ∀ o, s7.heap.get? b = some o → s'.heap.get? b = some o ∧ H' b = none := fun b hb o e =>
          let z := I'.pin (b, o) (List.mem_append_right _ (List.mem_append_right _ (mem_pinsAt hb e)))
          ⟨z.1, z.2.1⟩
        have hl : (wipe σ (own.map (·.2))).length = σ8.length := by rw [← hw8, wipe_length]
        refine ⟨m', hm, i + 1, H', (I'.unpinned (pins := [])).weak hl (fun j v e => ?_), T.keep _ _ _ st7 fun b hb o e => (pin' b hb o e).1, fun b hb => ?_, w'⟩
        · rw [← hw8] at e
          exact (wipe_some e).1
        · obtain ⟨o, e, _⟩ := T.obj _ _ st7 b hb
          exact (pin' b hb o e).2
      cases b with
      | false =>
        simp only [Bool.false_eq_true, if_false] at q9 ⊢
        exact fin I9 q9
      | true =>
        simp only [if_true] at q9 ⊢
        refine thnF (pe _ s9 σ8 H9 _ I9 q9) fun z s10 ⟨yv, H10, I10, r10, acc, hD10, hz10, nx⟩ => ?_
        exact app_ok (X := X.blk s3 H3 scope ce fp) I10 hD10 hz10 r10 fun s11 I11 => fin I11 nx
  exact codeAny_compStart_list loop (T.self X.A 0 _ _ _ st4 loop)
/-- as a value -/
theorem pe_lc {elt tg iter : Expr} {ifs : List Expr} {scope : Scope} {own : List (Str × Nat)} {pos : Pos} {wi : TI} {g : TG} {tt : TT} {te : TE} (hc : X.calm = true) (hN : X.N.Nodup) (hi : PI X tg iter wi) (ok : BlkOk X.N X.env.scope scope own)
    (hg : ∀ (s : Shared) (H : Hp) (C : Addr) (cl : List (Str × Addr)) (fp : List Addr), PG (X.blk s H scope (compEnvC scope cl C X.env) fp) tg g) (ht : ∀ (s : Shared) (H : Hp) (C : Addr) (cl : List (Str × Addr)) (fp : List Addr), PTs (X.blk s H scope (compEnvC scope cl C X.env) fp) ifs tt)
    (he : ∀ (s : Shared) (H : Hp) (C : Addr) (cl : List (Str × Addr)) (fp : List Addr), PE (X.blk s H scope (compEnvC scope cl C X.env) fp) elt te) (hs : ∀ x, foldedSetIterable iter X.env x = pure x := by intro _; rfl) :
    PE X (.ListComp elt [⟨tg, iter, ifs, 0⟩] scope pos) (tLc wi g tt te (own.map (·.2))) := by
  intro pins s σ H Q I h
  rw [eval_ListComp]
  refine lc_core hc hN I hi ok hg ht he hs h fun D C s' m H' I' q hn f => ⟨m, hn, fun h'' sb => ?_⟩
  obtain ⟨f0, f1, f2, f3, f4, f5⟩ := f
  exact ⟨.ref D, H', I'.turned (t' := s'.toks) (fun b o hb e => (sb.2 b hb).trans e) f0 f1 f3 f4 f5, rfl, q⟩
end

/-! ### the forms one uses -/
def blkC (N : List Str) (sc scope : Scope) (own : List (Str × Nat)) : Bool :=
  (match scope.kind with | .function => true | _ => false) && (scope.names.all fun y => decide (scope.names.lookup y.1 = some y.2)) && (own.all fun p => decide (N[p.2]? = some p.1)) &&
    (scope.names.all fun y => match y.2 with
      | .free => (match sc.names.lookup y.1 with | some .cell => true | some .free => true | _ => false)
      | .local => decide (y.1 ∈ own.map (·.1)) || decide (y.1 ∉ N)
      | .cell => decide (y.1 ∈ own.map (·.1)) || decide (y.1 ∉ N)
      | _ => true)
theorem blkOk_by {N : List Str} {sc scope : Scope} {own : List (Str × Nat)} (h : blkC N sc scope own = true) : BlkOk N sc scope own := by
  unfold blkC at h
  simp only [Bool.and_eq_true, List.all_eq_true, decide_eq_true_eq] at h
  obtain ⟨⟨⟨h1, h2⟩, h3⟩, h4⟩ := h
  refine ⟨?_, h2, h3, fun y hy e => ?_, fun y hy e => ?_⟩
  · split at h1
    · assumption
    · cases h1
  · have q := h4 y hy
    simp only [e] at q
    split at q <;> first | exact .inl (by assumption) | exact .inr (by assumption) | cases q
  · have q := h4 y hy
    rcases e with e | e <;> (simp only [e, Bool.or_eq_true, decide_eq_true_eq] at q; exact q)
end L2

namespace L2
open PySem PySem.Spec PyProof.Rows


section
variable {prog : Program} {w : World} {A : Around} {R : Result → Shared → Prop} {s : Shared} {elt t0 i0 t1 i1 : Expr} {ifs0 ifs1 : List Expr} {scope : Scope} {pos : Pos} {it acc : Value} {env : Env}
end

section
variable {X : Cx}
end
end L2

namespace L2
open PySem PySem.Spec PyProof.Rows

/-! ### lists of pairs as tables -/
section
variable {κ : Type} [DecidableEq κ]
def valV (kvs : List (κ × V)) (k : κ) : Option V := (kvs.find? fun kv => decide (kv.1 = k)).map (·.2)
/-- in its place, or at the end -/
def putK (kvs : List (κ × V)) (k : κ) (v : V) : List (κ × V) :=
  if (kvs.any fun kv => decide (kv.1 = k)) = true then kvs.map (fun kv => if kv.1 = k then (kv.1, v) else kv) else kvs ++ [(k, v)]

theorem valV_pos {p : κ × V} {r : List (κ × V)} {k : κ} (e : p.1 = k) : valV (p :: r) k = some p.2 := by simp [valV, List.find?_cons, e]
theorem valV_neg {p : κ × V} {r : List (κ × V)} {k : κ} (e : ¬ p.1 = k) : valV (p :: r) k = valV r k := by simp [valV, List.find?_cons, e]
theorem valV_any (k : κ) : ∀ kvs : List (κ × V), (kvs.any fun kv => decide (kv.1 = k)) = (valV kvs k).isSome
  | [] => rfl
  | p :: r => by
    rw [List.any_cons]
    by_cases e : p.1 = k
    · simp only [valV_pos e, decide_eq_true e, Bool.true_or, Option.isSome_some]
    · rw [valV_neg e, decide_eq_false e, Bool.false_or]; exact valV_any k r
theorem length_putK (kvs : List (κ × V)) (k : κ) (v : V) : (putK kvs k v).length ≤ kvs.length + 1 := by
  unfold putK
  split
  · rw [List.length_map]; omega
  · rw [List.length_append, List.length_cons, List.length_nil]; omega
theorem putK_new {kvs : List (κ × V)} {k : κ} (v : V) (h : valV kvs k = none) : putK kvs k v = kvs ++ [(k, v)] := by
  unfold putK
  rw [valV_any, h]
  exact if_neg (by decide)

theorem RelO.isSome_eq {o : Option V} {u : Option Value} (r : RelO o u) : o.isSome = u.isSome := by
  cases o with
  | none => cases u with
    | none => rfl
    | some _ => exact (show False from r).elim
  | some _ => cases u with
    | none => exact (show False from r).elim
    | some _ => rfl

/-- raw tables of the same keys -/
theorem KV.val {kvs : List (κ × V)} {vs : List (κ × Value)} (r : KV kvs vs) (k : κ) : RelO (valV kvs k) (valueAt vs k) := by
  unfold KV at r
  induction r with
  | nil => exact True.intro
  | @cons p q ps qs h t ih =>
    obtain ⟨h1, h2⟩ := h
    by_cases e : p.1 = k
    · have e' : q.1 = k := h1.symm.trans e
      have b : valueAt (q :: qs) k = some q.2 := by simp [valueAt, List.find?_cons, e']
      rw [valV_pos e, b]; exact h2
    · have e' : ¬ q.1 = k := fun z => e (h1.trans z)
      have b : valueAt (q :: qs) k = valueAt qs k := by simp [valueAt, List.find?_cons, e']
      rw [valV_neg e, b]; exact ih
theorem KV.any {kvs : List (κ × V)} {vs : List (κ × Value)} (r : KV kvs vs) (k : κ) : (kvs.any fun kv => decide (kv.1 = k)) = vs.any fun kv => decide (kv.1 = k) := by
  unfold KV at r
  induction r with
  | nil => rfl
  | cons h t ih => rw [List.any_cons, List.any_cons, ih, h.1]
theorem KV.repl {kvs : List (κ × V)} {vs : List (κ × Value)} (r : KV kvs vs) (k : κ) {y : V} {u : Value} (ry : RelV y u) :
    KV (kvs.map fun kv => if kv.1 = k then (kv.1, y) else kv) (vs.map fun kv => if kv.1 = k then (kv.1, u) else kv) := by
  unfold KV at r ⊢
  induction r with
  | nil => exact .nil
  | @cons p q ps qs h t ih =>
    rw [List.map_cons, List.map_cons]
    refine .cons ?_ ih
    obtain ⟨h1, h2⟩ := h
    by_cases e : p.1 = k
    · rw [if_pos e, if_pos (h1.symm.trans e)]; exact ⟨h1, ry⟩
    · rw [if_neg e, if_neg (fun z => e (h1.trans z))]; exact ⟨h1, h2⟩
theorem KV.put {kvs : List (κ × V)} {vs : List (κ × Value)} (r : KV kvs vs) (k : κ) {y : V} {u : Value} (ry : RelV y u) : KV (putK kvs k y) (stored vs k u) := by
  unfold putK stored
  rw [r.any k]
  by_cases e : (vs.any fun kv => decide (kv.1 = k)) = true
  · rw [if_pos e, if_pos e]; exact r.repl k ry
  · rw [if_neg e, if_neg e]; exact Paired.snoc r ⟨rfl, ry⟩
theorem KV.length {kvs : List (κ × V)} {vs : List (κ × Value)} (r : KV kvs vs) : kvs.length = vs.length := Paired.length r
end


/-! ### a tracked dict, its keys ints and texts or tuples of these -/
theorem kV_is {P : Program} {w : World} {k : Key} {u : Value} (r : RelV (kV k) u) : (mixKind P w).is k u = true := by
  cases k with
  | inl i => obtain ⟨t, e⟩ := (show ∃ t, u = Value.int i t from r); subst e; exact mixKind_int P w i t
  | inr x => obtain ⟨t, e⟩ := (show ∃ t, u = Value.str x t from r); subst e; exact mixKind_str P w x t
theorem items_are {P : Program} {w : World} : ∀ {ks : List Key} {us : List Value}, Vals (ks.map kV) us → ItemsAre (mixKind P w) ks us
  | [], _, r => by rw [List.map_nil] at r; cases r; exact .nil
  | k :: ks, _, r => by
    rw [List.map_cons] at r
    cases r with
    | cons h t => exact .cons (kV_is h) (items_are t)

/-- raw entries of a dict with tuple keys -/
abbrev KT (H : Hp) : List (List Key × V) → List (List Key × Addr × Value) → Prop := Paired fun p q => p.1 = q.1 ∧ H q.2.1 = some (.tup (p.1.map kV)) ∧ RelV p.2 q.2.2
theorem KT.val {H : Hp} {kvs : List (List Key × V)} {xs : List (List Key × Addr × Value)} (r : KT H kvs xs) (k : List Key) : RelO (valV kvs k) ((atKey xs k).map (·.2)) := by
  induction r with
  | nil => exact True.intro
  | @cons p q ps qs h t ih =>
    obtain ⟨h1, _, h2⟩ := h
    by_cases e : p.1 = k
    · have e' : q.1 = k := h1.symm.trans e
      have b : atKey (q :: qs) k = some q.2 := by simp [atKey, List.find?_cons, e']
      rw [valV_pos e, b]; exact h2
    · have e' : ¬ q.1 = k := fun z => e (h1.trans z)
      have b : atKey (q :: qs) k = atKey qs k := by simp [atKey, List.find?_cons, e']
      rw [valV_neg e, b]; exact ih
theorem KT.repl {H : Hp} {kvs : List (List Key × V)} {xs : List (List Key × Addr × Value)} (r : KT H kvs xs) (k : List Key) {y : V} {u : Value} (ry : RelV y u) :
    KT H (kvs.map fun kv => if kv.1 = k then (kv.1, y) else kv) (xs.map (putAt k u)) := by
  induction r with
  | nil => exact .nil
  | @cons p q ps qs h t ih =>
    rw [List.map_cons, List.map_cons]
    refine .cons ?_ ih
    obtain ⟨h1, h2, h3⟩ := h
    unfold putAt
    by_cases e : p.1 = k
    · rw [if_pos e, if_pos (h1.symm.trans e)]; exact ⟨h1, h2, ry⟩
    · rw [if_neg e, if_neg (fun z => e (h1.trans z))]; exact ⟨h1, h2, h3⟩
theorem KT.put {H : Hp} {kvs : List (List Key × V)} {xs : List (List Key × Addr × Value)} (r : KT H kvs xs) (k : List Key) {b : Addr} {y : V} {u : Value} (hb : H b = some (.tup (k.map kV))) (ry : RelV y u) :
    KT H (putK kvs k y) (storedH xs k b u) := by
  have e : (kvs.any fun kv => decide (kv.1 = k)) = (atKey xs k).isSome := by
    rw [valV_any, (r.val k).isSome_eq, Option.isSome_map]
  unfold putK storedH
  rw [e]
  by_cases q : (atKey xs k).isSome = true
  · rw [if_pos q, if_pos q]; exact r.repl k ry
  · rw [if_neg q, if_neg q]; exact Paired.snoc r ⟨rfl, hb, ry⟩
theorem KT.keeps {H H' : Hp} {kvs : List (List Key × V)} {xs : List (List Key × Addr × Value)} (r : KT H kvs xs) (ht : ∀ b ys, H b = some (.tup ys) → H' b = some (.tup ys)) : KT H' kvs xs :=
  Paired.mapP r fun _ _ z => ⟨z.1, ht _ _ z.2.1, z.2.2⟩

section
variable {P : Program} {w : World} {H : Hp} {h : Heap} {a : Addr}
theorem rd_of {u : HO} (ok : HOk P w H h) (e : Rd H a u) : ObjOk P w H h a u := e.ok ok
theorem dk_rd {kvs : List (Key × V)} (ok : HOk P w H h) (e : Rd H a (.dK kvs)) : kvs.length ≤ sizeLine ∧ (a == sysModules) = false ∧ ∃ vs, KV kvs vs ∧ h.DictOf (mixKind P w) a vs :=
  show ObjOk P w H h a (.dK kvs) from rd_of ok e
theorem dk_of {kvs : List (Key × V)} (ok : HOk P w H h) (e : H a = some (.dK kvs)) : kvs.length ≤ sizeLine ∧ (a == sysModules) = false ∧ ∃ vs, KV kvs vs ∧ h.DictOf (mixKind P w) a vs := dk_rd ok (.inl e)
/-- a tracked tuple of ints and texts is a key -/
theorem key_of {ks : List Key} (ok : HOk P w H h) (e : H a = some (.tup (ks.map kV))) : (tupleKind (mixKind P w)).is h ks a := by
  obtain ⟨_, its, r, o, h1, h2, n, h3⟩ := (show ObjOk P w H h a (.tup (ks.map kV)) from ok a _ e)
  exact ⟨o, its.toArray, n, h1, h2, h3, by simpa using items_are r⟩
theorem dt_rd {kvs : List (List Key × V)} (ok : HOk P w H h) (e : Rd H a (.dT kvs)) : kvs.length ≤ sizeLine ∧ (a == sysModules) = false ∧
    ∃ xs, KT H kvs xs ∧ h.DictOfH (tupleKind (mixKind P w)) a xs := by
  obtain ⟨z, y, xs, r, o, es, ep, h1, h2, h3, h4, h5⟩ := (show ObjOk P w H h a (.dT kvs) from rd_of ok e)
  refine ⟨z, y, xs, r, o, es, ep, h1, h2, h3, h4, fun x hx => ?_, h5⟩
  have all : ∀ {l : List (List Key × V)} {m : List (List Key × Addr × Value)}, KT H l m → ∀ x ∈ m, (tupleKind (mixKind P w)).is h x.1 x.2.1 := by
    intro l m q
    induction q with
    | nil => intro x hx; exact nomatch hx
    | @cons p q ps qs hq t ih =>
      intro x hx
      rcases List.mem_cons.mp hx with e | hx
      · subst e
        exact key_of ok (by rw [← hq.1]; exact hq.2.1)
      · exact ih x hx
  exact all r x hx
theorem dt_of {kvs : List (List Key × V)} (ok : HOk P w H h) (e : H a = some (.dT kvs)) : kvs.length ≤ sizeLine ∧ (a == sysModules) = false ∧
    ∃ xs, KT H kvs xs ∧ h.DictOfH (tupleKind (mixKind P w)) a xs := dt_rd ok (.inl e)
end

/-- what the dict at a holds at the key y -/
def DGet (H : Hp) (a : Addr) (y : V) (r : Option V) : Prop :=
  (∃ kvs k, Rd H a (.dK kvs) ∧ y = kV k ∧ r = valV kvs k) ∨ ∃ kvs k b, Rd H a (.dT kvs) ∧ y = .ref b ∧ H b = some (.tup (k.map kV)) ∧ r = valV kvs k
/-- the heap behind a[y] = v -/
def DPut (H : Hp) (a : Addr) (y v : V) (H' : Hp) : Prop :=
  (∃ kvs k, H a = some (.dK kvs) ∧ y = kV k ∧ kvs.length < sizeLine ∧ H' = upd H a (.dK (putK kvs k v))) ∨
  ∃ kvs k b, H a = some (.dT kvs) ∧ y = .ref b ∧ H b = some (.tup (k.map kV)) ∧ kvs.length < sizeLine ∧ H' = upd H a (.dT (putK kvs k v))
theorem DGet.t {H : Hp} {a b : Addr} {kvs : List (List Key × V)} {k : List Key} (e : H a = some (.dT kvs)) (eb : H b = some (.tup (k.map kV))) : DGet H a (.ref b) (valV kvs k) := .inr ⟨kvs, k, b, .inl e, rfl, eb, rfl⟩
theorem DPut.t {H : Hp} {a b : Addr} {kvs : List (List Key × V)} {k : List Key} {v : V} (e : H a = some (.dT kvs)) (eb : H b = some (.tup (k.map kV))) (hl : kvs.length < sizeLine) :
    DPut H a (.ref b) v (upd H a (.dT (putK kvs k v))) := .inr ⟨kvs, k, b, e, rfl, eb, hl, rfl⟩


section
variable {X : Cx} {pins : List (Addr × Obj)} {σ : St} {H : Hp} {s : Shared} {a : Addr} {y v : V} {u r : Value} {o : Option V} {A : Around} {E : Value → Shared → Prop}

theorem Inv.big (I : Inv X pins σ H s) : sysModules < s.heap.objs.size := by
  have h : mainGlobals < s.heap.objs.size := (I.mod.glob.keeps I.bk).lt
  exact Nat.lt_trans (by decide) h

/-- y in d -/
theorem d_in {Q : Value → Shared → Prop} (hu : A.units + 1 < cLine) (I : Inv X pins σ H s) (g : DGet H a y o) (ry : RelV y u) (h : ∀ s', Inv X pins σ H s' → Q (.bool o.isSome) s') :
    wpAny (model X.prog X.w) A (compareOp .In u (.ref a)) Q E s := by
  rcases g with ⟨kvs, k, e, ey, l⟩ | ⟨kvs, k, b, e, ey, eb, l⟩
  · subst ey
    obtain ⟨z, hd, vs, rel, dd⟩ := dk_rd I.hok e
    refine wpAny_in_of (kV_is ry) hd dd.mapOf ?_
    rw [← (rel.val k).isSome_eq, ← l]
    exact h _ (I.tok _)
  · subst ey
    cases (show u = Value.ref b from ry)
    obtain ⟨z, hd, xs, rel, dd⟩ := dt_rd I.hok e
    refine wpAny_in_heap (tupleKind_room_in1 hu) (key_of I.hok eb) hd dd ?_
    have q := (rel.val k).isSome_eq
    rw [Option.isSome_map] at q
    rw [← q, ← l]
    exact h _ (I.tok _)
/-- a dict's object is replaced -/
theorem d_write {h' : Heap} {t' : Nat} {ob : HO} (I : Inv X pins σ H s) (mu : Mut (H a)) (hs : Heap.SameBut a s.heap h') (he : ∃ q, h'.get? a = some q) (new : ObjOk X.prog X.w (upd H a ob) h' a ob) :
    Inv X pins σ (upd H a ob) { s with heap := h', toks := t' } :=
  I.write (x := a) (e := a) mu (.inl rfl) (fun b q hb z => (hs.2 b hb).trans z) he new
theorem dk_new {P : Program} {w : World} {H' : Hp} {h' : Heap} {kvs : List (Key × V)} {vs : List (Key × Value)} (z : kvs.length ≤ sizeLine) (hd : (a == sysModules) = false) (rel : KV kvs vs) (dd : h'.DictOf (mixKind P w) a vs) :
    ObjOk P w H' h' a (.dK kvs) := ⟨z, hd, vs, rel, dd⟩
/-- d[y] = v -/
theorem d_setItem {H' : Hp} {Q : Unit → Shared → Prop} (hu : A.units + 1 < cLine) (I : Inv X pins σ H s) (g : DPut H a y v H') (ry : RelV y u) (rv : RelV v r) (h : ∀ s', Inv X pins σ H' s' → Q () s') :
    wpAny (model X.prog X.w) A (setItem (.ref a) u r) Q E s := by
  rcases g with ⟨kvs, k, e, ey, l, eH⟩ | ⟨kvs, k, b, e, ey, eb, l, eH⟩
  · subst ey eH
    obtain ⟨z, hd, vs, rel, dd⟩ := dk_of I.hok e
    have hz : vs.length ≤ sizeLine := by rw [← rel.length]; exact z
    have hl : (putK kvs k v).length ≤ sizeLine := by have := length_putK kvs k v; omega
    refine wpAny_setItem_pairs (hsz := hz) (kV_is ry) dd fun h' dd' hs => h _ ?_
    have he : ∃ q, h'.get? a = some q := let ⟨q, _, _, hq, _⟩ := dd'; ⟨q, hq⟩
    exact d_write I (by rw [e]; exact True.intro) hs he (dk_new hl hd (rel.put k rv) dd')
  · subst ey eH
    cases (show u = Value.ref b from ry)
    obtain ⟨z, hd, xs, rel, dd⟩ := dt_of I.hok e
    have hz : xs.length ≤ sizeLine := by rw [← Paired.length rel]; exact z
    have hl : (putK kvs k v).length ≤ sizeLine := by have := length_putK kvs k v; omega
    refine wpAny_setItem_heap (hsz := hz) (tupleKind_room_in1 hu) (key_of I.hok eb) dd fun h' dd' hs => h _ ?_
    obtain ⟨q, es, ep, hq, h2, h3, h4, _, h5⟩ := dd'
    refine d_write I (by rw [e]; exact True.intro) hs ⟨q, hq⟩ ⟨hl, hd, _, (rel.put k eb rv).keeps fun c ys ec => ?_, q, es, ep, hq, h2, h3, h4, h5⟩
    rw [upd_ne (ne_of ec e (fun z => nomatch z))]
    exact ec
end

section
variable {X : Cx} {pins : List (Addr × Obj)} {σ : St} {H : Hp} {s : Shared} {a : Addr} {kvs : List (Key × V)} {k : Key} {u : Value} {A : Around} {E : Value → Shared → Prop}
end


/-! ### readings and rules -/


/-- y in d, y not in d -/
def tDIn (ty td : TE) : TE := fun σ H Q => ty σ H fun y H1 => td σ H1 fun x H2 => ∃ a o, x = .ref a ∧ DGet H2 a y o ∧ Q (.bl o.isSome) H2
/-- d[y] = v -/
def sDPut (td ty tv : TE) : TS := fun D σ H => tv σ H fun v H1 => td σ H1 fun x H2 => ty σ H2 fun y H3 => ∃ a H4, x = .ref a ∧ DPut H3 a y v H4 ∧ D.nx σ H4

section
variable {X : Cx} {o i e value : Expr} {pos pos' tpos : Pos} {td ty tv : TE}
theorem pc_din (hu : X.A.units + 1 < cLine) (hi : PE X i ty) (ho : PE X o td) : PC X .In i o (tDIn ty td) := by
  intro pins s σ H Q I h
  refine thn (hi pins s σ H _ I h) fun iv s1 ⟨y, H1, I1, ry, q1⟩ => thn (ho pins s1 σ H1 _ I1 q1) fun u s2 ⟨x, H2, I2, rx, a, ov, ex, g, q2⟩ => ?_
  subst ex
  obtain rfl : u = Value.ref a := rx
  exact d_in hu I2 g ry fun s3 I3 => ⟨.bl ov.isSome, H2, I3, rfl, q2⟩
theorem ps_dput (hu : X.A.units + 1 < cLine) (ho : PE X o td) (hi : PE X i ty) (hv : PE X value tv) (hs : swapsWith value (some (.Subscript o i pos')) pos.line X.env = pure false) :
    PS X (.Assign [.Subscript o i pos'] value pos) (sDPut td ty tv) := by
  intro pins s σ H D I h
  refine wpAny_Assign_Subscript (thn (hv pins s σ H _ I h) fun r s1 ⟨v, H1, I1, rv, q1⟩ => thn (ho pins s1 σ H1 _ I1 q1) fun u s2 ⟨x, H2, I2, rx, q2⟩ => thn (hi pins s2 σ H2 _ I2 q2) fun iv s3 ⟨y, H3, I3, ry, a, H4, ex, g, q3⟩ => ?_) hs
  subst ex
  obtain rfl : u = Value.ref a := rx
  exact d_setItem hu I3 g ry rv fun s4 I4 => ⟨σ, H4, I4, q3⟩
end


/-! ### displays -/
theorem dt_empty {P : Program} {w : World} {H : Hp} (h : Heap) (hb : sysModules < h.objs.size) : ObjOk P w H (h.push { cls := .type "dict", data := .dict #[] }) h.objs.size (.dT []) :=
  ⟨Nat.zero_le _, beq_eq_false_iff_ne.mpr (Ne.symm (Nat.ne_of_lt hb)), [], .nil, _, #[], 0, Heap.get?_push_size _ rfl, ⟨rfl, rfl, rfl⟩, rfl, rfl, List.nodup_nil⟩
def tDNewT : TE := fun _ H Q => ∀ p, H p = none → Q (.ref p) (upd H p (.dT []))
section
variable {X : Cx} {pos : Pos}
theorem pe_dnewT : PE X (.Dict [] [] pos) tDNewT := fun pins s σ H Q I h =>
  wpAny_Dict_empty ⟨.ref s.heap.objs.size, _, I.laid (a := s.heap.objs.size) (o := .dT []) (t' := s.toks) (fun _ _ q => Heap.get?_push_of_some _ q) (Nat.le_refl _) (dt_empty s.heap I.big), rfl, h _ (I.hok.fresh (Nat.le_refl _))⟩
end




/-! ### methods -/


section
variable {X : Cx} {pins : List (Addr × Obj)} {σ : St} {H : Hp} {s : Shared} {a : Addr} {y d : V} {u r : Value} {o : Option V} {A : Around} {E : Value → Shared → Prop}
end

section
variable {X : Cx} {o e f : Expr} {apos cpos : Pos} {td ty tx : TE}
end

/-! ### dict(d): a copy -/
section
variable {X : Cx} {pins : List (Addr × Obj)} {σ : St} {H : Hp} {s : Shared} {a : Addr} {kvs : List (Key × V)} {A : Around} {E : Value → Shared → Prop}
end


section
variable {X : Cx} {pins : List (Addr × Obj)} {σ : St} {H : Hp} {s : Shared} {a : Addr} {y : V} {u : Value} {A : Around} {E : Value → Shared → Prop}
end
end L2

namespace L2
open PySem PySem.Spec PyProof.Rows


section
variable {prog : Program} {w : World} {A : Around} {E : Value → Shared → Prop}


end

section
variable {X : Cx}
end
end L2

namespace L2
open PySem PySem.Spec PyProof.Rows

theorem boot_reversed5 : bootBuiltins "reversed" = some (.type "reversed") := by decide +kernel

section
variable {X : Cx} {pins : List (Addr × Obj)} {σ : St} {H : Hp} {s : Shared} {h' : Heap}
/-- .. and one new object is laid -/
theorem Inv.turnedNew {t' : Nat} {ch : List Addr} {T : Addr} {ob : HO} (I : Inv X pins σ H s) (k : ∀ b o, b ∉ ch → s.heap.get? b = some o → h'.get? b = some o) (hf : ∀ b ∈ ch, FpOk X pins H b) (hT : s.heap.objs.size ≤ T)
    (new : ObjOk X.prog X.w (upd H T ob) h' T ob) : Inv X pins σ (upd H T ob) { s with heap := h', toks := t' } := by
  have hn : H T = none := I.hok.fresh hT
  have nit : ∀ b u, H b = some u → b ∉ ch := fun b u e z => by
    have q := (hf b z).1
    rw [q] at e; cases e
  refine I.step (g' := s.gens) (d' := s.drawn) (ch := ch) (fun b hb => ⟨(hf b hb).2.2.2.1, (hf b hb).2.1, (hf b hb).2.2.2.2.1, (hf b hb).2.2.2.2.2⟩) (fun b o _ _ hc e _ => k b o hc e) (fun b o _ _ hc e _ => ⟨o.slots, k b o hc e⟩)
    (fun b o _ e n => ?_) (fun b o hc e => ⟨o, k b o hc e⟩) (fun b xs e => ?_) (fun b o u e => ?_) (fun b ps e => ⟨#[], ?_⟩) (fun m hm => ?_) (fun b u e => ?_) I.bare
  · rw [upd_ne (Nat.ne_of_lt (Nat.lt_of_lt_of_le (Heap.lt_size e) hT))]; exact n
  · rw [upd_ne (ne_of_none e hn)]; exact e
  · rw [upd_ne (ne_of_none e hn)]; exact e
  · rw [upd_ne (ne_of_none e hn), e]; simp
  · obtain ⟨o, es, ep, ho, r⟩ := hm
    exact ⟨o, es, ep, k _ o (fun z => (hf _ z).2.1 rfl) ho, r⟩
  · by_cases hb : b = T
    · subst hb
      rw [upd_same] at e
      cases e
      exact new
    · rw [upd_ne hb] at e
      refine (I.hok b u e).stay (fun c v hc q => k c v ?_ q) (fun c q => by rw [upd_ne (ne_of_none q hn)]; exact q) fun c xs q => by rw [upd_ne (ne_of_none q hn)]; exact q
      rcases hc with z | z
      · rw [z]; exact nit b u e
      · exact nit c _ z

/-! ### locking a thing while a statement runs -/
end
section
variable {X : Cx}

/-! ### one iterator just laid -/
theorem pi_one {tg : Expr} {pins : List (Addr × Obj)} {σ : St} {H : Hp} {s : Shared} {R : It → Hp → Prop} {J : It} {tn : Nat → Heap → Prop} {tk : Nat} (I : Inv X pins σ H s) (o : Obj)
    (T : Turn X.prog X.w X.K tg J [s.heap.objs.size] s.heap.objs.size tn) (st : tn 0 (s.heap.push o)) (q : R J H) : PIE X pins σ tg R (.ref s.heap.objs.size) { s with heap := s.heap.push o, toks := tk } := by
  refine ⟨s.heap.objs.size, [s.heap.objs.size], tn, J, H, rfl, I.kept fun b ob e => Heap.get?_push_of_some _ e, T, st, fun b hb => ?_, q⟩
  have e : b = s.heap.objs.size := by simpa using hb
  subst e
  exact I.fpOk (Nat.le_refl _) (I.hok.fresh (Nat.le_refl _))
end

/-! ### range with a step -/
/-- lo, lo + c, .. (n of them) -/
def Itc (lo c : Int) (n : Nat) : It := ⟨fun i _ => i < n, fun i H x H' => H' = H ∧ x = .int (lo + (i : Nat) * c), fun i _ => n ≤ i⟩
theorem turn_rangeC {P : Program} {w : World} {K : PySem.W.Frag} {tg : Expr} (it : Addr) (lo c : Int) (n : Nat) : Turn P w K tg (Itc lo c n) [it] it (fun i h => IsRangeIter h it (lo + (i : Nat) * c) ((n : Int) - (i : Nat)) c) where
  mem := by simp
  obj := fun i h st b hb => by
    have e : b = it := by simpa using hb
    subst e
    exact ⟨_, st, fun v z => nomatch z⟩
  keep := fun i h h' st k => k it (by simp) _ st
  item := by
    intro X hP hw hK hc i pins s σ H E I hf st hg
    subst hP hw hK
    obtain ⟨f0, f1, f2, f3, f4, f5⟩ := hf it (by simp)
    have W := Walks.range (prog := X.prog) (w := X.w) (I.ok.hd hc) it lo c n
    refine W.item i s _ _ hg st fun v h' tk hv st' kk => ?_
    obtain ⟨t, rfl⟩ := hv
    have I1 : Inv X pins σ H { s with heap := h', toks := tk } := I.turned (fun b o hb e => kk b o (by simpa using hb) e) f0 f1 f3 f4 f5
    exact ⟨_, rfl, go_of (s := { s with heap := h', toks := tk }) (n := "range_iterator") st' rfl rfl (by decide) ⟨.int (lo + (i : Nat) * c), H, I1, ⟨t, rfl⟩, ⟨rfl, rfl⟩, st', fun b hb => (hf b hb).1⟩⟩
  done := by
    intro X hP hw hK hc i pins s σ H E I hf st hg
    subst hP hw hK
    obtain ⟨f0, f1, f2, f3, f4, f5⟩ := hf it (by simp)
    exact wpAny_pyNext_range_end (I.ok.hd hc) st (by have : n ≤ i := hg; omega) fun h' eb => ⟨rfl, I.turned (t' := s.toks) (fun b o hb e => eb b o hb e) f0 f1 f3 f4 f5⟩
  self := fun A i s Q E st h => wpAny_pyIter_rangeiter st h
/-- range(i, j, c): small bounds, n items -/
def RgC (i j c : Int) (n : Nat) : Prop := c ≠ 0 ∧ c.natAbs < 1073741824 ∧ Builtin.Range.small i j c = true ∧ Builtin.Range.rangeSize i j c = n
def iRng3 (ta : TA) : TI := fun σ H R => ta σ H fun vs H1 => ∃ (i j c : Int) (n : Nat), vs = [.int i, .int j, .int c] ∧ RgC i j c n ∧ R (Itc i c n) H1
section
variable {X : Cx} {tg : Expr}
theorem pi_range3 {a b c : Expr} {ta : TA} {p pos : Pos} (hg : Gl X "range") (hm : X.mg "range" = none) (ha : PA X [a, b, c] ta)
    (hs : starEach [a, b, c] X.env = (false, eval a X.env) :: starEach [b, c] X.env := by rfl) (hpl : (backTo pos (starEach [b, c] X.env)).any (·.1) = false := by rfl) :
    PI X tg (.Call (.Name "range" p) [a, b, c] [] pos) (iRng3 ta) := by
  intro pins s σ H R I h
  refine Call_ (ld_blt I hg hm boot_range (PyProof.Rows.callWith_type1 (thn (ha pos pins s σ H _ I h) fun us s1 ⟨vs, H1, I1, r1, q1⟩ => ?_) hs hpl))
  obtain ⟨i, j, k, n, e, ⟨c0, c1, c2, c3⟩, q⟩ := q1
  subst e
  cases r1 with
  | cons r rr =>
    cases rr with
    | cons r' rr =>
      cases rr with
      | cons r'' rr =>
        cases rr
        obtain ⟨t, rfl⟩ := r
        obtain ⟨t', rfl⟩ := r'
        obtain ⟨t'', rfl⟩ := r''
        refine call_range_3 c0 ?_ (.inl (PyProof.noPylong_small c1))
        refine wpAny_pyIter_range (IsRange.new ..) c2 ?_
        have I2 : Inv X pins σ H1 { s1 with heap := s1.heap.push { cls := .type "range", data := .fields #[.int i t, .int j t', .int k t''] } } := I1.kept (t' := s1.toks) fun b o e => Heap.get?_push_of_some _ e
        refine pi_one (tk := s1.toks) I2 _ (turn_rangeC _ i k n) ?_ q
        have e1 : i + ((0 : Nat) : Int) * k = i := by simp
        have e2 : (n : Int) - ((0 : Nat) : Int) = Builtin.Range.rangeSize i j k := by rw [c3]; simp
        show IsRangeIter _ _ (i + ((0 : Nat) : Int) * k) ((n : Int) - ((0 : Nat) : Int)) k
        rw [e1, e2]
        exact Heap.get?_push_size _ rfl
end

/-! ### reversed(list) -/
/-- the list at a (n items at the start, which the loop leaves there), from its end -/
def Itv (K : PySem.W.Frag) (a : Addr) (n : Nat) : It :=
  ⟨fun i H => i < n ∧ ∃ (xs : List V) (x : V), SqL K H a xs ∧ xs[n - 1 - i]? = some x, fun i H x H' => H' = H ∧ ∀ xs, SqL K H a xs → xs[n - 1 - i]? = some x, fun i _ => n ≤ i⟩
theorem turn_rev {P : Program} {w : World} {K : PySem.W.Frag} {tg : Expr} (a it : Addr) (n : Nat) : Turn P w K tg (Itv K a n) [it] it (fun i h => i ≤ n ∧ h.IsRevIter it a ((n : Int) - 1 - (i : Nat))) where
  mem := by simp
  obj := fun i h st b hb => by
    have e : b = it := by simpa using hb
    subst e
    obtain ⟨_, o, e, c, d⟩ := st
    exact ⟨o, e, fun v z => by rw [d] at z; cases z⟩
  keep := fun i h h' st k => ⟨st.1, st.2.at fun o e => k it (by simp) o e⟩
  item := by
    intro X hP hw hK hc i pins s σ H E I hf st hg
    subst hP hw hK
    obtain ⟨hin, xs, x, hq, hx⟩ := hg
    obtain ⟨its, rv, p, hz⟩ := I.list hq
    obtain ⟨u, hu, ru⟩ := rv.get hx
    obtain ⟨f0, f1, f2, f3, f4, f5⟩ := hf it (by simp)
    obtain ⟨_, hit⟩ := st
    have e1 : (n : Int) - 1 - ((i : Nat) : Int) = ((n - 1 - i : Nat) : Int) := by omega
    rw [e1] at hit
    refine wpAny_pyNext_rev_item hit p.isList (x := u) (by simpa using hu) fun h' st' sb => ?_
    have e2 : ((n - 1 - i : Nat) : Int) - 1 = (n : Int) - 1 - ((i + 1 : Nat) : Int) := by omega
    rw [e2] at st'
    have I1 : Inv X pins σ H { s with heap := h' } := I.turned (t' := s.toks) (fun b o hb e => (sb.2 b hb).trans e) f0 f1 f3 f4 f5
    obtain ⟨o, e, c, d⟩ := id st'
    exact ⟨u, rfl, go_of (s := { s with heap := h' }) e c d (by decide) ⟨x, H, I1, ru, ⟨rfl, fun ys hy => by rw [I.list_inj hy hq]; exact hx⟩, ⟨hin, st'⟩, fun b hb => (hf b hb).1⟩⟩
  done := by
    intro X hP hw hK hc i pins s σ H E I hf st hg
    subst hP hw hK
    obtain ⟨f0, f1, f2, f3, f4, f5⟩ := hf it (by simp)
    obtain ⟨hin, hit⟩ := st
    have hge : n ≤ i := hg
    have e1 : (n : Int) - 1 - ((i : Nat) : Int) = -1 := by omega
    rw [e1] at hit
    exact wpAny_pyNext_rev_end (I.ok.hd hc) hit fun h' eb => ⟨rfl, I.turned (t' := s.toks) (fun b o hb e => eb b o hb e) f0 f1 f3 f4 f5⟩
  self := fun A i s Q E st h => wpAny_pyIter_revIter st.2 h
def iRev (K : PySem.W.Frag) (ta : TA) : TI := fun σ H R => ta σ H fun vs H1 => ∃ (a : Addr) (xs : List V), vs = [.ref a] ∧ SqL K H1 a xs ∧ R (Itv K a xs.length) H1
section
variable {X : Cx} {tg : Expr}
theorem pi_reversed {e : Expr} {ta : TA} {p pos : Pos} (hg : Gl X "reversed") (hm : X.mg "reversed" = none) (ha : PA X [e] ta) (hs : starEach [e] X.env = [(false, eval e X.env)] := by rfl) : PI X tg (.Call (.Name "reversed" p) [e] [] pos) (iRev X.K ta) := by
  intro pins s σ H R I h
  refine Call_ (ld_blt I hg hm boot_reversed5 (PyProof.Rows.callWith_type1 (thn (ha pos pins s σ H _ I h) fun us s1 ⟨vs, H1, I1, r1, q1⟩ => ?_) hs rfl))
  obtain ⟨a, xs, e, hq, q⟩ := q1
  subst e
  cases r1 with
  | cons r rr =>
    cases rr
    cases r
    obtain ⟨its, rv, p', hz⟩ := I1.list hq
    have hl := rv.length
    have e1 : ((its.toArray.size : Nat) : Int) - 1 = (xs.length : Int) - 1 - ((0 : Nat) : Int) := by simp only [List.size_toArray]; omega
    refine call_reversed_list p'.isList (wpAny_pyIter_revIter (l := a) (i := ((its.toArray.size : Nat) : Int) - 1) ⟨_, Heap.get?_push_size _ rfl, rfl, rfl⟩ ?_)
    refine pi_one (tk := s1.toks) I1 _ (turn_rev a _ xs.length) ⟨Nat.zero_le _, ?_⟩ q
    rw [← e1]
    exact ⟨_, Heap.get?_push_size _ rfl, rfl, rfl⟩
end

/-! ### a str -/

/-! ### a dict's keys: any dict's entries -/
section
variable {prog : Program} {w : World} {A : Around} {E : Value → Shared → Prop} {s : Shared}
end

/-! ### a locked dict -/
section
variable {X : Cx} {pins : List (Addr × Obj)} {σ : St} {H : Hp} {s : Shared} {d : Addr} {o : Obj}
end

section
variable {P : Program} {w : World} {K : PySem.W.Frag} {tg : Expr} {d : Addr} {o : Obj} {es : Array DictEntry} {ep : Nat}
end

/-! ### for k in d, d.keys(), d.values(), d.items() -/
section
variable {X : Cx} {tg e : Expr} {td : TE} {apos cpos : Pos}
end

/-! ### enumerate(list) -/
/-- the list at a as it stands at each turn, each item in a new pair -/
def Ite (K : PySem.W.Frag) (a : Addr) : It :=
  ⟨fun i H => ∃ (xs : List V) (x : V), SqL K H a xs ∧ xs[i]? = some x, fun i H v H' => ∃ T x, v = .ref T ∧ H T = none ∧ H' = upd H T (.tup [.int (i : Nat), x]) ∧ ∀ xs, SqL K H a xs → xs[i]? = some x, fun i H => ∃ xs : List V, SqL K H a xs ∧ xs.length ≤ i⟩
theorem turn_enum {P : Program} {w : World} {K : PySem.W.Frag} {elts : List Expr} {kk : Nat} {tpos : Pos} (a e it : Addr) :
    Turn P w K (.Tuple elts kk tpos) (Ite K a) [e, it] e (fun i h => (∃ old, IsEnum h e it ((i : Nat) : Int) old) ∧ h.IsListIter it a i ∧ e ≠ it) where
  mem := by simp
  obj := fun i h st b hb => by
    obtain ⟨⟨old, he⟩, ⟨o, ho, hc, hd⟩, _⟩ := st
    have e' : b = e ∨ b = it := by simpa using hb
    rcases e' with z | z
    · rw [z]; exact ⟨_, he, fun v q => nomatch q⟩
    · rw [z]; exact ⟨o, ho, fun v q => by rw [hd] at q; cases q⟩
  keep := fun i h h' st k => let ⟨⟨old, he⟩, hi, hne⟩ := st; ⟨⟨old, k e (by simp) _ he⟩, hi.at fun o q => k it (by simp) o q, hne⟩
  item := by
    intro X hP hw hK hc i pins s σ H E I hf st hg
    subst hP hw hK
    obtain ⟨⟨old, he⟩, hit, hne⟩ := st
    obtain ⟨xs, x, hq, hx⟩ := hg
    obtain ⟨its, rv, p, hz⟩ := I.list hq
    obtain ⟨u, hu, ru⟩ := rv.get hx
    have hel : e < s.heap.objs.size := Heap.lt_size he
    have hil : it < s.heap.objs.size := by obtain ⟨_, q, _⟩ := hit; exact Heap.lt_size q
    refine wpAny_pyNext_enum_item he hit p.isList (x := u) (by simpa using hu) hne fun h' ho hit' hT hsz hk => ?_
    refine ⟨_, rfl, wpAny_letOwnedTupleGo_enum (s := { s with heap := h', toks := s.toks + 1 }) ho fun h'' he' sb => ?_⟩
    have hT2 : h''.get? s.heap.objs.size = some { cls := .type "tuple", data := .seq #[.int i s.toks, u] } := (sb.2 _ (Nat.ne_of_gt hel)).trans hT
    have new : ObjOk X.prog X.w (upd H s.heap.objs.size (.tup [.int (i : Nat), x])) h'' s.heap.objs.size (.tup [.int (i : Nat), x]) :=
      ⟨by show 2 ≤ sizeLine; decide, [.int i s.toks, u], .cons ⟨_, rfl⟩ (.cons ru .nil), ⟨_, hT2, rfl, _, rfl⟩⟩
    have I1 : Inv X pins σ (upd H s.heap.objs.size (.tup [.int (i : Nat), x])) { s with heap := h'', toks := s.toks + 1 } :=
      I.turnedNew (ch := [e, it]) (fun b ob hb q => (sb.2 b (fun z => hb (by simp [z]))).trans (hk b ob (fun z => hb (by simp [z])) (fun z => hb (by simp [z])) q)) hf (Nat.le_refl _) new
    refine ⟨.ref s.heap.objs.size, _, I1, rfl, ⟨_, x, rfl, I.hok.fresh (Nat.le_refl _), rfl, fun ys hy => by rw [I.list_inj hy hq]; exact hx⟩, ⟨⟨u, ?_⟩, hit'.at fun o q => (sb.2 it (Ne.symm hne)).trans q, hne⟩, fun b hb => ?_⟩
    · have e1 : ((i + 1 : Nat) : Int) = (i : Int) + 1 := by omega
      rw [e1]; exact he'
    · have hb' : b < s.heap.objs.size := by
        have e' : b = e ∨ b = it := by simpa using hb
        rcases e' with z | z
        · rw [z]; exact hel
        · rw [z]; exact hil
      rw [upd_ne (Nat.ne_of_lt hb')]
      exact (hf b hb).1
  done := by
    intro X hP hw hK hc i pins s σ H E I hf st hg
    subst hP hw hK
    obtain ⟨⟨old, he⟩, hit, hne⟩ := st
    obtain ⟨xs, hq, hx⟩ := hg
    obtain ⟨its, rv, p, hz⟩ := I.list hq
    obtain ⟨f0, f1, f2, f3, f4, f5⟩ := hf it (by simp)
    have hl := rv.length
    exact wpAny_pyNext_enum_end (I.ok.hd hc) he hit p.isList (by simp; omega) fun h' eb => ⟨rfl, I.turned (t' := s.toks) (fun b o hb q => eb b o hb q) f0 f1 f3 f4 f5⟩
  self := fun A i s Q E st h => let ⟨⟨_, he⟩, _⟩ := st; wpAny_pyIter_enum he h
def iEnum (K : PySem.W.Frag) (ta : TA) : TI := fun σ H R => ta σ H fun vs H1 => ∃ a xs, vs = [.ref a] ∧ SqL K H1 a xs ∧ R (Ite K a) H1
theorem pi_enum {X : Cx} {e : Expr} {ta : TA} {p pos tpos : Pos} {elts : List Expr} {kk : Nat} (hg : Gl X "enumerate") (hm : X.mg "enumerate" = none) (ha : PA X [e] ta) (hs : starEach [e] X.env = [(false, eval e X.env)] := by rfl) :
    PI X (.Tuple elts kk tpos) (.Call (.Name "enumerate" p) [e] [] pos) (iEnum X.K ta) := by
  intro pins s σ H R I h
  refine Call_ (ld_blt I hg hm boot_enumerate (PyProof.Rows.callWith_type1 (thn (ha pos pins s σ H _ I h) fun us s1 ⟨vs, H1, I1, r1, q1⟩ => ?_) hs rfl))
  obtain ⟨a, xs, ex, hq, q⟩ := q1
  subst ex
  cases r1 with
  | cons r rr =>
    cases rr
    cases r
    obtain ⟨its, rv, p', hz⟩ := I1.list hq
    refine call_enumerate_list p'.isList fun h' he hit hsz hk => wpAny_pyIter_enum he ?_
    have I2 : Inv X pins σ H1 { s1 with heap := h' } := I1.kept (t' := s1.toks) hk
    refine ⟨s1.heap.objs.size + 1, [s1.heap.objs.size + 1, s1.heap.objs.size], _, _, H1, rfl, I2, turn_enum a (s1.heap.objs.size + 1) s1.heap.objs.size, ⟨⟨.none, he⟩, hit, Nat.succ_ne_self _⟩, fun b hb => ?_, q⟩
    have e' : b = s1.heap.objs.size + 1 ∨ b = s1.heap.objs.size := by simpa using hb
    have hle : s1.heap.objs.size ≤ b := by
      rcases e' with z | z
      · rw [z]; exact Nat.le_add_right _ _
      · rw [z]; exact Nat.le_refl _
    exact I1.fpOk hle (I1.hok.fresh hle)
/-! ### zip(list, list) -/
end L2

section 
namespace Bits
open PySem PyProof.Rows








end Bits
end 

section 
namespace TL
open PySem PySem.Builtin PySem.Builtin.Str PySem.StrLaws


/-! ### the list functions -/




/-! ### the model's split and partition are these -/




/-! ### computing spl and par -/


/-! ### digits -/

/-! ### words: x.split() -/
end TL
end 

namespace L2
open PySem PySem.Spec PyProof.Rows




section
variable {X : Cx} {pins : List (Addr × Obj)} {σ : St} {H : Hp} {s : Shared} {Q : VK}
end

section
variable {X : Cx}





/-! ### of a text alone -/

/-! ### of a text and a text -/

end

section
variable {X : Cx} {o e : Expr} {to te : TE}

end
end L2

namespace L2
open PySem PySem.Spec PyProof.Rows

section
variable {X : Cx}
end

/-! ### slices of a text -/


end L2

namespace Att
open PySem PySem.W PySem.Calls PyProof.Rows

/-! ### the script -/



/-! ### the attachment: holds_open's last premise (the goal 'hc' behind k_head) from a wpAny of the law's body -/



/-! ### rules over ANY heap (no ledger) from facts about the written part K: the library's own take a ledger (News) for what they write -/
section
variable {prog : Program} {w : World} {A : Around} {E : Value → Shared → Prop} {s : Shared} {K : Frag}





/-! the whole heap as the ledger: makes every rule that writes through a ledger a rule over any heap -/

end
end Att

namespace L2
open PySem PySem.Spec PyProof.Rows



end L2

namespace L2
open PySem PySem.Spec PyProof.Rows


end L2



/-! SHORT WORDS over the layer: a def of the text, its body, what a loop and a test want. -/
namespace L2
open PySem PySem.Spec PyProof.Rows

/-! ### the text by places -/
def defArgs (s : Stmt) : Arguments := match s with
  | .FunctionDef _ a _ _ _ _ _ _ _ _ => a
  | _ => { posonlyargs := [], args := [], vararg := none, kwonlyargs := [], kw_defaults := [], kwarg := none, defaults := [] }
def defBody (s : Stmt) : List Stmt := match s with
  | .FunctionDef _ _ b _ _ _ _ _ _ _ => b
  | _ => []
def defScope (s : Stmt) : Scope := match s with
  | .FunctionDef _ _ _ _ _ _ sc _ _ _ => sc
  | _ => { kind := .function, names := [], isGenerator := false, isCoroutine := false }

/-! ### no exception leaves a def -/
abbrev CX0 : CXT := fun _ _ _ _ _ _ => False
abbrev E0 : XK := fun _ _ _ => False
theorem pass0 {X : Cx} : Passes CX0 X E0 := fun _ _ _ _ _ _ _ h => h.elim

/-! ### a def (or method) of the text as it stands behind the top -/
structure Fun (K : PySem.W.Frag) (x qual : Str) (st : Stmt) (f : Addr) (fd : FuncData) : Prop where
  ex : ∃ (oc : Value) (od : Option Addr) (kV doc pm : Value) (an : Option Addr) (cdv ct : Value) (osl : Array (Option Value)),
    fd = PySem.W.fnOf x qual (defArgs st) (defBody st) (defScope st) .none kV doc pm an cdv ct ∧ K.lookup f = some ⟨oc, od, .func fd, osl⟩ ∧ PySem.W.codeIn K cdv qual = true
  kp : PySem.W.keepIn K (.ref f) = true
section
variable {P : Program} {w : World} {K : PySem.W.Frag} {mg : Str → Option Value} {base : Heap}
/-- THE RULE for a def: its body as a term of rules, and the reading of that term -/
theorem Fun.ok {x qual : Str} {st : Stmt} {f : Addr} {fd : FuncData} {N ps : List Str} {k : Nat} {sp : Sp} (F : Fun K x qual st f fd) (S : FnScope N ps (defScope st)) (len : ∀ vs H Q E, sp vs H Q E → vs.length = ps.length)
    (hbody : ∀ (cdv : Value) (A : Around) (outer : List Env) (s : Shared) (H : Hp) (vs : List V) (Q : VK) (E : XK), Room k (A.deeper (envOfC qual (defScope st) s.heap.objs.size f cdv)) → sp vs H Q E →
      ∃ t, PSs (cxOf CX0 P w K mg base N qual (defScope st) f cdv A outer s H E).nox (defBody st) t ∧ t { nx := fun _ H' => Q .non H', rt := Q } (start N vs) H) : FnOk P w K mg base CX0 (k + 1) f fd ps sp := by
  obtain ⟨oc, od, kV, doc, pm, an, cdv, ct, osl, rfl, lk, hcd⟩ := F.ex
  refine fn_of lk hcd S len fun A outer s H vs Q E hr hsp => ?_
  obtain ⟨t, h, q⟩ := hbody cdv A outer s H vs Q E hr hsp
  exact ⟨t, h.nox, q⟩
/-- how its arguments bind (no defaults): h is «fun _ _ _ _ _ _ us hl => match us, hl with | [_, _], _ => rfl», one _ a parameter -/
theorem Fun.binds {x qual : Str} {st : Stmt} {f : Addr} {fd : FuncData} {ps : List Str} (F : Fun K x qual st f fd)
    (h : ∀ (kV doc pm : Value) (an : Option Addr) (cdv ct : Value) (us : List Value), us.length = ps.length → bindArgs (PySem.W.fnOf x qual (defArgs st) (defBody st) (defScope st) .none kV doc pm an cdv ct) ⟨us, []⟩ = pure (ps.zip us)) : Binds K fd ps [] := by
  obtain ⟨oc, od, kV, doc, pm, an, cdv, ct, osl, rfl, lk, hcd⟩ := F.ex
  exact .all (h kV doc pm an cdv ct)
theorem fun_mk {x qual : Str} {st : Stmt} {f : Addr} {oc : Value} {od an : Option Addr} {osl : Array (Option Value)} {kV doc pm cdv ct : Value} (l : K.lookup f = some ⟨oc, od, .func (PySem.W.fnOf x qual (defArgs st) (defBody st) (defScope st) .none kV doc pm an cdv ct), osl⟩)
    (c : PySem.W.codeIn K cdv qual = true) (k : PySem.W.keepIn K (.ref f) = true) : Fun K x qual st f (PySem.W.fnOf x qual (defArgs st) (defBody st) (defScope st) .none kV doc pm an cdv ct) := ⟨⟨oc, od, kV, doc, pm, an, cdv, ct, osl, rfl, l, c⟩, k⟩
end
theorem hu_of {A : Around} {k : Nat} (hr : Room k A) : A.units + 1 < cLine := Nat.lt_of_le_of_lt (Nat.add_le_add_left (by decide : 1 ≤ 64) _) hr.units

/-! ### expressions in short: the name that stands in the i-th slot -/
section
variable {X : Cx}
theorem pv (i : Nat) {x : Str} {pos : Pos} (hN : X.N[i]? = some x := by rfl) (hv : Vis X.env.scope x := by first | exact Or.inl rfl | exact Or.inr (Or.inl rfl) | exact Or.inr (Or.inr rfl)) (hd : (x == ("__debug__" : Str)) = false := by decide)
    (hcd : (x == ("__classdict__" : Str)) = false := by decide) : PE X (.Name x pos) (tVar i) := pe_var hN hv hd hcd
end

/-! ### tests -/
theorem iteF {A B : Prop} (h : B) : if false = true then A else B := by
  rw [if_neg Bool.false_ne_true]
  exact h
theorem iteT {A B : Prop} (h : A) : if true = true then A else B := by
  rw [if_pos rfl]
  exact h
theorem ite2 {c A B : Prop} [Decidable c] (h1 : c → A) (h2 : ¬ c → B) : if c then A else B := by
  by_cases h : c
  · rw [if_pos h]
    exact h1 h
  · rw [if_neg h]
    exact h2 h

/-! ### heaps -/
/-- all that was tracked is as it was -/
def Same (H H' : Hp) : Prop := ∀ b o, H b = some o → H' b = some o
theorem Same.refl (H : Hp) : Same H H := fun _ _ h => h
theorem Same.trans {H H1 H2 : Hp} (a : Same H H1) (b : Same H1 H2) : Same H H2 := fun c o h => b c o (a c o h)
theorem Same.seq {K : PySem.W.Frag} {H H' : Hp} {a : Addr} {xs : List V} (e : Same H H') (h : SqL K H a xs) : SqL K H' a xs := by
  rcases h with (h | ⟨o, h⟩) | h
  · exact .inl (.inl (e _ _ h))
  · exact .inl (.inr ⟨o, e _ _ h⟩)
  · exact .inr h

/-! ### a dict's pairs: keys that differ -/
section
variable {κ : Type} [DecidableEq κ]
theorem valV_not {kvs : List (κ × V)} {k : κ} (h : valV kvs k = none) : ¬ k ∈ kvs.map (·.1) := by
  intro m
  obtain ⟨p, hp, e⟩ := List.mem_map.mp m
  have q : (kvs.any fun kv => decide (kv.1 = k)) = true := List.any_eq_true.mpr ⟨p, hp, decide_eq_true e⟩
  rw [valV_any, h] at q
  exact absurd q (by simp)
theorem valV_in {kvs : List (κ × V)} {k : κ} {v : V} (h : valV kvs k = some v) : k ∈ kvs.map (·.1) := by
  have q : (kvs.any fun kv => decide (kv.1 = k)) = true := by
    rw [valV_any, h]
    all_goals rfl
  obtain ⟨p, hp, e⟩ := List.any_eq_true.mp q
  exact List.mem_map.mpr ⟨p, hp, of_decide_eq_true e⟩
end
/-! ### lists -/
theorem at_of {xs : List V} {z : Int} {j : Nat} {v : V} (e : z = (j : Int)) (h : xs[j]? = some v) : atI xs z = some v := by
  rw [e]
  exact atI_nat h
end L2

namespace L2
open PySem PySem.Spec PyProof.Rows
open PySem.W (WData Codec OpenSpec Well WellAll ReadsW ReadsAllW)
/-! ### an answer as data -/
mutual
/-- x stands for the datum d, lists and tuples all the way -/
inductive Dw (K : PySem.W.Frag) (H : Hp) : V → WData → Prop
  | non : Dw K H .non .none
  | bl (b : Bool) : Dw K H (.bl b) (.bool b)
  | int (i : Int) : Dw K H (.int i) (.int i)
  | str (x : Str) : Dw K H (.str x) (.str x)
  | byt (b : Array UInt8) : Dw K H (.byt b) (.bytes b.toList)
  | lst {a : Addr} {xs : List V} {ds : List WData} : SqL K H a xs → DwAll K H xs ds → Dw K H (.ref a) (.list ds)
  | tup {a : Addr} {xs : List V} {ds : List WData} : SqT K H a xs → DwAll K H xs ds → Dw K H (.ref a) (.tuple ds)
inductive DwAll (K : PySem.W.Frag) (H : Hp) : List V → List WData → Prop
  | nil : DwAll K H [] []
  | cons {v : V} {vs : List V} {d : WData} {ds : List WData} : Dw K H v d → DwAll K H vs ds → DwAll K H (v :: vs) (d :: ds)
end
theorem dw_ints {K : PySem.W.Frag} {H : Hp} : ∀ ns : List Int, DwAll K H (ns.map V.int) (ns.map WData.int)
  | [] => .nil
  | n :: r => .cons (.int n) (dw_ints r)
theorem ints_dw {K : PySem.W.Frag} {H : Hp} : ∀ (ns : List Int) (xs : List V), DwAll K H xs (ns.map WData.int) → xs = ns.map V.int
  | [], xs, h => by
    cases h
    rfl
  | n :: r, xs, h => by
    cases h with
    | cons h1 h2 =>
      cases h1
      rw [ints_dw r _ h2] <;> rfl
section
variable {P : Program} {w : World} {K : PySem.W.Frag} {H : Hp} {h : Heap} {R : PySem.W.WRecords} {cl : Str → Option Addr}
theorem sqL_at {a : Addr} {xs : List V} (hok : HOk P w H h) (KX : K.In h) (q : SqL K H a xs) : ∃ (its : List Value) (o : Obj) (n : Nat), Vals xs its ∧ h.get? a = some o ∧ o.cls = .type "list" ∧ o.data = .seq its.toArray n := by
  rcases q with q | ⟨o, its, n, e, hc, _, hd, _, hv⟩
  · obtain ⟨_, its, n, hv, e⟩ := (show ObjOk P w H h a (.lst xs) from q.ok hok)
    exact ⟨its, _, n, hv, e, rfl, rfl⟩
  · exact ⟨its.toList, o, n, hv, KX _ _ e, hc, by simp [hd]⟩
theorem sqT_at {a : Addr} {xs : List V} (hok : HOk P w H h) (KX : K.In h) (q : SqT K H a xs) : ∃ (its : List Value) (o : Obj) (n : Nat), Vals xs its ∧ h.get? a = some o ∧ o.cls = .type "tuple" ∧ o.data = .seq its.toArray n := by
  rcases q with q | ⟨o, its, n, e, hc, hd, _, hv⟩
  · obtain ⟨_, its, hv, o, e, hc, n, hd⟩ := (show ObjOk P w H h a (.tup xs) from q.ok hok)
    exact ⟨its, o, n, hv, e, hc, hd⟩
  · exact ⟨its.toList, o, n, hv, KX _ _ e, hc, by simp [hd]⟩
mutual
theorem Dw.reads (hok : HOk P w H h) (KX : K.In h) : ∀ (d : WData) (v : V) (u : Value), Dw K H v d → RelV v u → ∃ as, ReadsW R cl h u d as
  | .none, _, _, x, r => by
    cases x
    cases r
    exact ⟨_, ReadsW.none⟩
  | .bool b, _, _, x, r => by
    cases x
    cases r
    exact ⟨_, ReadsW.bool b⟩
  | .int i, _, _, x, r => by
    cases x
    obtain ⟨t, rfl⟩ := r
    exact ⟨_, ReadsW.int i t⟩
  | .str s, _, _, x, r => by
    cases x
    obtain ⟨t, rfl⟩ := r
    exact ⟨_, ReadsW.str s t⟩
  | .bytes b, _, _, x, r => by
    cases x
    obtain ⟨t, rfl⟩ := r
    exact ⟨_, ReadsW.bytes _ t⟩
  | .list ds, _, _, x, r => by
    cases x with
    | lst hs ha =>
      cases r
      obtain ⟨its, o, n, rv, ho, hc, hd⟩ := sqL_at hok KX hs
      obtain ⟨as, hr⟩ := Dw.readsAll hok KX ds _ its ha rv
      exact ⟨_, ReadsW.list ho hc hd hr⟩
  | .tuple ds, _, _, x, r => by
    cases x with
    | tup hs ha =>
      cases r
      obtain ⟨its, o, n, rv, ho, hc, hd⟩ := sqT_at hok KX hs
      obtain ⟨as, hr⟩ := Dw.readsAll hok KX ds _ its ha rv
      exact ⟨_, ReadsW.tuple ho hc hd hr⟩
  | .float _, _, _, x, _ => by cases x
  | .dict _, _, _, x, _ => by cases x
  | .bytearray _, _, _, x, _ => by cases x
  | .set _, _, _, x, _ => by cases x
  | .frozenset _, _, _, x, _ => by cases x
  | .obj _ _, _, _, x, _ => by cases x
theorem Dw.readsAll (hok : HOk P w H h) (KX : K.In h) : ∀ (ds : List WData) (vs : List V) (us : List Value), DwAll K H vs ds → Vals vs us → ∃ as, ReadsAllW R cl h us ds as
  | [], _, _, x, r => by
    cases x
    cases r
    exact ⟨_, ReadsAllW.nil⟩
  | d :: ds, _, _, x, r => by
    cases x with
    | cons h1 h2 =>
      cases r with
      | cons r1 r2 =>
        obtain ⟨as, q1⟩ := Dw.reads hok KX d _ _ h1 r1
        obtain ⟨bs, q2⟩ := Dw.readsAll hok KX ds _ _ h2 r2
        exact ⟨_, ReadsAllW.cons q1 q2⟩
end
end
/-! ### the arguments -/
mutual
/-- data that a codec tells -/
def plW : WData → Bool
  | .none => true
  | .bool _ => true
  | .int _ => true
  | .str _ => true
  | .bytes _ => true
  | .list xs => plWs xs
  | .tuple xs => plWs xs
  | _ => false
def plWs : List WData → Bool
  | [] => true
  | x :: r => plW x && plWs r
end
theorem plWs_map {α : Type} {f : α → WData} (h : ∀ a, plW (f a) = true) : ∀ l : List α, plWs (l.map f) = true
  | [] => rfl
  | x :: r => by
    show (plW (f x) && plWs (r.map f)) = true
    rw [h x, plWs_map h r] <;> rfl
theorem pl_enc : ∀ (c : Codec) (a : c.denote), plW (c.enc a) = true
  | .unit, _ => rfl
  | .bool, _ => rfl
  | .int _ _, _ => rfl
  | .nat _ _, _ => rfl
  | .u8, _ => rfl
  | .bytes _ _, _ => rfl
  | .text _ _ _ _, _ => rfl
  | .list _ _ c, a => plWs_map (fun x => pl_enc c x) a
  | .pair c d, a => by
    show (plW (c.enc a.1) && (plW (d.enc a.2) && true)) = true
    rw [pl_enc c a.1, pl_enc d a.2] <;> rfl
  | .triple c d e, a => by
    show (plW (c.enc a.1) && (plW (d.enc a.2.1) && (plW (e.enc a.2.2) && true))) = true
    rw [pl_enc c a.1, pl_enc d a.2.1, pl_enc e a.2.2] <;> rfl
  | .option c, none => rfl
  | .option c, some x => pl_enc c x
theorem pl_encAll : ∀ (cs : List Codec) (a : Codec.denoteAll cs), plWs (Codec.encAll cs a) = true
  | [], _ => rfl
  | c :: cs, a => by
    show (plW (c.enc a.1) && plWs (Codec.encAll cs a.2)) = true
    rw [pl_enc c a.1, pl_encAll cs a.2] <;> rfl
theorem weight_mem : ∀ {xs : List WData} {d : WData}, d ∈ xs → d.weight ≤ WData.weightAll xs
  | [], d, h => absurd h (by simp)
  | x :: r, d, h => by
    show d.weight ≤ x.weight + 1 + WData.weightAll r
    rcases List.mem_cons.mp h with e | m
    · rw [e]
      omega
    · have z := weight_mem m
      omega
def toV : Value → V
  | .none => .non
  | .bool b => .bl b
  | .int i _ => .int i
  | .str x _ => .str x
  | .bytes b _ => .byt b
  | .ref a => .ref a
  | _ => .non
/-- a value of the arguments, its objects among A -/
def OkU (A : List Addr) : Value → Prop
  | .none => True
  | .bool _ => True
  | .int _ _ => True
  | .str _ _ => True
  | .bytes _ _ => True
  | .ref a => a ∈ A
  | _ => False
theorem OkU.mono {A B : List Addr} (h : ∀ a ∈ A, a ∈ B) : ∀ {u : Value}, OkU A u → OkU B u := fun {u} x => by
  cases u with
  | ref a => exact h a x
  | none => trivial
  | bool b => trivial
  | int i t => trivial
  | str s t => trivial
  | bytes b t => trivial
  | _ => exact False.elim x
theorem relV_toV {A : List Addr} {u : Value} (x : OkU A u) : RelV (toV u) u := by
  cases u with
  | ref a => rfl
  | none => rfl
  | bool b => rfl
  | int i t => exact ⟨t, rfl⟩
  | str s t => exact ⟨t, rfl⟩
  | bytes b t => exact ⟨t, rfl⟩
  | _ => exact False.elim x
theorem vals_toV {A : List Addr} : ∀ {vs : List Value}, (∀ u ∈ vs, OkU A u) → Vals (vs.map toV) vs
  | [], _ => .nil
  | u :: r, h => .cons (relV_toV (h u (List.mem_cons_self ..))) (vals_toV fun x hx => h x (List.mem_cons_of_mem _ hx))
/-- an object of the arguments -/
def ArgOb (h : Heap) (A : List Addr) (a : Addr) : Prop := ∃ vs : List Value, vs.length ≤ sizeLine ∧ (∀ u ∈ vs, OkU A u) ∧
  (h.get? a = some { cls := .type "list", data := .seq vs.toArray } ∨ h.get? a = some { cls := .type "tuple", data := .seq vs.toArray })
theorem ArgOb.mono {h : Heap} {A B : List Addr} {a : Addr} (k : ∀ a ∈ A, a ∈ B) (x : ArgOb h A a) : ArgOb h B a := by
  obtain ⟨vs, h1, h2, h3⟩ := x
  exact ⟨vs, h1, fun u hu => (h2 u hu).mono k, h3⟩
theorem wellAll_len {P : Params} {h : Heap} : ∀ {vs : List Value} {ds : List WData}, WellAll P h vs ds → vs.length = ds.length
  | _, _, .nil => rfl
  | _, _, .cons _ b => by
    show _ + 1 = _ + 1
    rw [wellAll_len b]
theorem well_list {P : Params} {h : Heap} {v : Value} {ds : List WData} (x : Well P h v (.list ds)) : ∃ (a : Addr) (vs : List Value), v = .ref a ∧ h.get? a = some { cls := .type "list", data := .seq vs.toArray } ∧ WellAll P h vs ds := by
  cases x with
  | list ho hall => exact ⟨_, _, rfl, ho, hall⟩
theorem well_tuple {P : Params} {h : Heap} {v : Value} {ds : List WData} (x : Well P h v (.tuple ds)) : ∃ (a : Addr) (vs : List Value), v = .ref a ∧ h.get? a = some { cls := .type "tuple", data := .seq vs.toArray } ∧ WellAll P h vs ds := by
  cases x with
  | tuple ho hall => exact ⟨_, _, rfl, ho, hall⟩
theorem well_cons {P : Params} {h : Heap} {us : List Value} {d : WData} {ds : List WData} (x : WellAll P h us (d :: ds)) : ∃ (v : Value) (vs : List Value), us = v :: vs ∧ Well P h v d ∧ WellAll P h vs ds := by
  cases x with
  | cons a b => exact ⟨_, _, rfl, a, b⟩
theorem line_of {n : Nat} (h : n ≤ 1048576) : n ≤ sizeLine := Nat.le_trans h (by decide)
section
variable {P : Params} {h : Heap}
mutual
theorem area_one : ∀ (d : WData) (v : Value), Well P h v d → plW d = true → d.weight ≤ 1048576 → ∃ A : List Addr, OkU A v ∧ ∀ a ∈ A, ArgOb h A a
  | .none, _, x, _, _ => by
    cases x
    exact ⟨[], trivial, fun a m => absurd m (by simp)⟩
  | .bool b, _, x, _, _ => by
    cases x
    exact ⟨[], trivial, fun a m => absurd m (by simp)⟩
  | .int i, _, x, _, _ => by
    cases x
    exact ⟨[], trivial, fun a m => absurd m (by simp)⟩
  | .str s, _, x, _, _ => by
    cases x
    exact ⟨[], trivial, fun a m => absurd m (by simp)⟩
  | .bytes b, _, x, _, _ => by
    cases x
    exact ⟨[], trivial, fun a m => absurd m (by simp)⟩
  | .list ds, _, x, p, z => by
    obtain ⟨a, vs, rfl, ho, hall⟩ := well_list x
    have z2 : WData.weightAll ds ≤ 1048576 := z
    obtain ⟨A, h1, h2⟩ := area_all ds _ hall p fun d hd => Nat.le_trans (weight_mem hd) z2
    have k : ∀ b ∈ A, b ∈ a :: A := fun b hb => List.mem_cons_of_mem _ hb
    refine ⟨a :: A, List.mem_cons_self .., fun b hb => ?_⟩
    rcases List.mem_cons.mp hb with e | m
    · rw [e]
      exact ⟨vs, line_of (by rw [wellAll_len hall]; exact Nat.le_trans (PySem.W.length_le_weightAllW ds) z2), fun u hu => (h1 u hu).mono k, .inl ho⟩
    · exact (h2 b m).mono k
  | .tuple ds, _, x, p, z => by
    obtain ⟨a, vs, rfl, ho, hall⟩ := well_tuple x
    have z2 : WData.weightAll ds ≤ 1048576 := z
    obtain ⟨A, h1, h2⟩ := area_all ds _ hall p fun d hd => Nat.le_trans (weight_mem hd) z2
    have k : ∀ b ∈ A, b ∈ a :: A := fun b hb => List.mem_cons_of_mem _ hb
    refine ⟨a :: A, List.mem_cons_self .., fun b hb => ?_⟩
    rcases List.mem_cons.mp hb with e | m
    · rw [e]
      exact ⟨vs, line_of (by rw [wellAll_len hall]; exact Nat.le_trans (PySem.W.length_le_weightAllW ds) z2), fun u hu => (h1 u hu).mono k, .inr ho⟩
    · exact (h2 b m).mono k
  | .float _, _, _, p, _ => Bool.noConfusion (show false = true from p)
  | .dict _, _, _, p, _ => Bool.noConfusion (show false = true from p)
  | .bytearray _, _, _, p, _ => Bool.noConfusion (show false = true from p)
  | .set _, _, _, p, _ => Bool.noConfusion (show false = true from p)
  | .frozenset _, _, _, p, _ => Bool.noConfusion (show false = true from p)
  | .obj _ _, _, _, p, _ => Bool.noConfusion (show false = true from p)
theorem area_all : ∀ (ds : List WData) (vs : List Value), WellAll P h vs ds → plWs ds = true → (∀ d ∈ ds, d.weight ≤ 1048576) → ∃ A : List Addr, (∀ u ∈ vs, OkU A u) ∧ ∀ a ∈ A, ArgOb h A a
  | [], _, x, _, _ => by
    cases x
    exact ⟨[], fun u m => absurd m (by simp), fun a m => absurd m (by simp)⟩
  | d :: ds, _, x, p, z => by
    obtain ⟨v, vs, rfl, x1, x2⟩ := well_cons x
    have q : plW d = true ∧ plWs ds = true := Bool.and_eq_true_iff.mp p
    obtain ⟨A, a1, a2⟩ := area_one d v x1 q.1 (z d (List.mem_cons_self ..))
    obtain ⟨B, b1, b2⟩ := area_all ds vs x2 q.2 fun e he => z e (List.mem_cons_of_mem _ he)
    have kA : ∀ b ∈ A, b ∈ A ++ B := fun b hb => List.mem_append.mpr (.inl hb)
    have kB : ∀ b ∈ B, b ∈ A ++ B := fun b hb => List.mem_append.mpr (.inr hb)
    refine ⟨A ++ B, fun u hu => ?_, fun b hb => ?_⟩
    · rcases List.mem_cons.mp hu with e | m
      · rw [e]
        exact a1.mono kA
      · exact (b1 u m).mono kB
    · rcases List.mem_append.mp hb with m | m
      · exact (a2 b m).mono kA
      · exact (b2 b m).mono kB
end
end
/-- what is tracked of an argument's object -/
def hoOf (o : Obj) : Option HO := match o.data with
  | .seq vs _ => if (o.cls == Value.type "list") = true then some (.frz o (.lst (vs.toList.map toV))) else some (.frz o (.tup (vs.toList.map toV)))
  | _ => none
def argH (K : PySem.W.Frag) (h : Heap) (A : List Addr) : Hp := fun b => if b ∈ A then (if (K.lookup b).isNone = true then (h.get? b).bind hoOf else none) else none
/-- nothing is tracked but what is known to the object -/
def OnlyF (H : Hp) : Prop := ∀ b, H b = none ∨ ∃ o u, H b = some (.frz o u)
theorem hoOf_lst (vs : List Value) : hoOf { cls := .type "list", data := .seq vs.toArray } = some (.frz { cls := .type "list", data := .seq vs.toArray } (.lst (vs.map toV))) := by
  show (if (Value.type "list" == Value.type "list") = true then some (HO.frz { cls := .type "list", data := .seq vs.toArray } (.lst (vs.toArray.toList.map toV))) else some (HO.frz { cls := .type "list", data := .seq vs.toArray } (.tup (vs.toArray.toList.map toV)))) = _
  rw [if_pos (beq_self_eq_true _)]
theorem hoOf_tup (vs : List Value) : hoOf { cls := .type "tuple", data := .seq vs.toArray } = some (.frz { cls := .type "tuple", data := .seq vs.toArray } (.tup (vs.map toV))) := by
  show (if (Value.type "tuple" == Value.type "list") = true then some (HO.frz { cls := .type "tuple", data := .seq vs.toArray } (.lst (vs.toArray.toList.map toV))) else some (HO.frz { cls := .type "tuple", data := .seq vs.toArray } (.tup (vs.toArray.toList.map toV)))) = _
  rw [if_neg (by decide)]
section
variable {P : Program} {w : World} {K : PySem.W.Frag} {h : Heap} {A : List Addr}
theorem argH_at {b : Addr} {o : Obj} (hb : b ∈ A) (hk : K.lookup b = none) (e : h.get? b = some o) : argH K h A b = hoOf o := by
  unfold argH
  rw [if_pos hb, hk, if_pos (show (none : Option Obj).isNone = true from rfl), e] <;> rfl
theorem of_argH {b : Addr} {u : HO} (q : argH K h A b = some u) : b ∈ A ∧ K.lookup b = none := by
  unfold argH at q
  by_cases hb : b ∈ A
  · rw [if_pos hb] at q
    cases hk : K.lookup b with
    | none => exact ⟨hb, rfl⟩
    | some o =>
      rw [hk, if_neg (by simp)] at q
      cases q
  · rw [if_neg hb] at q
    cases q
/-- what stands tracked -/
theorem argH_is (ar : ∀ a ∈ A, ArgOb h A a) {b : Addr} {u : HO} (q : argH K h A b = some u) : K.lookup b = none ∧ ∃ vs : List Value, vs.length ≤ sizeLine ∧ (∀ u ∈ vs, OkU A u) ∧
    ((h.get? b = some { cls := .type "list", data := .seq vs.toArray } ∧ u = .frz { cls := .type "list", data := .seq vs.toArray } (.lst (vs.map toV))) ∨
     (h.get? b = some { cls := .type "tuple", data := .seq vs.toArray } ∧ u = .frz { cls := .type "tuple", data := .seq vs.toArray } (.tup (vs.map toV)))) := by
  obtain ⟨hb, hk⟩ := of_argH q
  obtain ⟨vs, h1, h2, h3⟩ := ar b hb
  refine ⟨hk, vs, h1, h2, ?_⟩
  rcases h3 with e | e
  · rw [argH_at hb hk e, hoOf_lst] at q
    exact .inl ⟨e, (Option.some.inj q).symm⟩
  · rw [argH_at hb hk e, hoOf_tup] at q
    exact .inr ⟨e, (Option.some.inj q).symm⟩
theorem argH_only (ar : ∀ a ∈ A, ArgOb h A a) : OnlyF (argH K h A) := fun b => by
  cases q : argH K h A b with
  | none => exact .inl rfl
  | some u =>
    obtain ⟨_, vs, _, _, ⟨_, e⟩ | ⟨_, e⟩⟩ := argH_is ar q
    · exact .inr ⟨_, _, by rw [e]⟩
    · exact .inr ⟨_, _, by rw [e]⟩
theorem argH_ok (ar : ∀ a ∈ A, ArgOb h A a) : HOk P w (argH K h A) h := fun b u q => by
  obtain ⟨_, vs, h1, h2, ⟨e, rfl⟩ | ⟨e, rfl⟩⟩ := argH_is ar q
  · exact ⟨e, by rw [List.length_map]; exact h1, vs, _, vals_toV h2, e⟩
  · exact ⟨e, by rw [List.length_map]; exact h1, vs, vals_toV h2, _, e, rfl, _, rfl⟩
theorem seq_inj {c c' : Value} {vs us : List Value} (e : (some { cls := c, data := .seq vs.toArray } : Option Obj) = some { cls := c', data := .seq us.toArray }) : c = c' ∧ vs = us := by
  have e1 := Option.some.inj e
  have e2 : c = c' := congrArg Obj.cls e1
  have e3 : Data.seq vs.toArray = Data.seq us.toArray := congrArg Obj.data e1
  injection e3 with e4
  refine ⟨e2, ?_⟩
  have e5 := congrArg Array.toList e4
  simpa using e5
/-- a list argument -/
theorem argL (KX : K.In h) (ar : ∀ a ∈ A, ArgOb h A a) {a : Addr} {vs : List Value} (ha : a ∈ A) (e : h.get? a = some { cls := .type "list", data := .seq vs.toArray }) : (∀ u ∈ vs, OkU A u) ∧ SqL K (argH K h A) a (vs.map toV) := by
  obtain ⟨us, h1, h2, h3⟩ := ar a ha
  have hu : us = vs := by
    rcases h3 with q | q
    · rw [e] at q
      exact (seq_inj q).2.symm
    · rw [e] at q
      exact absurd (Value.type.inj (seq_inj q).1) (by decide)
  subst hu
  refine ⟨h2, ?_⟩
  cases hk : K.lookup a with
  | none => exact .inl (.inr ⟨_, by rw [argH_at ha hk e, hoOf_lst]⟩)
  | some o =>
    have e2 := KX a o hk
    rw [e] at e2
    obtain rfl := Option.some.inj e2
    exact .inr ⟨_, us.toArray, _, hk, rfl, rfl, rfl, by rw [List.size_toArray]; exact h1, by simpa using vals_toV h2⟩
theorem argT (KX : K.In h) (ar : ∀ a ∈ A, ArgOb h A a) {a : Addr} {vs : List Value} (ha : a ∈ A) (e : h.get? a = some { cls := .type "tuple", data := .seq vs.toArray }) : (∀ u ∈ vs, OkU A u) ∧ SqT K (argH K h A) a (vs.map toV) := by
  obtain ⟨us, h1, h2, h3⟩ := ar a ha
  have hu : us = vs := by
    rcases h3 with q | q
    · rw [e] at q
      exact absurd (Value.type.inj (seq_inj q).1) (by decide)
    · rw [e] at q
      exact (seq_inj q).2.symm
  subst hu
  refine ⟨h2, ?_⟩
  cases hk : K.lookup a with
  | none => exact .inl (.inr ⟨_, by rw [argH_at ha hk e, hoOf_tup]⟩)
  | some o =>
    have e2 := KX a o hk
    rw [e] at e2
    obtain rfl := Option.some.inj e2
    exact .inr ⟨_, us.toArray, _, hk, rfl, rfl, by rw [List.size_toArray]; exact h1, by simpa using vals_toV h2⟩
mutual
theorem dw_one {Pm : Params} (KX : K.In h) (ar : ∀ a ∈ A, ArgOb h A a) : ∀ (d : WData) (v : Value), Well Pm h v d → plW d = true → OkU A v → Dw K (argH K h A) (toV v) d
  | .none, _, x, _, _ => by
    cases x
    exact .non
  | .bool b, _, x, _, _ => by
    cases x
    exact .bl b
  | .int i, _, x, _, _ => by
    cases x
    exact .int i
  | .str s, _, x, _, _ => by
    cases x
    exact .str s
  | .bytes b, _, x, _, _ => by
    cases x
    have z := Dw.byt (K := K) (H := argH K h A) b.toArray
    exact z
  | .list ds, _, x, p, hu => by
    obtain ⟨a, vs, rfl, ho, hall⟩ := well_list x
    obtain ⟨h2, hs⟩ := argL KX ar hu ho
    exact .lst hs (dw_all KX ar ds _ hall p h2)
  | .tuple ds, _, x, p, hu => by
    obtain ⟨a, vs, rfl, ho, hall⟩ := well_tuple x
    obtain ⟨h2, hs⟩ := argT KX ar hu ho
    exact .tup hs (dw_all KX ar ds _ hall p h2)
  | .float _, _, _, p, _ => Bool.noConfusion (show false = true from p)
  | .dict _, _, _, p, _ => Bool.noConfusion (show false = true from p)
  | .bytearray _, _, _, p, _ => Bool.noConfusion (show false = true from p)
  | .set _, _, _, p, _ => Bool.noConfusion (show false = true from p)
  | .frozenset _, _, _, p, _ => Bool.noConfusion (show false = true from p)
  | .obj _ _, _, _, p, _ => Bool.noConfusion (show false = true from p)
theorem dw_all {Pm : Params} (KX : K.In h) (ar : ∀ a ∈ A, ArgOb h A a) : ∀ (ds : List WData) (vs : List Value), WellAll Pm h vs ds → plWs ds = true → (∀ u ∈ vs, OkU A u) → DwAll K (argH K h A) (vs.map toV) ds
  | [], _, x, _, _ => by
    cases x
    exact .nil
  | d :: ds, _, x, p, hu => by
    obtain ⟨v, vs, rfl, x1, x2⟩ := well_cons x
    have q : plW d = true ∧ plWs ds = true := Bool.and_eq_true_iff.mp p
    exact .cons (dw_one KX ar d v x1 q.1 (hu _ (List.mem_cons_self ..))) (dw_all KX ar ds vs x2 q.2 fun u m => hu u (List.mem_cons_of_mem _ m))
end
end
/-! ### the call -/
/-! ### the row -/
theorem layable_weight {ds : List WData} (h : WData.layableAll ds = true) : ∀ d ∈ ds, d.weight ≤ 1048576 := fun d hd =>
  (PySem.W.layableW_iff.mp (List.all_eq_true.mp h d hd)).2.2
theorem encAll_len : ∀ (cs : List Codec) (a : Codec.denoteAll cs), (Codec.encAll cs a).length = cs.length
  | [], _ => rfl
  | c :: cs, a => by
    show (Codec.encAll cs a.2).length + 1 = cs.length + 1
    rw [encAll_len cs a.2]
end L2

namespace Peg
open Rg
/-! ### places read off a flat list -/
theorem pts_len : ∀ ns : List Int, (WqatcvNeutral.pts ns).length = ns.length / 2
  | [] => rfl
  | [_] => by
    show 0 = 1 / 2
    rfl
  | x :: y :: r => by
    show (WqatcvNeutral.pts r).length + 1 = (r.length + 1 + 1) / 2
    rw [pts_len r]
    omega
theorem pts_at : ∀ (ns : List Int) (j : Nat) (x y : Int), ns[2 * j]? = some x → ns[2 * j + 1]? = some y → (WqatcvNeutral.pts ns)[j]? = some ⟨x, y⟩
  | [], _, _, _, h, _ => by simp at h
  | [_], 0, _, _, _, h => by simp at h
  | [_], j + 1, _, _, h, _ => by simp at h
  | a :: b :: r, 0, x, y, h1, h2 => by
    have e1 : a = x := Option.some.inj h1
    have e2 : b = y := Option.some.inj h2
    subst e1 e2
    rfl
  | a :: b :: r, j + 1, x, y, h1, h2 => by
    have e1 : 2 * (j + 1) = 2 * j + 1 + 1 := by omega
    have e2 : 2 * (j + 1) + 1 = (2 * j + 1) + 1 + 1 := by omega
    rw [e1] at h1
    rw [e2] at h2
    have := pts_at r j x y (by simpa using h1) (by simpa using h2)
    show (_ :: WqatcvNeutral.pts r)[j + 1]? = _
    simpa using this
/-! ### bounds -/
def far (p : Pt) : Bool := decide (1048576 < (if p.x < 0 then -p.x else p.x)) || decide (1048576 < (if p.y < 0 then -p.y else p.y))
theorem far_ok (p : Pt) : Pt.ok p = !far p := by
  unfold Pt.ok far FAR
  rw [Bool.not_or]
  congr 1
  · by_cases h : p.x.natAbs ≤ 1048576
    · rw [decide_eq_true h, decide_eq_false (by split <;> omega)]; rfl
    · rw [decide_eq_false h, decide_eq_true (by split <;> omega)]; rfl
  · by_cases h : p.y.natAbs ≤ 1048576
    · rw [decide_eq_true h, decide_eq_false (by split <;> omega)]; rfl
    · rw [decide_eq_false h, decide_eq_true (by split <;> omega)]; rfl
theorem all_true {α : Type} {f : α → Bool} {l : List α} (h : ∀ (i : Nat) x, l[i]? = some x → f x = true) : l.all f = true := by
  rw [List.all_eq_true]
  intro x hx
  obtain ⟨i, hi⟩ := List.getElem?_of_mem hx
  exact h i x hi
theorem all_false {α : Type} {f : α → Bool} {l : List α} {i : Nat} {x : α} (h : l[i]? = some x) (e : f x = false) : l.all f = false := by
  cases q : l.all f with
  | false => rfl
  | true =>
    have := List.all_eq_true.mp q x (List.mem_of_getElem? h)
    rw [e] at this
    cases this
theorem take_snoc {α : Type} : ∀ {l : List α} {i : Nat} {x : α}, l[i]? = some x → l.take (i + 1) = l.take i ++ [x]
  | [], i, x, h => by simp at h
  | a :: l, 0, x, h => by
    have e : a = x := Option.some.inj h
    subst e
    rfl
  | a :: l, i + 1, x, h => by
    have ih := take_snoc (l := l) (i := i) (x := x) (by simpa using h)
    show a :: l.take (i + 1) = a :: l.take i ++ [x]
    rw [ih]
    rfl
theorem mem_take {α : Type} {l : List α} {i : Nat} {x : α} (h : x ∈ l.take i) : ∃ j, j < i ∧ l[j]? = some x := by
  obtain ⟨j, hj⟩ := List.getElem?_of_mem h
  rw [List.getElem?_take] at hj
  split at hj
  · exact ⟨j, by assumption, hj⟩
  · cases hj
theorem nodup_snoc {α : Type} {l : List α} {x : α} (h : l.Nodup) (e : x ∉ l) : (l ++ [x]).Nodup := by
  rw [List.nodup_append]
  refine ⟨h, by simp, fun a ha b hb => ?_⟩
  have : b = x := by simpa using hb
  subst this
  exact fun q => e (q ▸ ha)
theorem not_nodup {α : Type} {l : List α} {i : Nat} {x : α} (h : l[i]? = some x) (e : x ∈ l.take i) : ¬ l.Nodup := by
  intro hn
  obtain ⟨j, hj, hx⟩ := mem_take e
  obtain ⟨h1, e1⟩ := List.getElem?_eq_some_iff.mp h
  obtain ⟨h2, e2⟩ := List.getElem?_eq_some_iff.mp hx
  have := (List.getElem_inj hn).mp (e1.trans e2.symm)
  omega
/-! ### touching -/
theorem between_eq (a b c : Pt) : Rg.between a b c = ((decide (min a.x b.x ≤ c.x) && decide (c.x ≤ max a.x b.x)) && ((decide (min a.y b.y ≤ c.y) && decide (c.y ≤ max a.y b.y)) && (leftOf a b c == 0))) := by
  unfold Rg.between
  cases leftOf a b c == 0 <;> cases decide (min a.x b.x ≤ c.x) <;> cases decide (c.x ≤ max a.x b.x) <;> cases decide (min a.y b.y ≤ c.y) <;> cases decide (c.y ≤ max a.y b.y) <;> rfl
theorem leftOf_eq (p q c : Pt) : leftOf p q c = (q.x - p.x) * (c.y - p.y) - (q.y - p.y) * (c.x - p.x) := rfl
theorem findIdx_none {α : Type} {f : α → Bool} {l : List α} (h : ∀ (j : Nat) x, l[j]? = some x → f x = false) : l.findIdx? f = none := by
  rw [List.findIdx?_eq_none_iff]
  intro x hx
  obtain ⟨j, hj⟩ := List.getElem?_of_mem hx
  exact h j x hj
theorem findIdx_some {α : Type} {f : α → Bool} {l : List α} {k : Nat} {x : α} (hx : l[k]? = some x) (e : f x = true) (h : ∀ (j : Nat) y, j < k → l[j]? = some y → f y = false) : l.findIdx? f = some k := by
  obtain ⟨hk, hx'⟩ := List.getElem?_eq_some_iff.mp hx
  rw [List.findIdx?_eq_some_iff_getElem]
  refine ⟨hk, by rw [hx']; exact e, fun j hj => ?_⟩
  rw [h j _ hj (List.getElem?_eq_getElem (by omega))]
  simp
theorem findSome_none {α β : Type} {f : α × Nat → Option β} {l : List α} (h : ∀ (j : Nat) x, l[j]? = some x → f (x, j) = none) : l.zipIdx.findSome? f = none := by
  rw [List.findSome?_eq_none_iff]
  rintro ⟨x, j⟩ hx
  have := List.mem_zipIdx_iff_getElem?.mp hx
  exact h j x this
theorem findSome_some {α β : Type} {f : α × Nat → Option β} {b : β} : ∀ {l : List α} {n i : Nat} {x : α}, l[i]? = some x → f (x, n + i) = some b → (∀ (j : Nat) y, j < i → l[j]? = some y → f (y, n + j) = none) → (l.zipIdx n).findSome? f = some b
  | [], _, _, _, h, _, _ => by simp at h
  | a :: l, n, 0, x, h, e, _ => by
    have q : a = x := Option.some.inj h
    subst q
    rw [List.zipIdx_cons, List.findSome?_cons]
    have e' : f (a, n) = some b := e
    rw [e']
  | a :: l, n, i + 1, x, h, e, k => by
    rw [List.zipIdx_cons, List.findSome?_cons]
    have e0 : f (a, n) = none := k 0 a (by omega) rfl
    rw [e0]
    refine findSome_some (l := l) (n := n + 1) (i := i) (x := x) (by simpa using h) ?_ fun j y hj hy => ?_
    · rw [show n + 1 + i = n + (i + 1) by omega]; exact e
    · rw [show n + 1 + j = n + (j + 1) by omega]; exact k (j + 1) y (by omega) (by simpa using hy)
def clearStep (ms : Marks) (s : Pt × Pt) : Prop := ∀ (j : Nat) m, ms[j]? = some m → Rg.between s.1 s.2 m = false
theorem touched_none {ms : Marks} {w : Way} (h : ∀ (i : Nat) s, (steps w)[i]? = some s → clearStep ms s) : touchedBy ms w = none := by
  unfold touchedBy
  refine findSome_none fun j s hs => ?_
  show ((ms.findIdx? fun m => Rg.between s.1 s.2 m).map fun k => (j, k)) = none
  rw [findIdx_none (h j s hs)]
  rfl
theorem touched_some {ms : Marks} {w : Way} {i k : Nat} {s : Pt × Pt} {m : Pt} (hs : (steps w)[i]? = some s) (hm : ms[k]? = some m) (e : Rg.between s.1 s.2 m = true)
    (h1 : ∀ (j : Nat) s', j < i → (steps w)[j]? = some s' → clearStep ms s') (h2 : ∀ (j : Nat) m', j < k → ms[j]? = some m' → Rg.between s.1 s.2 m' = false) : touchedBy ms w = some (i, k) := by
  unfold touchedBy
  refine findSome_some (n := 0) hs ?_ fun j y hj hy => ?_
  · show ((ms.findIdx? fun m => Rg.between s.1 s.2 m).map fun k => (0 + i, k)) = _
    rw [findIdx_some hm e h2, Nat.zero_add]
    rfl
  · show ((ms.findIdx? fun m => Rg.between y.1 y.2 m).map fun k => (0 + j, k)) = none
    rw [findIdx_none (h1 j y hj hy)]
    rfl
/-! ### steps: the specification's have one more at the end, from the last place to itself -/
theorem steps_eq : ∀ (r : Way) (a : Pt), ∃ z, (a :: r).getLast? = some z ∧ steps (a :: r) = (a :: r).zip r ++ [(z, z)]
  | [], a => ⟨a, rfl, rfl⟩
  | b :: r, a => by
    obtain ⟨z, h1, h2⟩ := steps_eq r b
    refine ⟨z, by rw [List.getLast?_cons_cons]; exact h1, ?_⟩
    show (a, b) :: steps (b :: r) = _
    rw [h2]
    rfl
/-- the program's steps -/
def rsteps : Way → List (Pt × Pt)
  | [a] => [(a, a)]
  | w => w.zip w.tail
theorem rsteps_one (a : Pt) : rsteps [a] = [(a, a)] := rfl
theorem rsteps_more {w : Way} (h : w.length ≠ 1) : rsteps w = w.zip w.tail := by
  match w, h with
  | [], _ => rfl
  | [_], h => exact absurd rfl h
  | _ :: _ :: _, _ => rfl
theorem rsteps_at {w : Way} (h : w.length ≠ 1) {i : Nat} {p q : Pt} (hp : w[i]? = some p) (hq : w[i + 1]? = some q) : (rsteps w)[i]? = some (p, q) := by
  rw [rsteps_more h, List.getElem?_zip_eq_some]
  exact ⟨hp, by rw [List.getElem?_tail]; exact hq⟩
theorem rsteps_len {w : Way} (h : w.length ≠ 1) : (rsteps w).length = w.length - 1 := by
  rw [rsteps_more h, List.length_zip, List.length_tail]
  omega
theorem bet_self {a b : Pt} (h : Rg.between a a b = true) : b = a := by
  rw [between_eq] at h
  simp only [Bool.and_eq_true, decide_eq_true_eq] at h
  obtain ⟨⟨h1, h2⟩, ⟨h3, h4⟩, _⟩ := h
  cases a; cases b
  simp only [Pt.mk.injEq]
  simp only at h1 h2 h3 h4
  omega
theorem bet_end (a b : Pt) : Rg.between a b b = true := by
  rw [between_eq]
  simp only [Bool.and_eq_true, decide_eq_true_eq]
  refine ⟨⟨by omega, by omega⟩, ⟨by omega, by omega⟩, ?_⟩
  rw [leftOf_eq, Int.mul_comm, Int.sub_self]
  rfl
/-- the steps that the program sees are enough -/
theorem clear_last {ms : Marks} {a b : Pt} (h : clearStep ms (a, b)) : clearStep ms (b, b) := by
  intro j m hm
  cases q : Rg.between b b m with
  | false => rfl
  | true =>
    have e := bet_self q
    subst e
    have := h j _ hm
    rw [bet_end] at this
    cases this
theorem touched_none' {ms : Marks} {w : Way} (h : ∀ (i : Nat) s, (rsteps w)[i]? = some s → clearStep ms s) : touchedBy ms w = none := by
  match w, h with
  | [], _ => rfl
  | [a], h => exact touched_none h
  | a :: b :: r, h =>
    refine touched_none fun i s hs => ?_
    obtain ⟨z, h1, h2⟩ := steps_eq (b :: r) a
    rw [h2, List.getElem?_append] at hs
    split at hs
    · exact h i s hs
    · have e : s = (z, z) := by
        generalize i - ((a :: b :: r).zip (b :: r)).length = k at hs
        match k, hs with
        | 0, hs => exact (Option.some.inj hs).symm
        | k + 1, hs => simp at hs
      subst e
      rw [List.getLast?_eq_getElem?] at h1
      have hl : (a :: b :: r).length - 1 = r.length + 1 := by simp
      rw [hl] at h1
      obtain ⟨p, hp⟩ : ∃ p, (a :: b :: r)[r.length]? = some p := ⟨_, List.getElem?_eq_getElem (by simp; omega)⟩
      exact clear_last (h r.length (p, z) (rsteps_at (by simp) hp h1))
theorem touched_some' {ms : Marks} {w : Way} {i k : Nat} {s : Pt × Pt} {m : Pt} (hs : (rsteps w)[i]? = some s) (hm : ms[k]? = some m) (e : Rg.between s.1 s.2 m = true)
    (h1 : ∀ (j : Nat) s', j < i → (rsteps w)[j]? = some s' → clearStep ms s') (h2 : ∀ (j : Nat) m', j < k → ms[j]? = some m' → Rg.between s.1 s.2 m' = false) : touchedBy ms w = some (i, k) := by
  match w, hs, h1 with
  | [], hs, _ => simp [rsteps] at hs
  | [a], hs, h1 => exact touched_some hs hm e h1 h2
  | a :: b :: r, hs, h1 =>
    obtain ⟨z, _, h3⟩ := steps_eq (b :: r) a
    have hlt : i < ((a :: b :: r).zip (b :: r)).length := (List.getElem?_eq_some_iff.mp hs).1
    refine touched_some (s := s) ?_ hm e (fun j s' hj hs' => ?_) h2
    · rw [h3, List.getElem?_append_left hlt]; exact hs
    · rw [h3, List.getElem?_append_left (Nat.lt_trans hj hlt)] at hs'
      exact h1 j s' hj hs'
/-! ### refusals -/
def refusal (ms : Marks) (w : Way) : Int := if Wqatcv.many ms.length MARKS || Wqatcv.many w.length PLACES then -2 else if Wqatcv.placesOk ms w = false then -8 else 0
def isCount (n most : Nat) : Bool := decide (1 ≤ n) && decide (n ≤ most)
theorem many_count (n most : Nat) : Wqatcv.many n most = !isCount n most := by
  unfold Wqatcv.many isCount
  by_cases h1 : n = 0
  · subst h1; rfl
  · by_cases h2 : n ≤ most
    · rw [decide_eq_false h1, decide_eq_false (by omega), decide_eq_true h2, decide_eq_true (by omega)]; rfl
    · rw [decide_eq_false h1, decide_eq_true (by omega), decide_eq_false h2, decide_eq_true (by omega)]; rfl
theorem touch_is (m a : List Int) : PyWqatcv.touch m a =
    (if refusal (WqatcvNeutral.pts m) (WqatcvNeutral.pts a) ≠ 0 then [refusal (WqatcvNeutral.pts m) (WqatcvNeutral.pts a)] else match touchedBy (WqatcvNeutral.pts m) (WqatcvNeutral.pts a) with
      | some x => [0, (x.1 : Int), (x.2 : Int)]
      | none => [-3]) := by
  show (let y := Wqatcv.answer (.touch (WqatcvNeutral.pts m) (WqatcvNeutral.pts a)); y.ret :: y.nums) = _
  unfold Wqatcv.answer Wqatcv.ofOne refusal
  simp only []
  split
  · rfl
  · split
    · rfl
    · rw [if_neg (by simp)]
      cases touchedBy (WqatcvNeutral.pts m) (WqatcvNeutral.pts a) <;> rfl
theorem touch_even {m a : List Int} (h : PyWqatcv.touch_asked m a = true) : m.length % 2 = 0 ∧ a.length % 2 = 0 := by
  unfold PyWqatcv.touch_asked WqatcvNeutral.asked WqatcvNeutral.asked1 at h
  simp only [List.all_cons, List.all_nil, Bool.and_eq_true, beq_iff_eq] at h
  exact ⟨h.1.1.1.1.1.1.1, h.1.1.1.1.1.2⟩
end Peg
namespace Peg
open Rg
/-! ### a row in a strict order is one -/
theorem sorted_same {α : Type} {R : α → α → Prop} (as : ∀ a b, R a b → R b a → False) : ∀ {l m : List α}, l.Perm m → l.Pairwise R → m.Pairwise R → l = m
  | [], m, p, _, _ => by rw [List.nil_perm.mp p]
  | a :: l, [], p, _, _ => by
    have := p.length_eq
    simp at this
  | a :: l, b :: m, p, h1, h2 => by
    have e : a = b := by
      by_cases e : a = b
      · exact e
      · have ha : a ∈ m := ((List.mem_cons.mp (p.mem_iff.mp (List.mem_cons_self ..))).resolve_left e)
        have hb : b ∈ l := ((List.mem_cons.mp (p.mem_iff.mpr (List.mem_cons_self ..))).resolve_left (Ne.symm e))
        exact (as a b ((List.pairwise_cons.mp h1).1 b hb) ((List.pairwise_cons.mp h2).1 a ha)).elim
    subst e
    rw [sorted_same as ((List.perm_cons a).mp p) (List.pairwise_cons.mp h1).2 (List.pairwise_cons.mp h2).2]
/-- the order of the marks going east -/
def wb (ms : Marks) (i j : Nat) : Prop := westOf ms i j = true
theorem wb_iff {ms : Marks} {i j : Nat} : wb ms i j ↔ ∃ p q, ms[i]? = some p ∧ ms[j]? = some q ∧ (p.x < q.x ∨ (p.x = q.x ∧ i < j)) := by
  unfold wb westOf
  cases hi : ms[i]? with
  | none => simp
  | some p =>
    cases hj : ms[j]? with
    | none => simp
    | some q => simp
theorem wb_asymm {ms : Marks} (i j : Nat) (h1 : wb ms i j) (h2 : wb ms j i) : False := by
  obtain ⟨p, q, hp, hq, h⟩ := wb_iff.mp h1
  obtain ⟨q', p', hq', hp', h'⟩ := wb_iff.mp h2
  rw [hp] at hp'
  rw [hq] at hq'
  cases hp'
  cases hq'
  omega
theorem wb_trans {ms : Marks} {i j k : Nat} (h1 : wb ms i j) (h2 : wb ms j k) : wb ms i k := by
  obtain ⟨p, q, hp, hq, h⟩ := wb_iff.mp h1
  obtain ⟨q', r, hq', hr, h'⟩ := wb_iff.mp h2
  rw [hq] at hq'
  cases hq'
  exact wb_iff.mpr ⟨p, r, hp, hr, by omega⟩
theorem wb_total {ms : Marks} {i j : Nat} (hi : i < ms.length) (hj : j < ms.length) (hn : i ≠ j) (h : ¬ wb ms i j) : wb ms j i := by
  have hp := List.getElem?_eq_getElem hi
  have hq := List.getElem?_eq_getElem hj
  refine wb_iff.mpr ⟨_, _, hq, hp, ?_⟩
  have h' : ¬ (ms[i].x < ms[j].x ∨ (ms[i].x = ms[j].x ∧ i < j)) := fun z => h (wb_iff.mpr ⟨_, _, hp, hq, z⟩)
  omega
theorem insert_perm (ms : Marks) (k : Nat) : ∀ l : List Nat, (insertBy ms k l).Perm (k :: l)
  | [] => List.Perm.refl _
  | x :: r => by
    unfold insertBy
    split
    · exact List.Perm.refl _
    · exact ((insert_perm ms k r).cons x).trans (List.Perm.swap k x r)
theorem insert_sorted {ms : Marks} {k : Nat} (hk : k < ms.length) : ∀ {l : List Nat}, (∀ x ∈ l, x < ms.length ∧ x ≠ k) → l.Pairwise (wb ms) → (insertBy ms k l).Pairwise (wb ms)
  | [], _, _ => List.pairwise_singleton _ _
  | x :: r, hl, h => by
    unfold insertBy
    have hx := hl x (List.mem_cons_self ..)
    split
    · rename_i hw
      have hw' : wb ms k x := hw
      refine List.pairwise_cons.mpr ⟨fun y hy => ?_, h⟩
      rcases List.mem_cons.mp hy with rfl | hy
      · exact hw'
      · exact wb_trans hw' ((List.pairwise_cons.mp h).1 y hy)
    · rename_i hw
      have hw' : wb ms x k := wb_total hk hx.1 (Ne.symm hx.2) hw
      refine List.pairwise_cons.mpr ⟨fun y hy => ?_, insert_sorted hk (fun z hz => hl z (List.mem_cons_of_mem _ hz)) (List.pairwise_cons.mp h).2⟩
      rcases List.mem_cons.mp ((insert_perm ms k r).mem_iff.mp hy) with rfl | hy
      · exact hw'
      · exact (List.pairwise_cons.mp h).1 y hy
theorem sort_perm (ms : Marks) : ∀ l : List Nat, (l.foldr (insertBy ms) []).Perm l
  | [] => List.Perm.refl _
  | k :: r => (insert_perm ms k _).trans ((sort_perm ms r).cons k)
theorem sort_sorted {ms : Marks} : ∀ {l : List Nat}, l.Nodup → (∀ x ∈ l, x < ms.length) → (l.foldr (insertBy ms) []).Pairwise (wb ms)
  | [], _, _ => List.Pairwise.nil
  | k :: r, hn, hl => by
    refine insert_sorted (hl k (List.mem_cons_self ..)) (fun x hx => ?_) (sort_sorted (List.nodup_cons.mp hn).2 fun x hx => hl x (List.mem_cons_of_mem _ hx))
    have hx' := (sort_perm ms r).mem_iff.mp hx
    exact ⟨hl x (List.mem_cons_of_mem _ hx'), fun e => (List.nodup_cons.mp hn).1 (e ▸ hx')⟩
/-- the marks' numbers in a row that is sorted going east -/
structure East (ms : Marks) (es : List Nat) : Prop where
  perm : es.Perm (List.range ms.length)
  sorted : es.Pairwise (wb ms)
def hits (ms : Marks) (a b : Pt) (k : Nat) : Bool := match ms[k]? with
  | some m => crosses a b m
  | none => false
theorem crossed_east {ms : Marks} {es : List Nat} (h : East ms es) (a b : Pt) : crossed ms a b = es.filter (hits ms a b) := by
  have e : crossed ms a b = ((List.range ms.length).filter (hits ms a b)).foldr (insertBy ms) [] := rfl
  rw [e]
  refine sorted_same (R := wb ms) wb_asymm ((sort_perm ms _).trans (h.perm.symm.filter _)) (sort_sorted (List.nodup_range.filter _) fun x hx => ?_) (h.sorted.filter _)
  exact List.mem_range.mp (List.mem_filter.mp hx).1
/-! ### a step's letters as the program tells them -/
def isCrossed (m west east : Pt) : Bool := decide (west.x < m.x) && (decide (m.x ≤ east.x) && decide (0 < leftOf west east m))
theorem leftOf_swap (a b m : Pt) : leftOf b a m = - leftOf a b m := by
  rw [leftOf_eq, leftOf_eq]
  simp only [Int.sub_mul, Int.mul_sub]
  rw [Int.mul_comm b.y a.x, Int.mul_comm b.x a.y, Int.mul_comm b.y b.x, Int.mul_comm a.y a.x]
  generalize a.x * m.y = t1
  generalize a.x * b.y = t2
  generalize b.x * m.y = t3
  generalize b.x * b.y = t4
  generalize a.y * m.x = t5
  generalize a.y * b.x = t6
  generalize b.y * m.x = t7
  generalize a.x * a.y = t10
  omega
theorem crosses_east {a b m : Pt} (h : a.x ≤ b.x) : crosses a b m = isCrossed m a b := by
  unfold crosses isCrossed below
  by_cases e : a.x < b.x
  · rw [if_pos e]
    by_cases h1 : a.x < m.x <;> by_cases h2 : b.x < m.x
    · rw [decide_eq_true h1, decide_eq_true h2, decide_eq_false (by omega : ¬ m.x ≤ b.x)]
      rfl
    · rw [decide_eq_true h1, decide_eq_false h2, decide_eq_true (by omega : m.x ≤ b.x)]
      rfl
    · omega
    · rw [decide_eq_false h1, decide_eq_false h2]
      rfl
  · have e2 : a.x = b.x := by omega
    rw [e2]
    by_cases h2 : b.x < m.x
    · rw [decide_eq_true h2, decide_eq_false (by omega : ¬ m.x ≤ b.x)]
      rfl
    · rw [decide_eq_false h2]
      rfl
theorem crosses_west {a b m : Pt} (h : b.x < a.x) : crosses a b m = isCrossed m b a := by
  unfold crosses isCrossed below
  rw [if_neg (by omega)]
  have e : decide (cross (b.sub a) (m.sub a) < 0) = decide (0 < leftOf b a m) := by
    rw [leftOf_swap]
    refine decide_eq_decide.mpr ?_
    show leftOf a b m < 0 ↔ _
    omega
  rw [e]
  by_cases h1 : a.x < m.x <;> by_cases h2 : b.x < m.x
  · rw [decide_eq_true h1, decide_eq_true h2, decide_eq_false (by omega : ¬ m.x ≤ a.x)]
    rfl
  · omega
  · rw [decide_eq_false h1, decide_eq_true h2, decide_eq_true (by omega : m.x ≤ a.x)]
    rfl
  · rw [decide_eq_false h1, decide_eq_false h2]
    rfl
/-- the numbers of a step's letters -/
def lettersOf (ms : Marks) (a b : Pt) : List Int := (letters ms a b).map Wqatcv.numOf
def hitE (ms : Marks) (a b : Pt) (k : Nat) : Bool := match ms[k]? with
  | some m => isCrossed m a b
  | none => false
theorem hits_east {ms : Marks} {a b : Pt} (h : a.x ≤ b.x) : hits ms a b = hitE ms a b := by
  funext k
  unfold hits hitE
  cases ms[k]? with
  | none => rfl
  | some m => exact crosses_east h
theorem hits_west {ms : Marks} {a b : Pt} (h : b.x < a.x) : hits ms a b = hitE ms b a := by
  funext k
  unfold hits hitE
  cases ms[k]? with
  | none => rfl
  | some m => exact crosses_west h
theorem filter_none {α : Type} {l : List α} {p : α → Bool} (h : ∀ x ∈ l, p x = false) : l.filter p = [] := by
  rw [List.filter_eq_nil_iff]
  intro x hx
  rw [h x hx]
  decide
theorem letters_east {ms : Marks} {es : List Nat} (E : East ms es) {a b : Pt} (h : a.x ≤ b.x) : lettersOf ms a b = (es.filter (hitE ms a b)).map fun k => ((k : Nat) : Int) + 1 := by
  unfold lettersOf letters
  rw [crossed_east E, hits_east h]
  by_cases e : a.x < b.x
  · rw [if_pos e, List.map_map]
    rfl
  · have : es.filter (hitE ms a b) = [] := filter_none fun k _ => by
      unfold hitE
      cases ms[k]? with
      | none => rfl
      | some m =>
        show isCrossed m a b = false
        unfold isCrossed
        by_cases h1 : a.x < m.x
        · rw [decide_eq_false (by omega : ¬ m.x ≤ b.x), Bool.false_and, Bool.and_false]
        · rw [decide_eq_false h1, Bool.false_and]
    rw [if_neg e, this]
    rfl
theorem letters_west {ms : Marks} {es : List Nat} (E : East ms es) {a b : Pt} (h : b.x < a.x) : lettersOf ms a b = (es.reverse.filter (hitE ms b a)).map fun k => -(((k : Nat) : Int) + 1) := by
  unfold lettersOf letters
  rw [crossed_east E, hits_west h, if_neg (by omega), List.filter_reverse, List.map_map]
  rfl
theorem letters_self (ms : Marks) (a : Pt) : letters ms a a = [] := by
  have e : crossed ms a a = [] := by
    have : (List.range ms.length).filter (hits ms a a) = [] := filter_none fun k _ => by
      unfold hits
      cases ms[k]? with
      | none => rfl
      | some m =>
        show crosses a a m = false
        unfold crosses
        rw [bne_self_eq_false, Bool.false_and]
    show ((List.range ms.length).filter (hits ms a a)).foldr (insertBy ms) [] = []
    rw [this]
    rfl
  unfold letters
  rw [e]
  split <;> rfl
/-- a way's word in numbers, by the steps that the program sees -/
theorem word_rsteps (ms : Marks) (w : Way) : (wordOf ms w).map Wqatcv.numOf = (rsteps w).flatMap fun s => lettersOf ms s.1 s.2 := by
  have e : (wordOf ms w).map Wqatcv.numOf = (steps w).flatMap fun s => lettersOf ms s.1 s.2 := by
    unfold wordOf
    rw [List.map_flatMap]
    rfl
  rw [e]
  match w with
  | [] => rfl
  | [a] => rfl
  | a :: b :: r =>
    obtain ⟨z, _, h⟩ := steps_eq (b :: r) a
    rw [h, List.flatMap_append]
    have e2 : ([(z, z)] : List (Pt × Pt)).flatMap (fun s => lettersOf ms s.1 s.2) = [] := by
      show lettersOf ms z z ++ [] = []
      unfold lettersOf
      rw [letters_self]
      rfl
    rw [e2, List.append_nil]
    rfl
theorem word_len (ms : Marks) (w : Way) : (wordOf ms w).length = ((rsteps w).flatMap fun s => lettersOf ms s.1 s.2).length := by
  rw [← word_rsteps, List.length_map]
theorem lettersOf_len (ms : Marks) (a b : Pt) : (lettersOf ms a b).length ≤ ms.length := by
  have h1 : (crossed ms a b).length ≤ ms.length := by
    have e : crossed ms a b = ((List.range ms.length).filter (hits ms a b)).foldr (insertBy ms) [] := rfl
    rw [e, (sort_perm ms _).length_eq]
    exact Nat.le_trans (List.length_filter_le _ _) (by rw [List.length_range]; exact Nat.le_refl _)
  unfold lettersOf letters
  split
  · simpa using h1
  · simpa using h1
/-- what word answers -/
theorem word_is (m a : List Int) : PyWqatcv.word m a =
    (if refusal (WqatcvNeutral.pts m) (WqatcvNeutral.pts a) ≠ 0 then [refusal (WqatcvNeutral.pts m) (WqatcvNeutral.pts a)] else if touchedBy (WqatcvNeutral.pts m) (WqatcvNeutral.pts a) ≠ none then [-9]
      else ((((rsteps (WqatcvNeutral.pts a)).flatMap fun s => lettersOf (WqatcvNeutral.pts m) s.1 s.2).length : Nat) : Int) :: (rsteps (WqatcvNeutral.pts a)).flatMap fun s => lettersOf (WqatcvNeutral.pts m) s.1 s.2) := by
  show (let y := Wqatcv.answer (.word (WqatcvNeutral.pts m) (WqatcvNeutral.pts a)); y.ret :: y.nums) = _
  rw [← word_rsteps, List.length_map]
  generalize WqatcvNeutral.pts m = ms
  generalize WqatcvNeutral.pts a = w
  have e1 : Wqatcv.answer (.word ms w) = if Wqatcv.many ms.length MARKS || Wqatcv.many w.length PLACES then Wqatcv.MUCH else if Wqatcv.placesOk ms w = false then Wqatcv.WRONG else if clearBy ms w = false then Wqatcv.TOUCHES else Wqatcv.shows (wordOf ms w) := rfl
  rw [e1]
  unfold refusal
  by_cases h1 : (Wqatcv.many ms.length MARKS || Wqatcv.many w.length PLACES) = true
  · rw [if_pos h1, if_pos h1, if_pos (by decide)]
    rfl
  · rw [if_neg h1, if_neg h1]
    by_cases h2 : Wqatcv.placesOk ms w = false
    · rw [if_pos h2, if_pos h2, if_pos (by decide)]
      rfl
    · rw [if_neg h2, if_neg h2, if_neg (by decide : ¬ ((0 : Int) ≠ 0))]
      unfold clearBy
      cases touchedBy ms w with
      | none =>
        rw [if_neg (by decide), if_neg (fun z => z rfl)]
        rfl
      | some x =>
        rw [if_pos (show (some x).isNone = false from rfl), if_pos (fun z => nomatch z)]
        rfl
theorem word_even {m a : List Int} (h : PyWqatcv.word_asked m a = true) : m.length % 2 = 0 ∧ a.length % 2 = 0 := by
  unfold PyWqatcv.word_asked WqatcvNeutral.asked WqatcvNeutral.asked1 at h
  simp only [List.all_cons, List.all_nil, Bool.and_eq_true, beq_iff_eq] at h
  exact ⟨h.1.1.1.1.1.1.1, h.1.1.1.1.1.2⟩
end Peg
namespace Peg
open Rg
/-! ### letters as numbers -/
theorem numOf_eq (a : Letter) : Wqatcv.numOf a = if a.2 = true then ((a.1 : Nat) : Int) + 1 else -(((a.1 : Nat) : Int) + 1) := by
  unfold Wqatcv.numOf
  split <;> simp
theorem numOf_inj {a b : Letter} (h : Wqatcv.numOf a = Wqatcv.numOf b) : a = b := by
  rw [numOf_eq, numOf_eq] at h
  obtain ⟨k, x⟩ := a
  obtain ⟨j, y⟩ := b
  simp only at h
  cases x <;> cases y <;> simp at h ⊢ <;> omega
theorem numOf_ne (a : Letter) : Wqatcv.numOf a ≠ 0 := by
  rw [numOf_eq]
  split <;> omega
theorem numOf_flip (a : Letter) : Wqatcv.numOf (a.1, !a.2) = - Wqatcv.numOf a := by
  rw [numOf_eq, numOf_eq]
  cases a.2 <;> simp
theorem undoes_iff (b a : Letter) : undoes b a = decide (Wqatcv.numOf b = - Wqatcv.numOf a) := by
  rw [numOf_eq, numOf_eq]
  obtain ⟨k, x⟩ := a
  obtain ⟨j, y⟩ := b
  unfold undoes
  by_cases e : j = k
  · subst e
    cases x <;> cases y <;> simp <;> omega
  · have : (j == k) = false := beq_eq_false_iff_ne.mpr e
    simp only [this, Bool.false_and]
    symm
    refine decide_eq_false ?_
    cases x <;> cases y <;> simp <;> omega
/-! ### pulled -/
def pushN (s : List Int) (a : Int) : List Int := match s with
  | b :: r => if b = -a then r else a :: b :: r
  | [] => [a]
def pullN (u : List Int) : List Int := (u.foldl pushN []).reverse
theorem fold_num (u : List Letter) : ∀ s : List Letter, (u.foldl (fun (s : List Letter) (a : Letter) => match s with
  | b :: r => if undoes b a = true then r else a :: b :: r
  | [] => [a]) s).map Wqatcv.numOf = (u.map Wqatcv.numOf).foldl pushN (s.map Wqatcv.numOf) := by
  induction u with
  | nil => intro s; rfl
  | cons a u ih =>
    intro s
    rw [List.foldl_cons, ih, List.map_cons, List.foldl_cons]
    congr 1
    cases s with
    | nil => rfl
    | cons b r =>
      show (if undoes b a = true then r else a :: b :: r).map Wqatcv.numOf = if Wqatcv.numOf b = - Wqatcv.numOf a then r.map Wqatcv.numOf else _
      rw [undoes_iff]
      by_cases h : Wqatcv.numOf b = - Wqatcv.numOf a
      · rw [if_pos (decide_eq_true h), if_pos h]
      · rw [if_neg (by simpa using h), if_neg h]
        rfl
theorem pull_num (u : List Letter) : (pullBy u).map Wqatcv.numOf = pullN (u.map Wqatcv.numOf) := by
  unfold pullBy pullN
  rw [List.map_reverse]
  exact congrArg List.reverse (fold_num u [])
theorem map_num_inj {u v : List Letter} (h : u.map Wqatcv.numOf = v.map Wqatcv.numOf) : u = v := List.map_inj_right (fun _ _ => numOf_inj) |>.mp h
/-- a way's word, its string, in numbers -/
def wordN (ms : Marks) (w : Way) : List Int := (rsteps w).flatMap fun s => lettersOf ms s.1 s.2
def strN (ms : Marks) (w : Way) : List Int := pullN (wordN ms w)
theorem wordN_is (ms : Marks) (w : Way) : (wordOf ms w).map Wqatcv.numOf = wordN ms w := word_rsteps ms w
theorem strN_is (ms : Marks) (w : Way) : (stringBy ms w).map Wqatcv.numOf = strN ms w := by
  unfold stringBy strN
  rw [pull_num, wordN_is]
theorem same_num (ms : Marks) (w v : Way) : stringBy ms w = stringBy ms v ↔ strN ms w = strN ms v := by
  rw [← strN_is, ← strN_is]
  exact ⟨fun h => by rw [h], map_num_inj⟩
theorem back_num (u : List Letter) : (back u).map Wqatcv.numOf = (u.map Wqatcv.numOf).reverse.map (fun z => -z) := by
  unfold back
  rw [List.map_map, ← List.map_reverse, List.map_map]
  refine List.map_congr_left fun a _ => ?_
  exact numOf_flip a
theorem left_num (ms : Marks) (w v : Way) : (pullBy (back (wordOf ms w) ++ wordOf ms v)).map Wqatcv.numOf = pullN ((wordN ms w).reverse.map (fun z => -z) ++ wordN ms v) := by
  rw [pull_num, List.map_append, back_num, wordN_is, wordN_is]
/-- differ, in numbers: the first place where two rows of numbers differ -/
def differN : Nat → List Int → List Int → Option (Nat × Int × Int)
  | _, [], [] => none
  | i, a :: _, [] => some (i, a, 0)
  | i, [], b :: _ => some (i, 0, b)
  | i, a :: u, b :: v => if a = b then differN (i + 1) u v else some (i, a, b)
theorem differ_num : ∀ (u v : List Letter) (i : Nat), (differBy i u v).map (fun x => (x.1, (x.2.1.map Wqatcv.numOf).getD 0, (x.2.2.map Wqatcv.numOf).getD 0)) = differN i (u.map Wqatcv.numOf) (v.map Wqatcv.numOf)
  | [], [], _ => rfl
  | _ :: _, [], _ => rfl
  | [], _ :: _, _ => rfl
  | a :: u, b :: v, i => by
    show Option.map _ (if a = b then differBy (i + 1) u v else some (i, some a, some b)) = if Wqatcv.numOf a = Wqatcv.numOf b then differN (i + 1) _ _ else _
    by_cases h : a = b
    · subst h
      rw [if_pos rfl, if_pos rfl]
      exact differ_num u v (i + 1)
    · rw [if_neg h, if_neg (fun z => h (numOf_inj z))]
      rfl
/-- round: how often k + 1, less how often -(k + 1) -/
def netN (l : List Int) (k : Nat) : Int := (l.map fun z => if z = ((k : Nat) : Int) + 1 then (1 : Int) else if z = -(((k : Nat) : Int) + 1) then -1 else 0).sum
theorem net_num (u : List Letter) (k : Nat) : net u k = netN (u.map Wqatcv.numOf) k := by
  unfold net netN
  rw [List.map_map]
  congr 1
  refine List.map_congr_left fun a _ => ?_
  obtain ⟨j, x⟩ := a
  show (if j = k then (if x = true then (1 : Int) else -1) else 0) = (if Wqatcv.numOf (j, x) = ((k : Nat) : Int) + 1 then (1 : Int) else if Wqatcv.numOf (j, x) = -(((k : Nat) : Int) + 1) then -1 else 0)
  rw [numOf_eq]
  cases x
  · simp only [Bool.false_eq_true, if_false]
    by_cases h : j = k
    · subst h
      rw [if_pos rfl, if_neg (by omega), if_pos rfl]
    · rw [if_neg h, if_neg (by omega), if_neg (by omega)]
  · simp only [if_true]
    by_cases h : j = k
    · subst h
      rw [if_pos rfl, if_pos rfl]
    · rw [if_neg h, if_neg (by omega), if_neg (by omega)]
theorem count_net (l : List Int) (k : Nat) : netN l k = (l.count (((k : Nat) : Int) + 1) : Int) - (l.count (-(((k : Nat) : Int) + 1)) : Int) := by
  unfold netN
  induction l with
  | nil => rfl
  | cons z l ih =>
    rw [List.map_cons, List.sum_cons, ih, List.count_cons, List.count_cons]
    have e1 : (z == ((k : Nat) : Int) + 1) = decide (z = ((k : Nat) : Int) + 1) := rfl
    have e2 : (z == -(((k : Nat) : Int) + 1)) = decide (z = -(((k : Nat) : Int) + 1)) := rfl
    rw [e1, e2]
    by_cases h1 : z = ((k : Nat) : Int) + 1
    · have h2 : ¬ z = -(((k : Nat) : Int) + 1) := by omega
      simp only [h1, h2, decide_true, if_true]
      rw [decide_eq_false (by omega)]
      simp
      omega
    · by_cases h2 : z = -(((k : Nat) : Int) + 1)
      · simp only [h2, decide_true, if_true]
        rw [decide_eq_false (by omega), if_neg (by omega)]
        simp
        omega
      · rw [decide_eq_false h1, decide_eq_false h2, if_neg h1, if_neg h2]
        simp
/-! ### pulled rows: what is kept, how long they are -/
theorem push_len (s : List Int) (a : Int) : (pushN s a).length ≤ s.length + 1 := by
  unfold pushN
  split
  · split <;> simp <;> omega
  · simp
theorem fold_len (u : List Int) : ∀ s : List Int, (u.foldl pushN s).length ≤ s.length + u.length := by
  induction u with
  | nil => intro s; simp
  | cons a u ih =>
    intro s
    rw [List.foldl_cons]
    have h1 := ih (pushN s a)
    have h2 := push_len s a
    rw [List.length_cons]
    omega
theorem pull_len (u : List Int) : (pullN u).length ≤ u.length := by
  unfold pullN
  rw [List.length_reverse]
  have := fold_len u []
  simpa using this
end Peg
namespace Peg
open Rg
/-! ### the first slack place, by places -/
/-- the triple that begins at d is slack -/
def SlackTri (ms : Marks) (w : Way) (d : Nat) : Prop := ∃ a b c, w[d]? = some a ∧ w[d + 1]? = some b ∧ w[d + 2]? = some c ∧ slackAt ms a b c = true
theorem slackFrom_none {ms : Marks} : ∀ (w : Way) (i : Nat), (∀ d, ¬ SlackTri ms w d) → slackFrom ms i w = none
  | [], _, _ => rfl
  | [_], _, _ => rfl
  | [_, _], _, _ => rfl
  | a :: b :: c :: r, i, h => by
    have h0 : ¬ slackAt ms a b c = true := fun z => h 0 ⟨a, b, c, rfl, rfl, rfl, z⟩
    show (if slackAt ms a b c = true then some i else slackFrom ms (i + 1) (b :: c :: r)) = none
    rw [if_neg h0]
    refine slackFrom_none (b :: c :: r) (i + 1) fun d hd => h (d + 1) ?_
    obtain ⟨x, y, z, h1, h2, h3, h4⟩ := hd
    exact ⟨x, y, z, by simpa using h1, by simpa using h2, by simpa using h3, h4⟩
theorem slackFrom_some {ms : Marks} : ∀ (w : Way) (i d : Nat), SlackTri ms w d → (∀ e, e < d → ¬ SlackTri ms w e) → slackFrom ms i w = some (i + d)
  | [], _, _, h, _ => by obtain ⟨_, _, _, h, _⟩ := h; simp at h
  | [_], _, d, h, _ => by
    obtain ⟨_, _, _, _, h, _⟩ := h
    simp at h
  | [_, _], _, d, h, _ => by
    obtain ⟨_, _, _, _, _, h, _⟩ := h
    simp at h
  | a :: b :: c :: r, i, 0, h, _ => by
    obtain ⟨x, y, z, h1, h2, h3, h4⟩ := h
    obtain rfl : a = x := Option.some.inj h1
    obtain rfl : b = y := Option.some.inj h2
    obtain rfl : c = z := Option.some.inj h3
    show (if slackAt ms a b c = true then some i else slackFrom ms (i + 1) (b :: c :: r)) = some i
    rw [if_pos h4]
  | a :: b :: c :: r, i, d + 1, h, hn => by
    have h0 : ¬ slackAt ms a b c = true := fun z => hn 0 (Nat.succ_pos d) ⟨a, b, c, rfl, rfl, rfl, z⟩
    show (if slackAt ms a b c = true then some i else slackFrom ms (i + 1) (b :: c :: r)) = some (i + (d + 1))
    rw [if_neg h0, show i + (d + 1) = i + 1 + d by omega]
    refine slackFrom_some (b :: c :: r) (i + 1) d ?_ fun e he hd => hn (e + 1) (by omega) ?_
    · obtain ⟨x, y, z, h1, h2, h3, h4⟩ := h
      exact ⟨x, y, z, by simpa using h1, by simpa using h2, by simpa using h3, h4⟩
    · obtain ⟨x, y, z, h1, h2, h3, h4⟩ := hd
      exact ⟨x, y, z, by simpa using h1, by simpa using h2, by simpa using h3, h4⟩
/-! ### pulled tight: the first slack one left out, again and again -/
inductive TightTo (ms : Marks) : Way → Way → Prop
  | stop {w : Way} : slackFrom ms 1 w = none → TightTo ms w w
  | step {w v : Way} {i : Nat} : slackFrom ms 1 w = some i → TightTo ms (w.eraseIdx i) v → TightTo ms w v
theorem TightTo.one {ms : Marks} {w v v' : Way} (h : TightTo ms w v) (h' : TightTo ms w v') : v = v' := by
  induction h with
  | stop e =>
    cases h' with
    | stop => rfl
    | step e' _ => rw [e] at e'; cases e'
  | step e _ ih =>
    cases h' with
    | stop e' => rw [e] at e'; cases e'
    | step e' h2 =>
      rw [e] at e'
      cases e'
      exact ih h2
theorem rev_at {α : Type} {a : α} {k r : List α} : ((a :: k).reverse ++ r)[k.length]? = some a := by
  rw [List.reverse_cons, List.append_assoc, List.getElem?_append_right (by simp)]
  simp
theorem rev_right {α : Type} {l r : List α} (j : Nat) : (l.reverse ++ r)[l.length + j]? = r[j]? := by
  rw [List.getElem?_append_right (by simp)]
  simp
theorem rev_left {α : Type} {l r r' : List α} {j : Nat} (h : j < l.length) : (l.reverse ++ r)[j]? = (l.reverse ++ r')[j]? := by
  rw [List.getElem?_append_left (by simpa using h), List.getElem?_append_left (by simpa using h)]
theorem erase_mid {α : Type} (l r : List α) (b : α) : (l.reverse ++ b :: r).eraseIdx l.length = l.reverse ++ r := by
  rw [List.eraseIdx_append_of_length_le (by simp)]
  simp
/-- what the specification's stack does -/
theorem tight_run {ms : Marks} : ∀ (n : Nat) (l r : Way), 2 * r.length + l.length ≤ n → (∀ d, d + 1 < l.length → ¬ SlackTri ms (l.reverse ++ r) d) → TightTo ms (l.reverse ++ r) (tightBy ms n l r)
  | 0, l, r, hn, _ => by
    have e1 : r = [] := List.eq_nil_of_length_eq_zero (by omega)
    have e2 : l = [] := List.eq_nil_of_length_eq_zero (by omega)
    subst e1 e2
    exact .stop rfl
  | n + 1, [], [], _, _ => .stop rfl
  | n + 1, [], b :: s, hn, _ => by
    exact tight_run (ms := ms) n [b] s (by simp at hn ⊢; omega) (fun d hd => by simp at hd)
  | n + 1, a :: k, [], hn, hi => by
    refine .stop (slackFrom_none _ _ fun d hd => ?_)
    by_cases h : d + 1 < (a :: k).length
    · exact hi d h hd
    · obtain ⟨x, y, z, h1, h2, h3, h4⟩ := hd
      have := (List.getElem?_eq_some_iff.mp h3).1
      simp at this h
      omega
  | n + 1, a :: k, [b], hn, hi => by
    refine .stop (slackFrom_none _ _ fun d hd => ?_)
    by_cases h : d + 1 < (a :: k).length
    · exact hi d h hd
    · obtain ⟨x, y, z, h1, h2, h3, h4⟩ := hd
      have := (List.getElem?_eq_some_iff.mp h3).1
      simp at this h
      omega
  | n + 1, a :: k, b :: c :: s, hn, hi => by
    have t0 : ((a :: k).reverse ++ b :: c :: s)[k.length]? = some a := rev_at
    have t1 : ((a :: k).reverse ++ b :: c :: s)[k.length + 1]? = some b := by
      have := rev_right (l := a :: k) (r := b :: c :: s) 0
      simpa using this
    have t2 : ((a :: k).reverse ++ b :: c :: s)[k.length + 2]? = some c := by
      have := rev_right (l := a :: k) (r := b :: c :: s) 1
      rw [List.length_cons, show k.length + 1 + 1 = k.length + 2 by omega] at this
      simpa using this
    by_cases hs : slackAt ms a b c = true
    · have first : slackFrom ms 1 ((a :: k).reverse ++ b :: c :: s) = some (a :: k).length := by
        have := slackFrom_some _ 1 k.length ⟨a, b, c, t0, t1, t2, hs⟩ fun e he => hi e (by simp; omega)
        rw [this, List.length_cons, Nat.add_comm]
      have e1 : tightBy ms (n + 1) (a :: k) (b :: c :: s) = if k = [] then tightBy ms n [a] (c :: s) else tightBy ms n k (a :: c :: s) := by
        show (if slackAt ms a b c = true then _ else _) = _
        rw [if_pos hs]
      rw [e1]
      refine .step first ?_
      rw [erase_mid]
      by_cases hk : k = []
      · subst hk
        rw [if_pos rfl]
        exact tight_run n [a] (c :: s) (by simp at hn ⊢; omega) (fun d hd => by simp at hd)
      · rw [if_neg hk]
        have e2 : (a :: k).reverse ++ c :: s = k.reverse ++ a :: c :: s := by simp
        rw [e2]
        refine tight_run n k (a :: c :: s) (by simp at hn ⊢; omega) fun d hd hsl => hi d (by simp; omega) ?_
        obtain ⟨x, y, z, h1, h2, h3, h4⟩ := hsl
        have e3 : (a :: k).reverse ++ b :: c :: s = k.reverse ++ a :: b :: c :: s := by simp
        rw [e3]
        refine ⟨x, y, z, by rw [rev_left (r' := a :: c :: s) (by omega)]; exact h1, by rw [rev_left (r' := a :: c :: s) (by omega)]; exact h2, ?_, h4⟩
        by_cases hd2 : d + 2 < k.length
        · rw [rev_left (r' := a :: c :: s) hd2]
          exact h3
        · have e4 : d + 2 = k.length + 0 := by omega
          rw [e4, rev_right] at h3 ⊢
          simpa using h3
    · have e1 : tightBy ms (n + 1) (a :: k) (b :: c :: s) = tightBy ms n (b :: a :: k) (c :: s) := by
        show (if slackAt ms a b c = true then _ else _) = _
        rw [if_neg hs]
      rw [e1]
      have e2 : (a :: k).reverse ++ b :: c :: s = (b :: a :: k).reverse ++ c :: s := by simp
      rw [e2] at hi t0 t1 t2 ⊢
      refine tight_run n (b :: a :: k) (c :: s) (by simp at hn ⊢; omega) fun d hd hsl => ?_
      by_cases h : d + 1 < (a :: k).length
      · exact hi d h hsl
      · have e3 : d = k.length := by simp at h hd; omega
        subst e3
        obtain ⟨x, y, z, h1, h2, h3, h4⟩ := hsl
        rw [t0] at h1
        rw [t1] at h2
        rw [t2] at h3
        cases h1
        cases h2
        cases h3
        exact hs h4
theorem tight_is (ms : Marks) (w : Way) : TightTo ms w (tightBy ms (4 * w.length + 4) [] w) := by
  have := tight_run (ms := ms) (4 * w.length + 4) [] w (by simp; omega) (fun d hd => by simp at hd)
  simpa using this
end Peg
namespace Peg
open Rg
/-! ### refusals of several ways -/
def refusalL (ms : Marks) (ws : List Way) : Int := if (isCount ms.length 32 && ws.all fun w => isCount w.length 1024) = false then -2 else if ((ms.all Pt.ok && decide ms.Nodup) && ws.all fun w => w.all Pt.ok) = false then -8 else 0
theorem refusalL_zero {ms : Marks} {ws : List Way} (h : refusalL ms ws = 0) : (1 ≤ ms.length ∧ ms.length ≤ 32 ∧ ∀ x ∈ ms, Pt.ok x = true) ∧ ∀ w ∈ ws, 1 ≤ w.length ∧ w.length ≤ 1024 ∧ ∀ x ∈ w, Pt.ok x = true := by
  unfold refusalL at h
  split at h
  · cases h
  · rename_i h1
    split at h
    · cases h
    · rename_i h2
      have e1 := (Bool.not_eq_false _).mp h1
      have e2 := (Bool.not_eq_false _).mp h2
      simp only [Bool.and_eq_true, List.all_eq_true] at e1 e2
      unfold isCount at e1
      simp only [Bool.and_eq_true, decide_eq_true_eq] at e1
      exact ⟨⟨e1.1.1, e1.1.2, e2.1.1⟩, fun w hw => ⟨(e1.2 w hw).1, (e1.2 w hw).2, e2.2 w hw⟩⟩
def refusalUL (ms : Marks) (ws : List Way) : Int := if refusalL ms ws ≠ 0 then refusalL ms ws else if (ws.all fun w => clearBy ms w) = false then -9 else 0
theorem refusalUL_zero {ms : Marks} {ws : List Way} (h : refusalUL ms ws = 0) : refusalL ms ws = 0 ∧ ∀ w ∈ ws, clearBy ms w = true := by
  unfold refusalUL at h
  by_cases h1 : refusalL ms ws = 0
  · rw [if_neg (fun z => z h1)] at h
    refine ⟨h1, ?_⟩
    split at h
    · cases h
    · rename_i h2
      have e2 := (Bool.not_eq_false _).mp h2
      exact List.all_eq_true.mp e2
  · rw [if_pos h1] at h
    exact absurd h h1
/-- an answer in numbers -/
def outN (y : Wqatcv.Ans) : List Int := y.ret :: y.nums
theorem one_ans (ms : Marks) (w : Way) (f : Unit → Wqatcv.Ans) : outN (Wqatcv.ofOne ms w f) = if refusalL ms [w] ≠ 0 then [refusalL ms [w]] else outN (f ()) := by
  unfold Wqatcv.ofOne refusalL MARKS PLACES Wqatcv.placesOk
  rw [many_count, many_count]
  simp only [List.all_cons, List.all_nil, Bool.and_true]
  cases isCount ms.length 32 <;> cases isCount w.length 1024 <;> cases ms.all Pt.ok <;> cases w.all Pt.ok <;> cases decide ms.Nodup <;> rfl
theorem clear_ans (ms : Marks) (w : Way) (f : Unit → Wqatcv.Ans) : outN (Wqatcv.ofClear ms w f) = if refusalUL ms [w] ≠ 0 then [refusalUL ms [w]] else outN (f ()) := by
  unfold Wqatcv.ofClear
  rw [one_ans]
  unfold refusalUL
  simp only [List.all_cons, List.all_nil, Bool.and_true]
  by_cases h1 : refusalL ms [w] = 0
  · simp only [h1, ne_eq, not_true_eq_false, if_false]
    cases clearBy ms w <;> rfl
  · rw [if_pos h1, if_pos h1, if_pos h1]
theorem two_ans (ms : Marks) (w v : Way) (ends : Bool) (f : Unit → Wqatcv.Ans) : outN (Wqatcv.ofTwo ms w v ends f) = if refusalUL ms [w, v] ≠ 0 then [refusalUL ms [w, v]] else if ends = false then [-8] else outN (f ()) := by
  unfold Wqatcv.ofTwo Wqatcv.ofOne refusalUL refusalL MARKS PLACES Wqatcv.placesOk
  rw [many_count, many_count, many_count]
  simp only [List.all_cons, List.all_nil, Bool.and_true]
  cases isCount ms.length 32 <;> cases isCount w.length 1024 <;> cases isCount v.length 1024 <;> cases ms.all Pt.ok <;> cases w.all Pt.ok <;> cases v.all Pt.ok <;> cases decide ms.Nodup <;> (try rfl)
  cases clearBy ms w <;> cases clearBy ms v <;> cases ends <;> rfl
/-! ### what each call answers, in the program's words -/
theorem touchL_is (m a : List Int) : PyWqatcv.touch m a = if refusalL (WqatcvNeutral.pts m) [WqatcvNeutral.pts a] ≠ 0 then [refusalL (WqatcvNeutral.pts m) [WqatcvNeutral.pts a]] else match touchedBy (WqatcvNeutral.pts m) (WqatcvNeutral.pts a) with
      | some x => [0, (x.1 : Int), (x.2 : Int)]
      | none => [-3] := by
  show outN (Wqatcv.ofOne (WqatcvNeutral.pts m) (WqatcvNeutral.pts a) _) = _
  rw [one_ans]
  cases touchedBy (WqatcvNeutral.pts m) (WqatcvNeutral.pts a) <;> rfl
theorem shows_out (u : List Letter) : outN (Wqatcv.shows u) = (((u.map Wqatcv.numOf).length : Nat) : Int) :: u.map Wqatcv.numOf := by
  rw [List.length_map]
  rfl
theorem wordL_is (m a : List Int) : PyWqatcv.word m a = if refusalUL (WqatcvNeutral.pts m) [WqatcvNeutral.pts a] ≠ 0 then [refusalUL (WqatcvNeutral.pts m) [WqatcvNeutral.pts a]] else (((wordN (WqatcvNeutral.pts m) (WqatcvNeutral.pts a)).length : Nat) : Int) :: wordN (WqatcvNeutral.pts m) (WqatcvNeutral.pts a) := by
  show outN (Wqatcv.ofClear (WqatcvNeutral.pts m) (WqatcvNeutral.pts a) _) = _
  rw [clear_ans, shows_out, wordN_is]
theorem stringL_is (m a : List Int) : PyWqatcv.string m a = if refusalUL (WqatcvNeutral.pts m) [WqatcvNeutral.pts a] ≠ 0 then [refusalUL (WqatcvNeutral.pts m) [WqatcvNeutral.pts a]] else (((strN (WqatcvNeutral.pts m) (WqatcvNeutral.pts a)).length : Nat) : Int) :: strN (WqatcvNeutral.pts m) (WqatcvNeutral.pts a) := by
  show outN (Wqatcv.ofClear (WqatcvNeutral.pts m) (WqatcvNeutral.pts a) _) = _
  rw [clear_ans, shows_out, strN_is]
/-- the refusal of two ways that begin together; that end together, too -/
def refusalB (ms : Marks) (w v : Way) : Int := if refusalUL ms [w, v] ≠ 0 then refusalUL ms [w, v] else if w.head? ≠ v.head? then -8 else 0
def refusalJ (ms : Marks) (w v : Way) : Int := if refusalB ms w v ≠ 0 then refusalB ms w v else if w.getLast? ≠ v.getLast? then -8 else 0
theorem branch_ans (ms : Marks) (w v : Way) (f : Unit → Wqatcv.Ans) : outN (Wqatcv.ofTwo ms w v (w.head? == v.head?) f) = if refusalB ms w v ≠ 0 then [refusalB ms w v] else outN (f ()) := by
  rw [two_ans]
  unfold refusalB
  by_cases h1 : refusalUL ms [w, v] = 0
  · simp only [h1, ne_eq, not_true_eq_false, if_false]
    by_cases h2 : w.head? = v.head?
    · rw [h2]
      simp
    · rw [if_pos (beq_eq_false_iff_ne.mpr h2), if_pos h2, if_pos (by decide)]
  · rw [if_pos h1, if_pos h1, if_pos h1]
theorem join_ans (ms : Marks) (w v : Way) (f : Unit → Wqatcv.Ans) : outN (Wqatcv.ofTwo ms w v (sameEnds w v) f) = if refusalJ ms w v ≠ 0 then [refusalJ ms w v] else outN (f ()) := by
  rw [two_ans]
  unfold refusalJ refusalB sameEnds
  by_cases h1 : refusalUL ms [w, v] = 0
  · simp only [h1, ne_eq, not_true_eq_false, if_false]
    by_cases h2 : w.head? = v.head?
    · by_cases h3 : w.getLast? = v.getLast?
      · simp [h2, h3]
      · have h4 : (w.getLast? == v.getLast?) = false := beq_eq_false_iff_ne.mpr h3
        simp [h2, h3, h4]
    · have h4 : (w.head? == v.head?) = false := beq_eq_false_iff_ne.mpr h2
      simp [h2, h4]
  · rw [if_pos h1, if_pos h1, if_pos h1, if_pos h1]
theorem refusalB_zero {ms : Marks} {w v : Way} (h : refusalB ms w v = 0) : refusalUL ms [w, v] = 0 ∧ w.head? = v.head? := by
  unfold refusalB at h
  by_cases h1 : refusalUL ms [w, v] = 0
  · refine ⟨h1, ?_⟩
    rw [if_neg (fun z => z h1)] at h
    by_cases h2 : w.head? = v.head?
    · exact h2
    · rw [if_pos h2] at h
      cases h
  · rw [if_pos h1] at h
    exact absurd h h1
theorem refusalJ_zero {ms : Marks} {w v : Way} (h : refusalJ ms w v = 0) : refusalB ms w v = 0 := by
  unfold refusalJ at h
  by_cases h1 : refusalB ms w v = 0
  · exact h1
  · rw [if_pos h1] at h
    exact absurd h h1
theorem sameL_is (m a b : List Int) : PyWqatcv.same m a b = if refusalJ (WqatcvNeutral.pts m) (WqatcvNeutral.pts a) (WqatcvNeutral.pts b) ≠ 0 then [refusalJ (WqatcvNeutral.pts m) (WqatcvNeutral.pts a) (WqatcvNeutral.pts b)] else if strN (WqatcvNeutral.pts m) (WqatcvNeutral.pts a) = strN (WqatcvNeutral.pts m) (WqatcvNeutral.pts b) then [1] else [0] := by
  show outN (Wqatcv.ofTwo (WqatcvNeutral.pts m) (WqatcvNeutral.pts a) (WqatcvNeutral.pts b) _ _) = _
  rw [join_ans]
  congr 1
  by_cases h : strN (WqatcvNeutral.pts m) (WqatcvNeutral.pts a) = strN (WqatcvNeutral.pts m) (WqatcvNeutral.pts b)
  · rw [if_pos h, if_pos ((same_num _ _ _).mpr h)]
    rfl
  · rw [if_neg h, if_neg (fun z => h ((same_num _ _ _).mp z))]
    rfl
theorem differL_is (m a b : List Int) : PyWqatcv.differ m a b = if refusalJ (WqatcvNeutral.pts m) (WqatcvNeutral.pts a) (WqatcvNeutral.pts b) ≠ 0 then [refusalJ (WqatcvNeutral.pts m) (WqatcvNeutral.pts a) (WqatcvNeutral.pts b)] else match differN 0 (strN (WqatcvNeutral.pts m) (WqatcvNeutral.pts a)) (strN (WqatcvNeutral.pts m) (WqatcvNeutral.pts b)) with
      | some x => [(x.1 : Int), x.2.1, x.2.2]
      | none => [-3] := by
  show outN (Wqatcv.ofTwo (WqatcvNeutral.pts m) (WqatcvNeutral.pts a) (WqatcvNeutral.pts b) _ _) = _
  rw [join_ans, ← strN_is, ← strN_is, ← differ_num]
  congr 1
  cases differBy 0 (stringBy (WqatcvNeutral.pts m) (WqatcvNeutral.pts a)) (stringBy (WqatcvNeutral.pts m) (WqatcvNeutral.pts b)) <;> rfl
theorem leftL_is (m a b : List Int) : PyWqatcv.left m a b = if refusalB (WqatcvNeutral.pts m) (WqatcvNeutral.pts a) (WqatcvNeutral.pts b) ≠ 0 then [refusalB (WqatcvNeutral.pts m) (WqatcvNeutral.pts a) (WqatcvNeutral.pts b)] else
    (((pullN ((wordN (WqatcvNeutral.pts m) (WqatcvNeutral.pts a)).reverse.map (fun z => -z) ++ wordN (WqatcvNeutral.pts m) (WqatcvNeutral.pts b))).length : Nat) : Int) :: pullN ((wordN (WqatcvNeutral.pts m) (WqatcvNeutral.pts a)).reverse.map (fun z => -z) ++ wordN (WqatcvNeutral.pts m) (WqatcvNeutral.pts b)) := by
  show outN (Wqatcv.ofTwo (WqatcvNeutral.pts m) (WqatcvNeutral.pts a) (WqatcvNeutral.pts b) _ _) = _
  rw [branch_ans, shows_out, left_num]
theorem roundL_is (k : Int) (m a : List Int) : PyWqatcv.round_of k m a = if refusalUL (WqatcvNeutral.pts m) [WqatcvNeutral.pts a] ≠ 0 then [refusalUL (WqatcvNeutral.pts m) [WqatcvNeutral.pts a]] else if (WqatcvNeutral.pts m).length ≤ k.toNat then [-4] else
    [0, ((wordN (WqatcvNeutral.pts m) (WqatcvNeutral.pts a)).count (((k.toNat : Nat) : Int) + 1) : Int) - ((wordN (WqatcvNeutral.pts m) (WqatcvNeutral.pts a)).count (-(((k.toNat : Nat) : Int) + 1)) : Int)] := by
  show outN (Wqatcv.ofClear (WqatcvNeutral.pts m) (WqatcvNeutral.pts a) _) = _
  rw [clear_ans, ← count_net, ← wordN_is, ← net_num]
  congr 1
  show outN (if (WqatcvNeutral.pts m).length ≤ k.toNat then Wqatcv.NO else _) = _
  split <;> rfl
theorem slackL_is (m a : List Int) : PyWqatcv.slack m a = if refusalL (WqatcvNeutral.pts m) [WqatcvNeutral.pts a] ≠ 0 then [refusalL (WqatcvNeutral.pts m) [WqatcvNeutral.pts a]] else match slackFrom (WqatcvNeutral.pts m) 1 (WqatcvNeutral.pts a) with
      | some i => [(i : Int)]
      | none => [-3] := by
  show outN (Wqatcv.ofOne (WqatcvNeutral.pts m) (WqatcvNeutral.pts a) _) = _
  rw [one_ans]
  cases slackFrom (WqatcvNeutral.pts m) 1 (WqatcvNeutral.pts a) <;> rfl
def tightN (ms : Marks) (w : Way) : Way := tightBy ms (4 * w.length + 4) [] w
theorem withoutL_is (m a : List Int) : PyWqatcv.without m a = if refusalUL (WqatcvNeutral.pts m) [WqatcvNeutral.pts a] ≠ 0 then [refusalUL (WqatcvNeutral.pts m) [WqatcvNeutral.pts a]] else
    (((tightN (WqatcvNeutral.pts m) (WqatcvNeutral.pts a)).length : Nat) : Int) :: (tightN (WqatcvNeutral.pts m) (WqatcvNeutral.pts a)).flatMap fun p => [p.x, p.y] := by
  show outN (Wqatcv.ofClear (WqatcvNeutral.pts m) (WqatcvNeutral.pts a) _) = _
  rw [clear_ans]
  rfl
/-! ### the first place where rows of letters differ -/
theorem differ_end : ∀ (u v : List Int) (k : Nat), (∀ z ∈ u, z ≠ 0) → (∀ z ∈ v, z ≠ 0) → (∀ j, j < max u.length v.length → u.getD j 0 = v.getD j 0) → differN k u v = none
  | [], [], _, _, _, _ => rfl
  | a :: u, [], _, hu, _, h => absurd (h 0 (by simp)) (hu a (by simp))
  | [], b :: v, _, _, hv, h => absurd (h 0 (by simp)).symm (hv b (by simp))
  | a :: u, b :: v, k, hu, hv, h => by
    have e : a = b := h 0 (by simp)
    show (if a = b then differN (k + 1) u v else _) = none
    rw [if_pos e]
    refine differ_end u v (k + 1) (fun z hz => hu z (List.mem_cons_of_mem _ hz)) (fun z hz => hv z (List.mem_cons_of_mem _ hz)) fun j hj => ?_
    have := h (j + 1) (by simp only [List.length_cons]; omega)
    simpa using this
theorem differ_at : ∀ (u v : List Int) (k n : Nat), (∀ z ∈ u, z ≠ 0) → (∀ z ∈ v, z ≠ 0) → (∀ j, j < n → u.getD j 0 = v.getD j 0) → u.getD n 0 ≠ v.getD n 0 → differN k u v = some (k + n, u.getD n 0, v.getD n 0)
  | [], [], _, _, _, _, _, h => absurd rfl h
  | a :: u, [], k, n, hu, _, h, hn => by
    cases n with
    | zero => rfl
    | succ n => exact absurd (h 0 (by omega)) (hu a (by simp))
  | [], b :: v, k, n, _, hv, h, hn => by
    cases n with
    | zero => rfl
    | succ n => exact absurd (h 0 (by omega)).symm (hv b (by simp))
  | a :: u, b :: v, k, n, hu, hv, h, hn => by
    show (if a = b then differN (k + 1) u v else some (k, a, b)) = _
    cases n with
    | zero =>
      have e : ¬ a = b := hn
      rw [if_neg e]
      rfl
    | succ n =>
      have e : a = b := h 0 (by omega)
      rw [if_pos e, show k + (n + 1) = k + 1 + n by omega]
      refine differ_at u v (k + 1) n (fun z hz => hu z (List.mem_cons_of_mem _ hz)) (fun z hz => hv z (List.mem_cons_of_mem _ hz)) (fun j hj => ?_) (by simpa using hn)
      have := h (j + 1) (by omega)
      simpa using this
theorem strN_ne {ms : Marks} {w : Way} {z : Int} (h : z ∈ strN ms w) : z ≠ 0 := by
  rw [← strN_is] at h
  obtain ⟨a, _, rfl⟩ := List.mem_map.mp h
  exact numOf_ne a
/-! ### within a triangle, as the program asks -/
def allPos (a b c m : Pt) : Bool := decide (0 < leftOf a b m) && (decide (0 < leftOf b c m) && decide (0 < leftOf c a m))
def allNeg (a b c m : Pt) : Bool := decide (leftOf a b m < 0) && (decide (leftOf b c m < 0) && decide (leftOf c a m < 0))
theorem within_eq (a b c m : Pt) : within a b c m = ((allPos a b c m || allNeg a b c m) || (Rg.between a b m || (Rg.between b c m || Rg.between c a m))) := by
  have e : within a b c m = (Rg.between a b m || (Rg.between b c m || (Rg.between c a m || (allPos a b c m || allNeg a b c m)))) := by
    unfold within allPos allNeg
    simp only [Bool.decide_and, Bool.decide_eq_true]
  rw [e]
  cases Rg.between a b m <;> cases Rg.between b c m <;> cases Rg.between c a m <;> cases allPos a b c m <;> cases allNeg a b c m <;> rfl
/-! ### pulled tight by a stack, as the program does it -/
theorem tight_drop {ms : Marks} {l rest : Way} {a b c : Pt} {T : Way} (hn : ∀ d, ¬ SlackTri ms (l ++ [a, b]) d) (hs : slackAt ms a b c = true) (h : TightTo ms ((l ++ [a, b]) ++ c :: rest) T) : TightTo ms ((l ++ [a]) ++ c :: rest) T ∧ ∀ d, ¬ SlackTri ms (l ++ [a]) d := by
  have at0 : ((l ++ [a, b]) ++ c :: rest)[l.length]? = some a := by simp
  have at1 : ((l ++ [a, b]) ++ c :: rest)[l.length + 1]? = some b := by simp
  have at2 : ((l ++ [a, b]) ++ c :: rest)[l.length + 2]? = some c := by simp
  have first : slackFrom ms 1 ((l ++ [a, b]) ++ c :: rest) = some (1 + l.length) := by
    refine slackFrom_some _ 1 l.length ⟨a, b, c, at0, at1, at2, hs⟩ fun e he ht => hn e ?_
    obtain ⟨x, y, z, h1, h2, h3, h4⟩ := ht
    rw [List.getElem?_append_left (by simp; omega)] at h1 h2 h3
    exact ⟨x, y, z, h1, h2, h3, h4⟩
  refine ⟨?_, fun d hd => hn d ?_⟩
  · cases h with
    | stop e => rw [first] at e; cases e
    | step e t =>
      rw [first] at e
      cases e
      have q : ((l ++ [a, b]) ++ c :: rest).eraseIdx (1 + l.length) = (l ++ [a]) ++ c :: rest := by
        have q1 : (l ++ [a, b]) ++ c :: rest = (l ++ [a]) ++ b :: c :: rest := by simp
        rw [q1, List.eraseIdx_append_of_length_le (by simp; omega)]
        have q2 : 1 + l.length - (l ++ [a]).length = 0 := by simp; omega
        rw [q2]
        rfl
      rw [q] at t
      exact t
  · obtain ⟨x, y, z, h1, h2, h3, h4⟩ := hd
    have hl : d + 2 < (l ++ [a]).length := (List.getElem?_eq_some_iff.mp h3).1
    have q : l ++ [a, b] = (l ++ [a]) ++ [b] := by simp
    rw [q]
    exact ⟨x, y, z, by rw [List.getElem?_append_left (by omega)]; exact h1, by rw [List.getElem?_append_left (by omega)]; exact h2, by rw [List.getElem?_append_left hl]; exact h3, h4⟩
theorem tight_push {ms : Marks} {L : Way} {c : Pt} (hn : ∀ d, ¬ SlackTri ms L d) (hs : ∀ l a b, L = l ++ [a, b] → slackAt ms a b c = false) : ∀ d, ¬ SlackTri ms (L ++ [c]) d := by
  intro d hd
  obtain ⟨x, y, z, h1, h2, h3, h4⟩ := hd
  have hl : d + 2 < (L ++ [c]).length := (List.getElem?_eq_some_iff.mp h3).1
  rw [List.length_append, List.length_singleton] at hl
  by_cases e : d + 2 < L.length
  · rw [List.getElem?_append_left (by omega)] at h1 h2 h3
    exact hn d ⟨x, y, z, h1, h2, h3, h4⟩
  · have e2 : L.length = d + 2 := by omega
    rw [List.getElem?_append_left (by omega)] at h1 h2
    rw [List.getElem?_append_right (by omega), e2] at h3
    have hz : c = z := by simpa using h3
    subst hz
    have hL : L = L.take d ++ [x, y] := by
      have t1 := take_snoc h1
      have t2 := take_snoc h2
      rw [t1] at t2
      have t3 : L.take (d + 1 + 1) = L := List.take_of_length_le (by omega)
      rw [t3] at t2
      rw [List.append_assoc] at t2
      exact t2
    have := hs _ x y hL
    rw [h4] at this
    cases this
theorem tight_end {ms : Marks} {L T : Way} (hn : ∀ d, ¬ SlackTri ms L d) (h : TightTo ms L T) : T = L := by
  cases h with
  | stop _ => rfl
  | step e _ =>
    rw [slackFrom_none L 1 hn] at e
    cases e
theorem tightN_is (ms : Marks) (w : Way) : TightTo ms w (tightN ms w) := tight_is ms w
/-! ### what is asked has whole places -/
theorem string_even {m a : List Int} (h : PyWqatcv.string_asked m a = true) : m.length % 2 = 0 ∧ a.length % 2 = 0 := by
  unfold PyWqatcv.string_asked WqatcvNeutral.asked WqatcvNeutral.asked1 at h
  simp only [List.all_cons, List.all_nil, Bool.and_eq_true, beq_iff_eq] at h
  exact ⟨h.1.1.1.1.1.1.1, h.1.1.1.1.1.2⟩
theorem slack_even {m a : List Int} (h : PyWqatcv.slack_asked m a = true) : m.length % 2 = 0 ∧ a.length % 2 = 0 := by
  unfold PyWqatcv.slack_asked WqatcvNeutral.asked WqatcvNeutral.asked1 at h
  simp only [List.all_cons, List.all_nil, Bool.and_eq_true, beq_iff_eq] at h
  exact ⟨h.1.1.1.1.1.1.1, h.1.1.1.1.1.2⟩
theorem without_even {m a : List Int} (h : PyWqatcv.without_asked m a = true) : m.length % 2 = 0 ∧ a.length % 2 = 0 := by
  unfold PyWqatcv.without_asked WqatcvNeutral.asked WqatcvNeutral.asked1 at h
  simp only [List.all_cons, List.all_nil, Bool.and_eq_true, beq_iff_eq] at h
  exact ⟨h.1.1.1.1.1.1.1, h.1.1.1.1.1.2⟩
theorem same_even {m a b : List Int} (h : PyWqatcv.same_asked m a b = true) : m.length % 2 = 0 ∧ a.length % 2 = 0 ∧ b.length % 2 = 0 := by
  unfold PyWqatcv.same_asked WqatcvNeutral.asked WqatcvNeutral.asked1 at h
  simp only [List.all_cons, List.all_nil, Bool.and_eq_true, beq_iff_eq] at h
  exact ⟨h.1.1.1.1.1.1.1.1.1, h.1.1.1.1.1.1.1.2, h.1.1.1.1.1.2⟩
theorem differ_even {m a b : List Int} (h : PyWqatcv.differ_asked m a b = true) : m.length % 2 = 0 ∧ a.length % 2 = 0 ∧ b.length % 2 = 0 := by
  unfold PyWqatcv.differ_asked WqatcvNeutral.asked WqatcvNeutral.asked1 at h
  simp only [List.all_cons, List.all_nil, Bool.and_eq_true, beq_iff_eq] at h
  exact ⟨h.1.1.1.1.1.1.1.1.1, h.1.1.1.1.1.1.1.2, h.1.1.1.1.1.2⟩
theorem left_even {m a b : List Int} (h : PyWqatcv.left_asked m a b = true) : m.length % 2 = 0 ∧ a.length % 2 = 0 ∧ b.length % 2 = 0 := by
  unfold PyWqatcv.left_asked WqatcvNeutral.asked WqatcvNeutral.asked1 at h
  simp only [List.all_cons, List.all_nil, Bool.and_eq_true, beq_iff_eq] at h
  exact ⟨h.1.1.1.1.1.1.1.1.1, h.1.1.1.1.1.1.1.2, h.1.1.1.1.1.2⟩
theorem round_even {k : Int} {m a : List Int} (h : PyWqatcv.round_of_asked k m a = true) : 0 ≤ k ∧ m.length % 2 = 0 ∧ a.length % 2 = 0 := by
  unfold PyWqatcv.round_of_asked WqatcvNeutral.asked WqatcvNeutral.asked1 WqatcvNeutral.natural at h
  simp only [List.all_cons, List.all_nil, Bool.and_eq_true, beq_iff_eq, decide_eq_true_eq] at h
  exact ⟨h.1.1.1.1.1.1.1.1.1, h.1.1.1.1.1.1.1.2, h.1.1.1.1.1.2⟩
end Peg
set_option Elab.async false
set_option maxRecDepth 100000
set_option maxHeartbeats 2000000
namespace Peg
open PySem PySem.Spec
open PyProof.Rows hiding St
open L2
/-! ### loops over anything that yields n items -/
theorem for_it {J : It} {n : Nat} {g : TG} {tb : TS} {D : Ends} {σ : St} {H : Hp} (Pv : Nat → St → Hp → Prop) (h0 : Pv 0 σ H)
    (go : ∀ i σ H, i < n → Pv i σ H → J.go i H) (stop : ∀ σ H, Pv n σ H → J.stop n H)
    (hs : ∀ i σ H x H', i < n → Pv i σ H → J.yld i H x H' → g x σ H' fun σ2 H2 => tb { D with nx := Pv (i + 1), ct := Pv (i + 1), bk := D.nx } σ2 H2) (hd : ∀ σ H, Pv n σ H → D.nx σ H) :
    ∃ W : Nat → Nat → St → Hp → Prop, (∃ m, W 0 m σ H) ∧ ∀ i m σ H, W i m σ H →
      (J.stop i H ∧ D.nx σ H) ∨ (J.go i H ∧ ∃ N : St → Hp → Prop, (∀ σ' H', N σ' H' → ∃ m', m' < m ∧ W (i + 1) m' σ' H') ∧ ∀ x H', J.yld i H x H' → g x σ H' fun σ2 H2 => tb { D with nx := N, ct := N, bk := D.nx } σ2 H2) := by
  refine ⟨fun i m σ H => m = n - i ∧ i ≤ n ∧ Pv i σ H, ⟨n, by simp, Nat.zero_le _, h0⟩, ?_⟩
  rintro i m σ H ⟨rfl, hi, p⟩
  by_cases hlt : i < n
  · exact .inr ⟨go i σ H hlt p, Pv (i + 1), fun σ' H' p' => ⟨n - (i + 1), by omega, rfl, hlt, p'⟩, fun x H' y => hs i σ H x H' hlt p y⟩
  · have e : i = n := by omega
    subst e
    exact .inl ⟨stop σ H p, hd σ H p⟩
theorem lc_it {J : It} {n : Nat} {g : TG} {tt : TT} {te : TE} {vs : List Nat} {σ : St} {H1 : Hp} {D : Addr} {Qd : Hp → Prop} (Pv : Nat → Hp → Prop) (h0 : Pv 0 (upd H1 D (.lst [])))
    (go : ∀ i H, i < n → Pv i H → J.go i H) (stop : ∀ H, Pv n H → J.stop n H)
    (hs : ∀ i H x H', i < n → Pv i H → J.yld i H x H' → g x (wipe σ vs) H' fun σ2 H2 => wipe σ2 vs = wipe σ vs ∧ tt σ2 H2 fun b H3 =>
      if b = true then te σ2 H3 fun y H4 => ∃ acc, H4 D = some (.lst acc) ∧ acc.length < sizeLine ∧ Pv (i + 1) (upd H4 D (.lst (acc ++ [y]))) else Pv (i + 1) H3) (hd : ∀ H, Pv n H → Qd H) :
    ∃ W : Nat → Nat → Hp → Prop, (∃ m, W 0 m (upd H1 D (.lst []))) ∧ ∀ i m H, W i m H →
      (J.stop i H ∧ Qd H) ∨ (J.go i H ∧ ∃ Nx : Hp → Prop, (∀ H', Nx H' → ∃ m', m' < m ∧ W (i + 1) m' H') ∧ ∀ x H', J.yld i H x H' → g x (wipe σ vs) H' fun σ2 H2 => wipe σ2 vs = wipe σ vs ∧ tt σ2 H2 fun b H3 =>
        if b = true then te σ2 H3 fun y H4 => ∃ acc, H4 D = some (.lst acc) ∧ acc.length < sizeLine ∧ Nx (upd H4 D (.lst (acc ++ [y]))) else Nx H3) := by
  refine ⟨fun i m H => m = n - i ∧ i ≤ n ∧ Pv i H, ⟨n, by simp, Nat.zero_le _, h0⟩, ?_⟩
  rintro i m H ⟨rfl, hi, p⟩
  by_cases hlt : i < n
  · exact .inr ⟨go i H hlt p, Pv (i + 1), fun H' p' => ⟨n - (i + 1), by omega, rfl, hlt, p'⟩, fun x H' y => hs i H x H' hlt p y⟩
  · have e : i = n := by omega
    subst e
    exact .inl ⟨stop H p, hd H p⟩
/-! ### defs of the text, by name -/
section
variable (P : Program) (w : World) (K : PySem.W.Frag) (mg : Str → Option Value) (base : Heap)
/-- a def that stands in the module -/
def Got (x : Str) (ps : List Str) (st : Stmt) : Prop := ∃ (f : Addr) (fd : FuncData), Fun K x x st f fd ∧ mg x = some (.ref f) ∧ Binds K fd ps []
/-- a def that keeps its promise -/
def DefOk (k : Nat) (x : Str) (ps : List Str) (sp : Sp) : Prop := ∃ (f : Addr) (fd : FuncData), FnOk P w K mg base CX0 k f fd ps sp ∧ mg x = some (.ref f) ∧ PySem.W.keepIn K (.ref f) = true ∧ Binds K fd ps []
end
section
variable {P : Program} {w : World} {K : PySem.W.Frag} {mg : Str → Option Value} {base : Heap}
theorem Got.ok {x : Str} {st : Stmt} {N ps : List Str} {k : Nat} {sp : Sp} (G : Got K mg x ps st) (S : FnScope N ps (defScope st)) (len : ∀ vs H Q E, sp vs H Q E → vs.length = ps.length)
    (hbody : ∀ (f : Addr) (cdv : Value) (A : Around) (outer : List Env) (s : Shared) (H : Hp) (vs : List V) (Q : VK) (E : XK), Room k (A.deeper (envOfC x (defScope st) s.heap.objs.size f cdv)) → sp vs H Q E →
      ∃ t, PSs (cxOf CX0 P w K mg base N x (defScope st) f cdv A outer s H E).nox (defBody st) t ∧ t { nx := fun _ H' => Q .non H', rt := Q } (start N vs) H) : DefOk P w K mg base (k + 1) x ps sp := by
  obtain ⟨f, fd, F, hm, hb⟩ := G
  exact ⟨f, fd, F.ok S len (hbody f), hm, F.kp, hb⟩
/-- the rule for a def whose code is known -/
theorem okC {x : Str} {st : Stmt} {f : Addr} {fd : FuncData} {N ps : List Str} {k : Nat} {sp : Sp} {cd : Value} (F : Fun K x x st f fd) (hc : fd.code = cd) (S : FnScope N ps (defScope st)) (len : ∀ vs H Q E, sp vs H Q E → vs.length = ps.length)
    (hbody : ∀ (A : Around) (outer : List Env) (s : Shared) (H : Hp) (vs : List V) (Q : VK) (E : XK), Room k (A.deeper (envOfC x (defScope st) s.heap.objs.size f cd)) → sp vs H Q E →
      ∃ t, PSs (cxOf CX0 P w K mg base N x (defScope st) f cd A outer s H E).nox (defBody st) t ∧ t { nx := fun _ H' => Q .non H', rt := Q } (start N vs) H) : FnOk P w K mg base CX0 (k + 1) f fd ps sp := by
  obtain ⟨oc, od, kV, doc, pm, an, cdv, ct, osl, rfl, lk, hcd⟩ := F.ex
  have e : cdv = cd := hc
  subst e
  refine fn_of lk hcd S len fun A outer s H vs Q E hr hsp => ?_
  obtain ⟨t, h, q⟩ := hbody A outer s H vs Q E hr hsp
  exact ⟨t, h.nox, q⟩
theorem DefOk.mono {j k : Nat} {x : Str} {ps : List Str} {sp : Sp} (D : DefOk P w K mg base j x ps sp) (h : j ≤ k) : DefOk P w K mg base k x ps sp := by
  obtain ⟨f, fd, F, hm, hk, hb⟩ := D
  exact ⟨f, fd, F.mono h, hm, hk, hb⟩
end
/-- f(e, ..), f a def of the text that keeps its promise -/
theorem pe_def {X : Cx} {k : Nat} {x : Str} {ps : List Str} {sp : Sp} {e : Expr} {es : List Expr} {t : TA} {p pos : Pos} (D : DefOk X.prog X.w X.K X.mg X.base k x ps sp) (hr : Room k X.A) (hg : Gl X x)
    (ha : PA X (e :: es) t) (hdb : (x == ("__debug__" : Str)) = false := by decide) (he : starEach (e :: es) X.env = (false, eval e X.env) :: starEach es X.env := by rfl) (hpl : (backTo pos (starEach es X.env)).any (·.1) = false := by rfl) :
    PE X (.Call (.Name x p) (e :: es) [] pos) (tCall sp [] E0 t) := by
  obtain ⟨f, fd, F, hm, hk, hb⟩ := D
  exact pe_call F hr hg hm hk hb .nil pass0 ha hdb he hpl
/-! ### heaps: tuples stay -/
def Tups (H H' : Hp) : Prop := ∀ b ys, H b = some (.tup ys) → H' b = some (.tup ys)
theorem Tups.refl (H : Hp) : Tups H H := fun _ _ h => h
theorem Tups.trans {H H1 H2 : Hp} (a : Tups H H1) (b : Tups H1 H2) : Tups H H2 := fun c o h => b c o (a c o h)
theorem Tups.of {H H' : Hp} (h : Same H H') : Tups H H' := fun b ys e => h b _ e
theorem same_new {H : Hp} {p : Addr} {o : HO} (h : H p = none) : Same H (upd H p o) := fun b u e => by
  rw [upd_ne (ne_of_none e h)]
  exact e
theorem tups_new {H : Hp} {p : Addr} {o : HO} (h : H p = none) : Tups H (upd H p o) := .of (same_new h)
theorem tups_lst {H : Hp} {p : Addr} {xs : List V} {o : HO} (h : H p = some (.lst xs)) : Tups H (upd H p o) := fun b ys e => by
  rw [upd_ne (ne_of e h (by intro z; cases z))]
  exact e
/-- what is known through tuples alone -/
def Tame {α : Type} (R : Hp → Addr → α → Prop) : Prop := ∀ H H' a x, Tups H H' → R H a x → R H' a x
/-- the list at p holds the things xs -/
structure LsAt {α : Type} (R : Hp → Addr → α → Prop) (H : Hp) (p : Addr) (xs : List α) (as : List Addr) : Prop where
  lst : H p = some (.lst (as.map V.ref))
  len : as.length = xs.length
  at_ : ∀ (j : Nat) (a : Addr) (x : α), as[j]? = some a → xs[j]? = some x → R H a x
def Ls {α : Type} (R : Hp → Addr → α → Prop) (H : Hp) (p : Addr) (xs : List α) : Prop := ∃ as, LsAt R H p xs as
section
variable {α : Type} {R : Hp → Addr → α → Prop}
theorem LsAt.same {H H' : Hp} {p : Addr} {xs : List α} {as : List Addr} (t : Tame R) (h : LsAt R H p xs as) (s : Same H H') : LsAt R H' p xs as :=
  ⟨s _ _ h.lst, h.len, fun j a x ha hx => t _ _ _ _ (.of s) (h.at_ j a x ha hx)⟩
theorem Ls.same {H H' : Hp} {p : Addr} {xs : List α} (t : Tame R) (h : Ls R H p xs) (s : Same H H') : Ls R H' p xs := let ⟨as, q⟩ := h; ⟨as, q.same t s⟩
theorem LsAt.nil {H : Hp} {p : Addr} : LsAt R (upd H p (.lst [])) p [] [] := ⟨upd_same, rfl, fun j a x h => by simp at h⟩
/-- one more at the end: the list alone is rewritten -/
theorem LsAt.snoc {H H4 : Hp} {p c : Addr} {xs : List α} {as : List Addr} {x : α} (t : Tame R) (h : LsAt R H p xs as) (s : Same H H4) (hc : R H4 c x) : LsAt R (upd H4 p (.lst ((as ++ [c]).map V.ref))) p (xs ++ [x]) (as ++ [c]) := by
  have tp : Tups H4 (upd H4 p (.lst ((as ++ [c]).map V.ref))) := tups_lst (s _ _ h.lst)
  refine ⟨upd_same, by simp [h.len], fun j a y ha hy => ?_⟩
  by_cases hj : j < as.length
  · rw [List.getElem?_append_left hj] at ha
    rw [List.getElem?_append_left (by rw [← h.len]; exact hj)] at hy
    exact t _ _ _ _ ((Tups.of s).trans tp) (h.at_ j a y ha hy)
  · have e : j = as.length := by
      have := (List.getElem?_eq_some_iff.mp ha).1
      simp at this
      omega
    subst e
    have ha' : c = a := by simpa using ha
    have hy' : x = y := by rw [h.len] at hy; simpa using hy
    subst ha' hy'
    exact t _ _ _ _ tp hc
/-- the thing at a place -/
theorem LsAt.get {H : Hp} {p : Addr} {xs : List α} {as : List Addr} (h : LsAt R H p xs as) {j : Nat} {x : α} (hx : xs[j]? = some x) : ∃ a, as[j]? = some a ∧ R H a x := by
  have hj : j < as.length := by rw [h.len]; exact (List.getElem?_eq_some_iff.mp hx).1
  exact ⟨_, List.getElem?_eq_getElem hj, h.at_ j _ x (List.getElem?_eq_getElem hj) hx⟩
theorem LsAt.item {H : Hp} {p : Addr} {xs : List α} {as : List Addr} (h : LsAt R H p xs as) {j : Nat} {v : V} (hv : (as.map V.ref)[j]? = some v) : ∃ a x, v = .ref a ∧ as[j]? = some a ∧ xs[j]? = some x ∧ R H a x := by
  rw [List.getElem?_map] at hv
  cases e : as[j]? with
  | none => rw [e] at hv; cases hv
  | some a =>
    rw [e] at hv
    have hj : j < xs.length := by rw [← h.len]; exact (List.getElem?_eq_some_iff.mp e).1
    exact ⟨a, xs[j], (Option.some.inj hv).symm, rfl, List.getElem?_eq_getElem hj, h.at_ j a _ e (List.getElem?_eq_getElem hj)⟩
theorem LsAt.mlen {H : Hp} {p : Addr} {xs : List α} {as : List Addr} (h : LsAt R H p xs as) : (as.map V.ref).length = xs.length := by rw [List.length_map]; exact h.len
end
theorem map_ref_get {as : List Addr} {j : Nat} {a : Addr} (h : as[j]? = some a) : (as.map V.ref)[j]? = some (V.ref a) := by rw [List.getElem?_map, h]; rfl
theorem map_int_get {ns : List Int} {j : Nat} {z : Int} (h : ns[j]? = some z) : (ns.map V.int)[j]? = some (V.int z) := by rw [List.getElem?_map, h]; rfl
/-! ### places and steps -/
def PtAt (H : Hp) (a : Addr) (q : Rg.Pt) : Prop := H a = some (.tup [.int q.x, .int q.y])
theorem tame_pt : Tame PtAt := fun _ _ _ _ t h => t _ _ h
def StAt (H : Hp) (a : Addr) (q : Rg.Pt × Rg.Pt) : Prop := ∃ b c, H a = some (.tup [.ref b, .ref c]) ∧ PtAt H b q.1 ∧ PtAt H c q.2
theorem tame_st : Tame StAt := fun _ _ _ _ t ⟨b, c, h, h1, h2⟩ => ⟨b, c, t _ _ h, t _ _ h1, t _ _ h2⟩
theorem PtAt.ix0 {K : PySem.W.Frag} {H : Hp} {a : Addr} {q : Rg.Pt} (h : PtAt H a q) : SqT K H a [.int q.x, .int q.y] := SqT.of h
theorem at0 {x y : V} : atI [x, y] 0 = some x := rfl
theorem at1 {x y : V} : atI [x, y] 1 = some y := rfl
/-- an index within a comprehension: the fragment is the outer one -/
theorem ixK {X : Cx} {K : PySem.W.Frag} (h : X.K = K) : IxR X (rIxL K) := h ▸ ix_list
theorem ixKt {X : Cx} {K : PySem.W.Frag} (h : X.K = K) : IxR X (rIxT K) := h ▸ ix_tup
theorem line (n : Nat) (h : n ≤ 1048576) : n < sizeLine := Nat.lt_of_le_of_lt h (by decide)
theorem ite_b {b : Bool} {A B : Prop} (h1 : b = true → A) (h2 : b = false → B) : if b = true then A else B := by
  cases b with
  | true => rw [if_pos rfl]; exact h1 rfl
  | false => rw [if_neg (by decide)]; exact h2 rfl
end Peg
set_option Elab.async false
set_option maxRecDepth 100000
set_option maxHeartbeats 2000000
namespace Peg
open PySem PySem.Spec
open PyProof.Rows hiding St
open L2
/-! ### rules that the layer lacks -/
theorem at_neg {xs : List V} {z : Int} {k : Nat} {v : V} (e : z = -(k : Int)) (h0 : 0 < k) (h1 : k ≤ xs.length) (h : xs[xs.length - k]? = some v) : atI xs z = some v := by
  have q : ixN xs.length z = some (xs.length - k) := by
    unfold ixN
    rw [if_neg (by omega), if_pos (by omega)]
    congr 1
    omega
  unfold atI
  rw [q]
  exact h
theorem eqvAll_ints : ∀ ns ms : List Int, PyData.eqvAll (ns.map PyData.int) (ms.map PyData.int) = decide (ns = ms)
  | [], [] => by simp [PyData.eqvAll]
  | [], _ :: _ => by simp [PyData.eqvAll]
  | _ :: _, [] => by simp [PyData.eqvAll]
  | a :: r, b :: t => by
    simp only [List.map_cons, PyData.eqvAll, PyData.eqv, eqvAll_ints r t]
    by_cases h : a = b <;> by_cases h' : r = t <;> simp [h, h']
theorem lay_ints : ∀ ns : List Int, PyData.canLayAll0 (ns.map PyData.int) = true
  | [] => rfl
  | _ :: r => by simp [PyData.canLayAll0, PyData.canLay0, lay_ints r]
theorem depth_ints : ∀ ns : List Int, PyData.depthAll (ns.map PyData.int) = 0
  | [] => rfl
  | _ :: r => by simp [PyData.depthAll, PyData.depth, depth_ints r]
theorem shaped_lst (ns : List Int) : SeqAt.shaped (.list (ns.map PyData.int)) = true := by
  simp [SeqAt.shaped, PyData.canLay0, PyData.depth, lay_ints, depth_ints]
theorem shaped_tup (ns : List Int) : SeqAt.shaped (.tuple (ns.map PyData.int)) = true := by
  simp [SeqAt.shaped, PyData.canLay0, PyData.depth, lay_ints, depth_ints]
theorem dp_ints {K : PySem.W.Frag} {H : Hp} : ∀ ns : List Int, DpAll K H (ns.map V.int) (ns.map PyData.int)
  | [] => .nil
  | n :: r => .cons (.int n) (dp_ints r)
section
variable {X : Cx}
/-- places, != -/
theorem op_nePt (hu : X.A.units + 64 < cLine) : OpR X (compareOp .NotEq) (fun x y H Q => ∃ (a b : Addr) (p q : Rg.Pt), x = .ref a ∧ y = .ref b ∧ PtAt H a p ∧ PtAt H b q ∧ Q (.bl (!decide (p = q))) H) := by
  intro pins s σ H x y v u Q I rx ry h
  obtain ⟨a, b, p, q, rfl, rfl, ha, hb, k⟩ := h
  refine op_neD hu pins s σ H _ _ v u Q I rx ry ⟨.tuple ([p.x, p.y].map PyData.int), .tuple ([q.x, q.y].map PyData.int), .tup (SqT.of ha) (dp_ints [p.x, p.y]), .tup (SqT.of hb) (dp_ints [q.x, q.y]), shaped_tup _, shaped_tup _, ?_⟩
  have e : PyData.eqv (.tuple ([p.x, p.y].map PyData.int)) (.tuple ([q.x, q.y].map PyData.int)) = decide (p = q) := by
    show PyData.eqvAll _ _ = _
    rw [eqvAll_ints]
    refine decide_eq_decide.mpr ?_
    cases p
    cases q
    simp
  rw [e]
  exact k
/-- lists of ints, == -/
theorem op_eqL (hu : X.A.units + 64 < cLine) : OpR X (compareOp .Eq) (fun x y H Q => ∃ (a b : Addr) (ns ms : List Int), x = .ref a ∧ y = .ref b ∧ H a = some (.lst (ns.map V.int)) ∧ H b = some (.lst (ms.map V.int)) ∧ Q (.bl (decide (ns = ms))) H) := by
  intro pins s σ H x y v u Q I rx ry h
  obtain ⟨a, b, ns, ms, rfl, rfl, ha, hb, k⟩ := h
  refine op_eqD hu pins s σ H _ _ v u Q I rx ry ⟨.list (ns.map PyData.int), .list (ms.map PyData.int), .lst (SqL.of ha) (dp_ints ns), .lst (SqL.of hb) (dp_ints ms), shaped_lst _, shaped_lst _, ?_⟩
  have e : PyData.eqv (.list (ns.map PyData.int)) (.list (ms.map PyData.int)) = decide (ns = ms) := by
    show PyData.eqvAll _ _ = _
    rw [eqvAll_ints]
  rw [e]
  exact k
/-- min and max of a list of ints -/
theorem call_minL (hc : X.calm = true) : CallR X (.builtin "min") (fun xs H Q => ∃ (a : Addr) (ns : List Int), xs = [.ref a] ∧ SqL X.K H a (ns.map V.int) ∧ 0 < ns.length ∧ ∀ M : Int, M ∈ ns → (∀ b ∈ ns, M ≤ b) → Q (.int M) H) := by
  intro pins s σ H xs us Q I r h
  obtain ⟨a, ns, rfl, hs, hne, q⟩ := h
  obtain ⟨its, rv, hl, _⟩ := I.list hs
  rw [Vals.ref1 r]
  have hi := rv.ints
  obtain ⟨zs, e⟩ := hi.allInts.items
  have hns : ns = zs.toList.map (·.1) := by
    rw [← hi.numsOf, ← nums_intItems, ← e]
  have hsz : 0 < zs.size := by
    have h3 := hne
    rw [hns, List.length_map, Array.length_toList] at h3
    exact h3
  have hl' := hl.isList
  rw [e] at hl'
  refine min_intList (I.ok.hd hc) hl' hsz fun v h' tk hv hk => ?_
  obtain ⟨t, rfl⟩ := intItems_at hv
  obtain ⟨h1, h2⟩ := argBest_lt (numAt zs) (zs.size - 1)
  refine ⟨.int _, H, I.kept hk, ⟨_, rfl⟩, q _ ?_ fun b hb => ?_⟩
  · rw [hns, numAt_eq]
    exact getD_mem (by rw [List.length_map, Array.length_toList]; omega)
  · rw [hns] at hb
    obtain ⟨j, hj, rfl⟩ := mem_getD hb
    rw [List.length_map, Array.length_toList] at hj
    rw [← numAt_eq]
    exact h2 j (by omega)
theorem call_maxL (hc : X.calm = true) : CallR X (.builtin "max") (fun xs H Q => ∃ (a : Addr) (ns : List Int), xs = [.ref a] ∧ SqL X.K H a (ns.map V.int) ∧ 0 < ns.length ∧ ∀ M : Int, M ∈ ns → (∀ b ∈ ns, b ≤ M) → Q (.int M) H) := by
  intro pins s σ H xs us Q I r h
  obtain ⟨a, ns, rfl, hs, hne, q⟩ := h
  obtain ⟨its, rv, hl, _⟩ := I.list hs
  rw [Vals.ref1 r]
  have hi := rv.ints
  obtain ⟨zs, e⟩ := hi.allInts.items
  have hns : ns = zs.toList.map (·.1) := by
    rw [← hi.numsOf, ← nums_intItems, ← e]
  have hsz : 0 < zs.size := by
    have h3 := hne
    rw [hns, List.length_map, Array.length_toList] at h3
    exact h3
  have hl' := hl.isList
  rw [e] at hl'
  refine max_intList (I.ok.hd hc) hl' hsz fun v h' tk hv hk => ?_
  obtain ⟨t, rfl⟩ := intItems_at hv
  obtain ⟨h1, h2⟩ := argBest_gt (numAt zs) (zs.size - 1)
  refine ⟨.int _, H, I.kept hk, ⟨_, rfl⟩, q _ ?_ fun b hb => ?_⟩
  · rw [hns, numAt_eq]
    exact getD_mem (by rw [List.length_map, Array.length_toList]; omega)
  · rw [hns] at hb
    obtain ⟨j, hj, rfl⟩ := mem_getD hb
    rw [List.length_map, Array.length_toList] at hj
    rw [← numAt_eq]
    exact h2 j (by omega)
theorem flat_ints (ns : List Int) : (ns.map V.int).all flatV = true := by
  rw [List.all_eq_true]
  intro v hv
  obtain ⟨z, _, rfl⟩ := List.mem_map.mp hv
  rfl
theorem count_ints {z : Int} : ∀ {ns : List Int} {us : List Value}, Vals (ns.map V.int) us → us.countP (eqU (.int z)) = ns.count z
  | [], us, h => by
    rw [List.map_nil] at h
    cases h
    rfl
  | n :: ns, us, h => by
    rw [List.map_cons] at h
    cases h with
    | cons r t =>
      rw [List.countP_cons, List.count_cons, count_ints t, eqU_of r rfl]
      rfl
/-- how often an int stands in a list of ints -/
theorem mt_countI : MtR X "list.count" (fun x xs H Q => ∃ (a : Addr) (ns : List Int) (z : Int), x = V.ref a ∧ xs = [V.int z] ∧ SqL X.K H a (ns.map V.int) ∧ Q (.int ((ns.count z : Nat) : Int)) H) := by
  intro pins s σ H x xs v us Q I rx rxs h
  obtain ⟨a, ns, z, rfl, rfl, hs, q⟩ := h
  cases rx
  cases rxs with
  | cons ry rt =>
    rename_i uy ut
    cases rt
    obtain ⟨its, rv, ⟨⟨cls, dd, data, sl⟩, n, ho, hc, hdn, hd⟩, hlen⟩ := I.list hs
    simp only at hc hd
    subst hc hd
    refine call_meets PySem.F.slot_list_count ⟨_, ho, rfl⟩ PySem.F.entry_list_count (PySem.F.args_list_count_2 _ _)
      (SeqAt.list_countAt a its.toArray n dd sl uy (eqU (.int z))) ⟨ho, fun u' hu' => mem_eqAt ry rfl rv (flat_ints ns) u' (by simpa using hu'), ?_⟩
    have e : its.toArray.toList.countP (eqU (.int z)) = ns.count z := count_ints rv
    rw [e]
    exact ⟨.int ((ns.count z : Nat) : Int), H, I.tok _, ⟨_, rfl⟩, q⟩
/-- a list goes on by a tuple's items -/
theorem extend_tup (l b : Addr) (its its2 : Array Value) (n n2 : Nat) (hz : its.size + its2.size ≤ sizeLine) : Meets (Builtin.«list.extend» ⟨[.ref l, .ref b], []⟩)
    (fun _ R s => s.heap.get? l = some { cls := .type "list", dict := none, data := .seq its n, slots := #[] } ∧ (∃ o, s.heap.get? b = some o ∧ o.cls = .type "tuple" ∧ o.data = .seq its2 n2) ∧ R (.ok (.ret .none)) { s with heap := s.heap.update l (Obj.mapSeq fun x => x ++ its2) }) := by
  intro prog w A R s h
  obtain ⟨hl, ⟨o, ho, hc, hd⟩, h⟩ := h
  unfold Builtin.«list.extend»
  refine wpAny_bind (wpAny_of_eq (a := (Value.ref l, Value.ref b)) rfl ?_)
  show wpAny _ _ (Builtin.List.listExtendWith (.ref l) (.ref b) .none) _ _ _
  unfold Builtin.List.listExtendWith
  refine wpAny_bind (wpAny_typeOf ⟨o, ho, hc⟩ ?_)
  have h1 : (Builtin.List.listSameRef (.ref l) (.ref b) || Value.type "tuple" == Value.type "list" || Value.type "tuple" == Value.type "tuple") = true := by simp
  simp only [h1, if_true]
  refine wpAny_bind ?_
  unfold Builtin.List.listItems
  refine wpAny_bind (wpAny_seqItems ho hd (wpAny_pure ?_))
  refine wpAny_bind ?_
  refine wpAny_bind (wpAny_seqItems hl rfl (wpAny_pure ?_))
  have h2 : (!its.isEmpty && Builtin.List.listTooLong (its.size + its2.size)) = false := by rw [notLongL hz, Bool.and_false]
  simp only [h2, Bool.false_eq_true, if_false]
  show wpAny _ A.in1 (updateSeq l (· ++ its2) >>= fun _ => ret .none) _ _ s
  refine wpAny_bind (wpAny_updateSeq hl rfl ?_ (hz := by omega) (_hz' := by rw [Array.size_append]; omega))
  exact wpAny_pure h
def rExtendT : V → List V → Hp → VK → Prop := fun x vs H Q => ∃ l b xs zs, x = .ref l ∧ vs = [.ref b] ∧ H l = some (.lst xs) ∧ H b = some (.tup zs) ∧ xs.length + zs.length ≤ sizeLine ∧ Q .non (upd H l (.lst (xs ++ zs)))
theorem mt_extendT : MtM X "list.extend" rExtendT := by
  intro pins s σ H x vs v us Q I rx rv h
  obtain ⟨l, b, xs, zs, rfl, rfl, hH, hB, hz, q⟩ := h
  cases rx
  obtain ⟨u, rfl, ru⟩ := rv.one
  cases ru
  obtain ⟨z, its, n, r, hl, e⟩ := I.lstM hH
  obtain ⟨z2, its2, r2, o, ho, hc, n2, hd⟩ := I.hok b _ hB
  have hl2 := r2.length
  have hsz : its.toArray.size + its2.toArray.size ≤ sizeLine := by rw [List.size_toArray, List.size_toArray]; omega
  refine call_meets F.slot_list_extend ⟨_, e, rfl⟩ F.entry_list_extend (F.args_list_extend_2 _ _) (extend_tup l b its.toArray its2.toArray n n2 hsz) ⟨e, ⟨o, ho, hc, hd⟩, ?_⟩
  refine ⟨.non, _, I.lset (its' := its ++ its2) (t' := s.toks) hH e (by simp) (r.append r2) ?_, rfl, q⟩
  rw [List.length_append]
  omega
end
end Peg
set_option Elab.async false
set_option maxRecDepth 100000
set_option maxHeartbeats 2000000
namespace Peg
open PySem PySem.Spec
open PyProof.Rows hiding St
open L2
/-! ### list(reversed(xs)) -/
theorem nolen_lri : typeLookup (.type "list_reverseiterator") "__len__" = pure none := by rw [typeLookup_type, builtinLookup_eq_fast]; kernel_rfl
theorem hint_lri : typeLookup (.type "list_reverseiterator") "__length_hint__" = pure (some (.builtin "list_reverseiterator.__length_hint__")) := by rw [typeLookup_type, builtinLookup_eq_fast]; kernel_rfl
section
variable {prog : Program} {w : World} {A : Around} {E : Value → Shared → Prop} {s : Shared}
theorem extend_rev {R : Result → Shared → Prop} (hh : A.handled = none) {it l S : Addr} {items : Array Value} (res : Value) (c₀ : Nat) (hit : s.heap.IsRevIter it l ((items.size : Int) - 1)) (hl : s.heap.IsList l items) (hne : l ≠ it)
    (hS : s.heap.get? S = some { cls := .type "list", data := .seq #[] c₀ }) (h1 : S ≠ it) (h2 : S ≠ l) (hn : items.size ≤ sizeLine)
    (hR : ∀ s' acc' c', Moved [S, it] (fun a b => b = a) s s' → s'.heap.get? S = some { cls := .type "list", dict := none, data := .seq acc' c', slots := #[] } → ItemsOf (fun i v => items[items.size - 1 - i]? = some v) acc' items.size → R (.ok (.ret res)) s') :
    wpAny (model prog w) A.in1 (Builtin.List.listExtendWith (.ref S) (.ref it) res)
      (fun fin s' => match fin with | .done f => R (.ok f) s' | .again c' => c'.quiet = true ∧ codeAny (model prog w) A c' R s') (fun e s' => R (.error e) s') s := by
  have W := (Walks.listRev (prog := prog) (w := w) (A := A.in1) hh it l hne items).toS
  have hSf : S ∉ [it, l] := fun hm => by
    rcases List.mem_cons.mp hm with e | hm
    · exact h1 e
    · exact h2 (List.mem_singleton.mp hm)
  have hst : 0 ≤ items.size ∧ s.heap.IsRevIter it l ((items.size : Int) - 1 - ((0 : Nat) : Int)) ∧ s.heap.IsList l items := ⟨Nat.zero_le _, by simpa using hit, hl⟩
  have hT := hit.typeIs
  unfold Builtin.List.listExtendWith
  refine wpAny_bind (wpAny_typeOf hT ?_)
  have e1 : Builtin.List.listSameRef (.ref S) (.ref it) = false := by simp [Builtin.List.listSameRef, h1]
  rw [if_neg (by rw [e1]; decide)]
  refine wpAny_bind (W.self 0 _ _ _ hst ?_)
  refine wpAny_bind (wpAny_holding ?_)
  unfold Builtin.List.listLengthHint
  refine wpAny_bind (wpAny_specialOf hT nolen_lri ?_)
  show wpAny _ A.in1 (specialOf (Value.ref it) (Str.ofString "__length_hint__") >>= _) _ _ _
  refine wpAny_bind (wpAny_specialOf hT hint_lri ?_)
  generalize hid : ("list_reverseiterator.__length_hint__" : String) = id0
  wp_delta
  rw [show splitId id0 = some ("list_reverseiterator", "__length_hint__") from by subst hid; decide +kernel]
  subst hid
  refine wpAny_bind (wpAny_isInstance (b := true) hT (by rw [isSubtype_type]; kernel_rfl) ?_)
  refine wpAny_pure ?_
  rw [if_neg (by decide)]
  exact wpAny_pure ⟨plainId_quiet F.plain_extend_loop _, codeAny_extend_loopS W hn S hSf res items.size 0 s #[] c₀ rfl (Nat.zero_le _) hst hS (ItemsOf.nil _) hR⟩
theorem call_list_rev {Q : Value → Shared → Prop} (hh : A.handled = none) {it l : Addr} {items : Array Value} (hit : s.heap.IsRevIter it l ((items.size : Int) - 1)) (hl : s.heap.IsList l items) (hne : l ≠ it) (hn : items.size ≤ sizeLine)
    (hQ : ∀ h' tk acc' c', (∀ b o, b ≠ it → s.heap.get? b = some o → h'.get? b = some o) → h'.get? s.heap.objs.size = some { cls := .type "list", dict := none, data := .seq acc' c', slots := #[] } →
      ItemsOf (fun i v => items[items.size - 1 - i]? = some v) acc' items.size → Q (.ref s.heap.objs.size) { s with heap := h', toks := tk }) :
    wpAny (model prog w) A (call (.type "list") [.ref it]) Q E s := by
  refine callType_codes (Q₁ := fun obj s₁ => obj = .ref s.heap.objs.size ∧ s₁ = { s with heap := s.heap.push { cls := .type "list", data := .seq #[] } }) F.called_list (F.typeCall_list_1 _) F.entry_list_init
    (code_list_new _ ⟨rfl, rfl⟩) fun obj s₁ h₁ => ?_
  obtain ⟨rfl, rfl⟩ := h₁
  have hS : (s.heap.push { cls := .type "list", data := .seq #[] }).get? s.heap.objs.size = some { cls := .type "list", data := .seq #[] } := Heap.get?_push_size _ rfl
  have iS : s.heap.objs.size ≠ it := by
    obtain ⟨o, ho, _⟩ := hit
    exact Ne.symm (Nat.ne_of_lt (Heap.lt_size ho))
  have lS : s.heap.objs.size ≠ l := by
    obtain ⟨o, ho, _⟩ := hl
    exact Ne.symm (Nat.ne_of_lt (Heap.lt_size ho))
  refine ⟨⟨_, hS, rfl⟩, F.args_list_init_2 _ _, ?_⟩
  show wpAny _ _ (do let old ← Builtin.List.listItems (.ref s.heap.objs.size); Builtin.List.listUpdate (.ref s.heap.objs.size) (fun _ => #[]); letGo old.toList.reverse; Builtin.List.listExtendWith (.ref s.heap.objs.size) (.ref it) .none) _ _ _
  refine wpAny_bind ?_
  unfold Builtin.List.listItems
  refine wpAny_bind (wpAny_seqItems hS rfl (wpAny_pure ?_))
  show wpAny _ _ (updateSeq s.heap.objs.size (fun _ => #[]) >>= fun _ => letGo (#[] : Array Value).toList.reverse >>= fun _ => Builtin.List.listExtendWith (.ref s.heap.objs.size) (.ref it) .none) _ _ _
  refine wpAny_bind (wpAny_updateSeq hS rfl ?_)
  have hS₂ := Heap.get?_update_self (Obj.mapSeq (fun _ => (#[] : Array Value))) hS rfl
  have oth : ∀ b o, s.heap.get? b = some o → ((s.heap.push { cls := .type "list", data := .seq #[] }).update s.heap.objs.size (Obj.mapSeq (fun _ => (#[] : Array Value)))).get? b = some o :=
    fun b o e => (Heap.get?_update_other _ _ (Ne.symm (Nat.ne_of_lt (Heap.lt_size e)))).trans (Heap.get?_push_of_some _ e)
  refine wpAny_bind (wpAny_letGo ?_)
  have hit2 := hit.at (h' := (s.heap.push { cls := .type "list", data := .seq #[] }).update s.heap.objs.size (Obj.mapSeq (fun _ => (#[] : Array Value)))) fun o e => oth _ _ e
  have hl2 : ((s.heap.push { cls := .type "list", data := .seq #[] }).update s.heap.objs.size (Obj.mapSeq (fun _ => (#[] : Array Value)))).IsList l items := by
    obtain ⟨o, ho, r⟩ := hl
    exact ⟨o, oth _ _ ho, r⟩
  refine extend_rev (A := A.in1) hh .none _ hit2 hl2 hne hS₂ iS lS hn fun s' acc' c' hm hS' hacc => ?_
  rw [Moved.eq_with hm]
  refine ⟨rfl, hQ s'.heap s'.toks acc' c' (fun b o hb e => hm.heap b o (fun hmem => ?_) (oth b o e)) hS' hacc⟩
  rcases List.mem_cons.mp hmem with e' | hmem
  · exact absurd (Heap.lt_size e) (by rw [e']; exact Nat.lt_irrefl _)
  · exact hb (List.mem_singleton.mp hmem)
end
theorem items_rev {its : List Value} {acc : Array Value} (h : ItemsOf (fun i v => its.toArray[its.toArray.size - 1 - i]? = some v) acc its.toArray.size) : acc = its.reverse.toArray := by
  have e : acc.toList = its.reverse := by
    apply List.ext_getElem?
    intro i
    have hs : acc.toList.length = its.length := by
      have := h.1
      simpa using this
    by_cases hi : i < its.length
    · have hv : acc[i]? = some acc.toList[i] := by
        rw [← Array.getElem?_toList]
        exact List.getElem?_eq_getElem (by omega)
      have q := h.2 i _ hv
      rw [List.getElem?_eq_getElem (by omega), List.getElem?_reverse hi]
      have q2 : its[its.length - 1 - i]? = some acc.toList[i] := by simpa using q
      rw [q2]
    · rw [List.getElem?_eq_none (by omega), List.getElem?_eq_none (by rw [List.length_reverse]; omega)]
  rw [← e]
theorem bt_list : bootBuiltins "list" = some (.type "list") := by decide +kernel
def tListRev (K : PySem.W.Frag) (te : TE) : TE := fun σ H Q => te σ H fun x H1 => ∃ (a : Addr) (ys : List V), x = .ref a ∧ SqL K H1 a ys ∧ ∀ l, H1 l = none → Q (.ref l) (upd H1 l (.lst ys.reverse))
theorem pe_listRev {X : Cx} {e : Expr} {te : TE} {q0 q1 q2 pos : Pos} (hgl : Gl X "list") (hml : X.mg "list" = none) (hgr : Gl X "reversed") (hmr : X.mg "reversed" = none) (he : PE X e te) (hc : X.calm = true)
    (hs : starEach [e] X.env = [(false, eval e X.env)] := by rfl)
    (hs2 : starEach [.Call (.Name "reversed" q1) [e] [] q2] X.env = [(false, eval (.Call (.Name "reversed" q1) [e] [] q2) X.env)] := by rfl) :
    PE X (.Call (.Name "list" q0) [.Call (.Name "reversed" q1) [e] [] q2] [] pos) (tListRev X.K te) := by
  intro pins s σ H Q I h
  refine wpAny_Call_Name_kw (ld_blt I hgl hml bt_list (PyProof.Rows.callWith_type1 ?_ hs2 rfl))
  rw [hs2]
  refine Calls.spliced_cons ?_
  let G : V → Hp → Prop := fun x H1 => ∃ (a : Addr) (ys : List V), x = .ref a ∧ SqL X.K H1 a ys ∧ ∀ l, H1 l = none → Q (.ref l) (upd H1 l (.lst ys.reverse))
  have h2 : (tCons te tNil) σ H (fun vs H1 => match vs with | [x] => G x H1 | _ => False) := h
  refine Call_ (ld_blt I hgr hmr boot_reversed5 (PyProof.Rows.callWith_type1 (thn ((pa_cons he pa_nil hs) q2 pins s σ H _ I h2) fun us s1 ⟨vs, H1, I1, r1, q1⟩ => ?_) hs rfl))
  match vs, r1, q1 with
  | [], _, q1 => exact q1.elim
  | _ :: _ :: _, _, q1 => exact q1.elim
  | [x], r1, q1 =>
  obtain ⟨a, ys, rfl, hq, k⟩ := q1
  rw [Vals.ref1 r1]
  obtain ⟨its, rv, p', hz⟩ := I1.list hq
  have hlen := rv.length
  refine call_reversed_list p'.isList (Calls.spliced_nil ?_)
  have hne : a ≠ s1.heap.objs.size := by
    obtain ⟨o, ho, _⟩ := p'.isList
    exact Nat.ne_of_lt (Heap.lt_size ho)
  refine call_list_rev (I1.ok.hd hc) (it := s1.heap.objs.size) (l := a) (items := its.toArray) ⟨_, Heap.get?_push_size _ rfl, rfl, rfl⟩ (p'.isList.push _) hne (by rw [List.size_toArray]; omega) fun h' tk acc' c' hk hS hacc => ?_
  have ea := items_rev hacc
  subst ea
  have kp : ∀ b o, s1.heap.get? b = some o → h'.get? b = some o := fun b o e => hk b o (Nat.ne_of_lt (Heap.lt_size e)) (Heap.get?_push_of_some _ e)
  have hge : s1.heap.objs.size ≤ (s1.heap.push (revObj a ((its.toArray.size : Int) - 1))).objs.size := by rw [Heap.size_push]; omega
  exact ⟨.ref _, _, I1.laid (t' := tk) kp hge (show ObjOk X.prog X.w _ h' _ (.lst ys.reverse) from ⟨by rw [List.length_reverse]; exact hz, its.reverse, c', rv.reverse, hS⟩), rfl, k _ (I1.hok.fresh hge)⟩
end Peg
namespace Peg
open Rg
/-! ### a way turned round, and ways one behind another -/
def neg1 (l : List Int) : List Int := l.reverse.map fun z => -z
def zw (ms : Marks) (w : Way) : List Int := (w.zip w.tail).flatMap fun s => lettersOf ms s.1 s.2
theorem lettersOf_self (ms : Marks) (a : Pt) : lettersOf ms a a = [] := by
  unfold lettersOf
  rw [letters_self]
  rfl
theorem wordN_zw (ms : Marks) (w : Way) : wordN ms w = zw ms w := by
  unfold wordN zw
  match w with
  | [] => rfl
  | [a] =>
    show lettersOf ms a a ++ [] = []
    rw [lettersOf_self]
    rfl
  | _ :: _ :: _ => rfl
theorem zw_cons (ms : Marks) (a b : Pt) (r : Way) : zw ms (a :: b :: r) = lettersOf ms a b ++ zw ms (b :: r) := rfl
theorem zw_one (ms : Marks) (a : Pt) : zw ms [a] = [] := rfl
theorem zw_app (ms : Marks) (x : Pt) (r : Way) : ∀ l : Way, zw ms (l ++ x :: r) = zw ms (l ++ [x]) ++ zw ms (x :: r)
  | [] => by
    show _ = [] ++ _
    rfl
  | [a] => by
    show zw ms (a :: x :: r) = zw ms [a, x] ++ _
    rw [zw_cons, zw_cons, zw_one, List.append_nil]
  | a :: b :: l => by
    show zw ms (a :: b :: (l ++ x :: r)) = zw ms (a :: b :: (l ++ [x])) ++ _
    rw [zw_cons, zw_cons, List.append_assoc]
    congr 1
    exact zw_app ms x r (b :: l)
theorem east_ex (ms : Marks) : ∃ es, East ms es := ⟨(List.range ms.length).foldr (insertBy ms) [], sort_perm ms _, sort_sorted List.nodup_range fun x hx => List.mem_range.mp hx⟩
theorem letters_level {ms : Marks} {a b : Pt} (h : a.x = b.x) : lettersOf ms a b = [] := by
  obtain ⟨es, E⟩ := east_ex ms
  rw [letters_east E (by omega)]
  have : es.filter (hitE ms a b) = [] := filter_none fun k _ => by
    unfold hitE
    cases ms[k]? with
    | none => rfl
    | some m =>
      show isCrossed m a b = false
      unfold isCrossed
      by_cases h1 : a.x < m.x
      · rw [decide_eq_false (by omega : ¬ m.x ≤ b.x), Bool.false_and, Bool.and_false]
      · rw [decide_eq_false h1, Bool.false_and]
  rw [this]
  rfl
theorem letters_lt {ms : Marks} {a b : Pt} (h : a.x < b.x) : lettersOf ms b a = neg1 (lettersOf ms a b) := by
  obtain ⟨es, E⟩ := east_ex ms
  unfold neg1
  rw [letters_west E h, letters_east E (by omega), List.filter_reverse, ← List.map_reverse, List.map_map]
  rfl
theorem neg1_neg1 (l : List Int) : neg1 (neg1 l) = l := by
  unfold neg1
  rw [← List.map_reverse, List.reverse_reverse, List.map_map]
  have : ((fun z : Int => -z) ∘ fun z => -z) = id := by
    funext z
    show - -z = z
    omega
  rw [this, List.map_id]
theorem letters_back (ms : Marks) (a b : Pt) : lettersOf ms b a = neg1 (lettersOf ms a b) := by
  by_cases h1 : a.x < b.x
  · exact letters_lt h1
  · by_cases h2 : b.x < a.x
    · rw [letters_lt h2, neg1_neg1]
    · rw [letters_level (by omega), letters_level (by omega)]
      rfl
theorem neg1_app (u v : List Int) : neg1 (u ++ v) = neg1 v ++ neg1 u := by
  unfold neg1
  rw [List.reverse_append, List.map_append]
theorem zw_rev (ms : Marks) : ∀ w : Way, zw ms w.reverse = neg1 (zw ms w)
  | [] => rfl
  | [_] => rfl
  | a :: b :: r => by
    have e : (a :: b :: r).reverse = r.reverse ++ b :: [a] := by simp
    have e2 : r.reverse ++ [b] = (b :: r).reverse := by simp
    rw [e, zw_app, e2, zw_rev ms (b :: r), zw_cons, zw_one, List.append_nil, zw_cons, neg1_app, letters_back ms a b]
/-- a turned round with b behind it -/
theorem left_word {ms : Marks} {w v : Way} (hw : 1 ≤ w.length) (hv : 1 ≤ v.length) (h : w.head? = v.head?) : wordN ms (w.reverse ++ v) = (wordN ms w).reverse.map (fun z => -z) ++ wordN ms v := by
  match w, v, hw, hv, h with
  | x :: w, y :: v, _, _, h =>
    obtain rfl : x = y := Option.some.inj h
    have e : (x :: w).reverse ++ x :: v = w.reverse ++ x :: x :: v := by simp
    have e2 : w.reverse ++ [x] = (x :: w).reverse := by simp
    rw [wordN_zw, wordN_zw, wordN_zw, e, zw_app, e2, zw_rev, zw_cons, lettersOf_self]
    rfl
theorem left_str {ms : Marks} {w v : Way} (hw : 1 ≤ w.length) (hv : 1 ≤ v.length) (h : w.head? = v.head?) : strN ms (w.reverse ++ v) = pullN ((wordN ms w).reverse.map (fun z => -z) ++ wordN ms v) := by
  unfold strN
  rw [left_word hw hv h]
end Peg
set_option Elab.async false
set_option maxRecDepth 100000
set_option maxHeartbeats 4000000
namespace Peg
open PySem PySem.Spec PyProof.Rows
/-! ### sorted(range(n), key = f), f a def that gives a pair of ints: by the heap alone -/
/-- all that stood there stands there -/
def Kp (h h' : Heap) : Prop := ∀ b o, h.get? b = some o → h'.get? b = some o
theorem Kp.refl (h : Heap) : Kp h h := fun _ _ e => e
theorem Kp.trans {h h' h'' : Heap} (a : Kp h h') (b : Kp h' h'') : Kp h h'' := fun x o e => b x o (a x o e)
theorem Kp.push (h : Heap) (x : Obj) : Kp h (h.push x) := fun _ _ e => Heap.get?_push_of_some _ e
theorem kp_new {h h' h'' : Heap} {a : Addr} (k : Kp h h') (ha : h.objs.size ≤ a) (sb : Heap.SameBut a h' h'') : Kp h h'' := fun b o e =>
  (sb.2 b (Nat.ne_of_lt (Nat.lt_of_lt_of_le (Heap.lt_size e) ha))).trans (k b o e)
/-- a pair of ints as a key -/
def KeyAt (h : Heap) (x y : Int) (v : Value) : Prop := ∃ T t1 t2, v = .ref T ∧ h.get? T = some { cls := .type "tuple", data := .seq #[.int x t1, .int y t2] }
theorem KeyAt.keep {h h' : Heap} {x y : Int} {v : Value} (k : KeyAt h x y v) (kp : ∀ b o, h.get? b = some o → o.cls = .type "tuple" → h'.get? b = some o) : KeyAt h' x y v := by
  obtain ⟨T, t1, t2, rfl, e⟩ := k
  exact ⟨T, t1, t2, rfl, kp _ _ e rfl⟩
def Keys (h : Heap) (xs : Nat → Int) : Nat → List Value → Prop
  | _, [] => True
  | i, v :: r => KeyAt h (xs i) i v ∧ Keys h xs (i + 1) r
theorem Keys.keep {h h' : Heap} {xs : Nat → Int} (kp : ∀ b o, h.get? b = some o → o.cls = .type "tuple" → h'.get? b = some o) : ∀ {i : Nat} {vs : List Value}, Keys h xs i vs → Keys h' xs i vs
  | _, [], _ => trivial
  | _, _ :: _, ⟨a, b⟩ => ⟨a.keep kp, Keys.keep kp b⟩
theorem Keys.snoc {h : Heap} {xs : Nat → Int} {v : Value} : ∀ {i : Nat} {vs : List Value}, Keys h xs i vs → KeyAt h (xs (i + vs.length)) ((i + vs.length : Nat) : Int) v → Keys h xs i (vs ++ [v])
  | _, [], _, k => ⟨k, trivial⟩
  | i, u :: r, ⟨a, b⟩, k => ⟨a, Keys.snoc b (by rw [show i + 1 + r.length = i + (u :: r).length by rw [List.length_cons]; omega]; exact k)⟩
theorem Keys.get {h : Heap} {xs : Nat → Int} : ∀ {i : Nat} {vs : List Value} {j : Nat} {v : Value}, Keys h xs i vs → vs[j]? = some v → KeyAt h (xs (i + j)) ((i + j : Nat) : Int) v
  | _, [], _, _, _, e => by simp at e
  | i, u :: r, 0, v, ⟨a, _⟩, e => by
    obtain rfl : u = v := Option.some.inj e
    exact a
  | i, u :: r, j + 1, v, ⟨_, b⟩, e => by
    have := Keys.get b (show r[j]? = some v by simpa using e)
    rw [show i + 1 + j = i + (j + 1) by omega] at this
    exact this
abbrev sh0 : Nat → Bool := fun _ => false
theorem tupKey_at {h : Heap} {x y : Int} {v : Value} (k : KeyAt h x y v) : G.tupKeyC h sh0 v = some [Sum.inl x, Sum.inl y] := by
  obtain ⟨T, t1, t2, rfl, e⟩ := k
  have e1 : G.isTupObj h (.ref T) = true := by
    unfold G.isTupObj
    simp only [e]
    rfl
  unfold G.tupKeyC
  rw [if_pos e1]
  simp only [tupKey, e]
  rfl
theorem Keys.tups {h : Heap} {xs : Nat → Int} : ∀ {i : Nat} {vs : List Value}, Keys h xs i vs → ∃ fs, TupsOf h sh0 vs fs
  | _, [], _ => ⟨[], .nil⟩
  | i, v :: r, ⟨⟨T, t1, t2, e1, e2⟩, b⟩ => by
    obtain ⟨fs, hf⟩ := Keys.tups b
    exact ⟨.int (xs i) t1 :: fs, .cons ⟨T, _, _, _, e1, e2, rfl, rfl, rfl, fun _ => ⟨_, _, rfl⟩, fun z => nomatch z⟩ hf⟩
def natOf : Value → Nat
  | .int i _ => i.toNat
  | _ => 0
theorem ints_of {l : List Keyed} (h : ∀ p ∈ l, ∃ (a : Nat) (t : Tok), p.2 = .int (a : Nat) t) : IntsAre (l.map (·.2)) ((l.map fun p => natOf p.2).map fun k => ((k : Nat) : Int)) := by
  induction l with
  | nil => exact IntsAre.nil
  | cons p r ih =>
    obtain ⟨a, t, e⟩ := h p (List.mem_cons_self ..)
    have ih' := ih fun q hq => h q (List.mem_cons_of_mem _ hq)
    show IntsAre (p.2 :: r.map (·.2)) (((natOf p.2 : Nat) : Int) :: _)
    rw [e]
    exact IntsAre.cons _ _ ih'
theorem sort_facts {ks vs : List Value} {hk : Heap} {xs : Nat → Int} {n : Nat} {out : Array Keyed} (hl : ks.length = vs.length) (hlen : vs.length = n) (hvs : ∀ (j : Nat) x, vs[j]? = some x → ∃ t, x = .int (j : Nat) t) (hks : Keys hk xs 0 ks)
    (hp : out.Perm (ks.toArray.zip vs.toArray)) (hs : SortedToK (G.tupKindC hk sh0) out vs.length) :
    ∃ es : List Nat, IntsAre (out.map (·.2)).toList (es.map fun k => ((k : Nat) : Int)) ∧ es.Perm (List.range n) ∧ es.Pairwise (fun i j => xs i < xs j ∨ (xs i = xs j ∧ i < j)) := by
  have hpl : out.toList.Perm (ks.zip vs) := by
    have := Array.perm_iff_toList_perm.mp hp
    rw [ksk_zip] at this
    simpa using this
  have mem : ∀ p ∈ out.toList, ∃ (a : Nat) (t : Tok), p.2 = .int (a : Nat) t ∧ KeyAt hk (xs a) a p.1 := fun p hp' => by
    obtain ⟨j, hj⟩ := List.getElem?_of_mem (hpl.mem_iff.mp hp')
    rw [List.getElem?_zip_eq_some] at hj
    obtain ⟨t, e⟩ := hvs j p.2 hj.2
    have := hks.get hj.1
    rw [Nat.zero_add] at this
    exact ⟨j, t, e, this⟩
  have hperm : (out.toList.map fun p => natOf p.2).Perm (List.range n) := by
    refine (hpl.map _).trans (List.Perm.of_eq ?_)
    have e1 : (ks.zip vs).map (fun p => natOf p.2) = vs.map natOf := by
      rw [← List.map_snd_zip (l₁ := ks) (l₂ := vs) (by omega), List.map_map]
      rw [List.map_snd_zip (by omega)]
      rfl
    rw [e1]
    refine List.ext_getElem? fun j => ?_
    rw [List.getElem?_map]
    by_cases hj : j < n
    · have hj' : j < vs.length := by omega
      rw [List.getElem?_range hj]
      obtain ⟨t, e⟩ := hvs j _ (List.getElem?_eq_getElem hj')
      rw [List.getElem?_eq_getElem hj', e]
      rfl
    · rw [List.getElem?_eq_none (by omega), List.getElem?_eq_none (by rw [List.length_range]; omega)]
      rfl
  have hnd : (out.toList.map fun p => natOf p.2).Nodup := hperm.nodup_iff.mpr List.nodup_range
  refine ⟨out.toList.map fun p => natOf p.2, ?_, hperm, ?_⟩
  · rw [Array.toList_map]
    exact ints_of fun p hp' => let ⟨a, t, e, _⟩ := mem p hp'; ⟨a, t, e⟩
  · rw [List.pairwise_iff_getElem]
    intro i j hi hj hij
    have hne : (out.toList.map fun p => natOf p.2)[i] ≠ (out.toList.map fun p => natOf p.2)[j] := fun z => by
      have := (List.getElem_inj hnd).mp z
      omega
    rw [List.length_map] at hi hj
    rw [List.getElem_map, List.getElem_map] at hne ⊢
    obtain ⟨a, ta, ea, ka⟩ := mem out.toList[i] (List.getElem_mem hi)
    obtain ⟨b, tb, eb, kb⟩ := mem out.toList[j] (List.getElem_mem hj)
    rw [ea, eb] at hne ⊢
    have na : natOf (.int (a : Nat) ta) = a := rfl
    have nb : natOf (.int (b : Nat) tb) = b := rfl
    rw [na, nb] at hne ⊢
    have hso : out.size = vs.length := by
      have := hpl.length_eq
      rw [List.length_zip, Array.length_toList] at this
      omega
    have hi' : i < out.size := by simpa using hi
    have hj' : j < out.size := by simpa using hj
    have q := hs i j (Nat.le_of_lt hij) (by omega)
    have k1 : KK (G.tupKindC hk sh0) out i = [Sum.inl (xs a), Sum.inl ((a : Nat) : Int)] := by
      unfold KK
      rw [Array.getElem?_eq_getElem hi']
      have : G.tupKeyC hk sh0 (out[i]).1 = some [Sum.inl (xs a), Sum.inl ((a : Nat) : Int)] := tupKey_at (by simpa using ka)
      show (G.tupKeyC hk sh0 (out[i]).1).getD _ = _
      rw [this]
      rfl
    have k2 : KK (G.tupKindC hk sh0) out j = [Sum.inl (xs b), Sum.inl ((b : Nat) : Int)] := by
      unfold KK
      rw [Array.getElem?_eq_getElem hj']
      have : G.tupKeyC hk sh0 (out[j]).1 = some [Sum.inl (xs b), Sum.inl ((b : Nat) : Int)] := tupKey_at (by simpa using kb)
      show (G.tupKeyC hk sh0 (out[j]).1).getD _ = _
      rw [this]
      rfl
    rw [k1, k2] at q
    have q' : lexLt itemOrd [Sum.inl (xs b), Sum.inl ((b : Nat) : Int)] [Sum.inl (xs a), Sum.inl ((a : Nat) : Int)] = false := q
    obtain ⟨q1, q2⟩ := lex_false.mp q'
    have q1' : ¬ xs b < xs a := of_decide_eq_false (show decide (xs b < xs a) = false from q1)
    rcases q2 with q2 | q2
    · have : xs a < xs b := of_decide_eq_true (show decide (xs a < xs b) = true from q2)
      exact .inl this
    · obtain ⟨q3, _⟩ := lex_false.mp q2
      have q3' : ¬ ((b : Nat) : Int) < ((a : Nat) : Int) := of_decide_eq_false (show decide (((b : Nat) : Int) < ((a : Nat) : Int)) = false from q3)
      omega
section
variable {prog : Program} {w : World} {A : Around} {E : Value → Shared → Prop} {s : Shared}
theorem collect_range {r : Addr} {n : Nat} {t u v : Tok} {Q : List Value → Shared → Prop} (hh : A.handled = none) (hr : IsRange s.heap r 0 (n : Int) 1 t u v) (hn : n ≤ 4096)
    (h : ∀ h' tk (vs : List Value), Kp s.heap h' → s.heap.objs.size ≤ h'.objs.size → vs.length = n → (∀ (j : Nat) x, vs[j]? = some x → ∃ t, x = .int (j : Nat) t) → Q vs { s with heap := h', toks := tk }) :
    wpAny (model prog w) A (collect (.ref r)) Q E s := by
  unfold collect
  refine wpAny_bind (wpAny_runValue (codeAny_builtin entry_proto_collect' ?_))
  show wpAny _ _ (do again (.builtin "list.__iadd__" ⟨[← newList [], .ref r], []⟩)) _ _ s
  refine wpAny_bind (wpAny_newList (wpAny_pure ⟨Code.quiet_builtin _ (by decide +kernel), codeAny_builtin entry_list_iadd' ?_⟩))
  show wpAny _ _ (Builtin.List.listExtendWith (.ref s.heap.objs.size) (.ref r) (.ref s.heap.objs.size)) _ _ { s with heap := s.heap.push (seqObj "list" #[] 0) }
  refine wpAny_extend_range (A := A) (R := fun r s' => match r with
      | .ok (.ret v) => wpAny (model prog w) A (match v with
        | .ref a => do
          let o ← load a
          match o.data with
          | .seq xs _ => pure xs.toList
          | _ => unsupported "internal:collect"
        | _ => unsupported "internal:collect") Q E s'
      | .ok _ => False
      | .error e => E e s') (s := { s with heap := s.heap.push (seqObj "list" #[] 0) }) (n := n) hh (Heap.get?_push_of_some _ hr) (small_one (by omega) (by omega) (by omega) (by omega)) (by rw [rangeSize_one]; split <;> omega) (by omega) s.heap.objs.size (.ref s.heap.objs.size) 0 (Heap.get?_push_size _ rfl) fun h' tk acc c' k hS ⟨hz, hi⟩ => ?_
  show wpAny (model prog w) A (do
      let o ← load s.heap.objs.size
      match o.data with
      | .seq xs _ => pure xs.toList
      | _ => unsupported "internal:collect") Q E { s with heap := h', toks := tk }
  refine wpAny_bind (wpAny_load hS ?_)
  refine wpAny_pure (h h' tk acc.toList (fun b o e => k b o (Nat.ne_of_lt (Heap.lt_size e)) (Heap.get?_push_of_some _ e)) (Nat.le_of_lt (Heap.lt_size hS)) (by rw [Array.length_toList]; exact hz) fun j x hx => ?_)
  obtain ⟨t', e⟩ := hi j x (by simpa using hx)
  exact ⟨t', by rw [e]; congr 1; omega⟩
/-- what the end of a sort leaves -/
theorem pk_tail {st : SortSt} {P : PySem.Fin → Shared → Prop} {a kS : Addr} {keys : Array Value} {e e1 : Nat} (hS : s.heap.get? kS = some (seqObj "list" keys e)) (hA : s.heap.get? a = some (seqObj "list" #[] e1)) (hka : kS ≠ a)
    (hk : keys.size ≤ 4096) (hz : (arrOf st).size ≤ 4096) (hfl : failedOf st = none)
    (h : ∀ h' c, (∀ b o, b ≠ kS → b ≠ a → s.heap.get? b = some o → h'.get? b = some o) → h'.get? a = some (seqObj "list" ((arrOf st).map (·.2)) c) → P (.done (.ret .none)) { s with heap := h' }) :
    wpAny (model prog w) A (ksk_tail a false e1 (.ref kS) st) P E s := by
  have s1 := Heap.SameBut.update s.heap kS (Obj.mapSeq fun _ => (#[] : Array Value))
  have na1 : (s.heap.update kS (Obj.mapSeq fun _ => (#[] : Array Value))).get? a = some (seqObj "list" #[] e1) := (s1.2 a hka.symm).trans hA
  have s2 := Heap.SameBut.update (s.heap.update kS (Obj.mapSeq fun _ => (#[] : Array Value))) a (Obj.mapSeq fun _ => (arrOf st).map (·.2))
  obtain ⟨c2, hc2⟩ : ∃ c2, ((s.heap.update kS (Obj.mapSeq fun _ => (#[] : Array Value))).update a (Obj.mapSeq fun _ => (arrOf st).map (·.2))).get? a = some (seqObj "list" ((arrOf st).map (·.2)) c2) := ⟨_, get?_update_seq na1 fun _ => (arrOf st).map (·.2)⟩
  unfold ksk_tail
  try dsimp only
  refine wpAny_bind (listUpdate_at hS rfl ?_ (by rw [sizeLine_eq]; omega) (Nat.zero_le _))
  refine wpAny_bind (wpAny_letGo ?_)
  refine wpAny_bind (seqEpoch_at na1 rfl ?_)
  refine wpAny_bind (listUpdate_at na1 rfl ?_ (Nat.zero_le _) (by simp only [Bool.false_eq_true, if_false, Array.size_map]; rw [sizeLine_eq]; omega))
  rw [hfl]
  simp only [bne_self_eq_false, Bool.false_eq_true, if_false]
  exact wpAny_pure (h _ c2 (fun b o h1 h2 e' => (s2.2 b h2).trans ((s1.2 b h1).trans e')) hc2)
theorem pk_end {P : PySem.Fin → Shared → Prop} {a kS : Addr} {ks vs : List Value} {xs : Nat → Int} {e e1 : Nat} (hS : s.heap.get? kS = some (seqObj "list" ks.toArray e)) (hA : s.heap.get? a = some (seqObj "list" #[] e1)) (hka : kS ≠ a)
    (hl : ks.length = vs.length) (hz : vs.length ≤ 4096) (hk : Keys s.heap xs 0 ks)
    (h : ∀ h' c (out : Array Keyed), (∀ b o, b ≠ kS → b ≠ a → s.heap.get? b = some o → h'.get? b = some o) → h'.get? a = some (seqObj "list" (out.map (·.2)) c) → out.Perm (ks.toArray.zip vs.toArray) → SortedToK (G.tupKindC s.heap sh0) out vs.length →
      P (.done (.ret .none)) { s with heap := h' }) :
    wpAny (model prog w) A (ksk_end a false vs.toArray e1 (.ref kS) ks.toArray) P E s := by
  have hzs : (ks.toArray.zip vs.toArray).size = vs.length := by rw [Array.size_zip, List.size_toArray, List.size_toArray, hl, Nat.min_self]
  unfold ksk_end
  simp only [Bool.false_eq_true, if_false]
  by_cases h2 : vs.toArray.size < 2
  · rw [if_pos h2, if_pos h2]
    refine wpAny_bind (wpAny_pure ?_)
    rw [StateT.run_pure]
    refine wpAny_bind (wpAny_pure ?_)
    try dsimp only
    refine pk_tail (st := SortSt.mk' general' (ks.toArray.zip vs.toArray) #[] 7 none) hS hA hka (by rw [List.size_toArray]; omega) (by show (ks.toArray.zip vs.toArray).size ≤ _; omega) rfl fun h' c k1 k2 => h h' c (ks.toArray.zip vs.toArray) k1 k2 (Array.Perm.refl _) ?_
    intro i j hij hj
    rw [List.size_toArray] at h2
    have : i = j := by omega
    subst this
    exact KeyOrd.kle_refl _
  · rw [if_neg h2, if_neg h2]
    rw [List.size_toArray] at h2
    obtain ⟨fs, hf⟩ := hk.tups
    refine wpAny_bind (tup_kind (shape := sh0) (by rw [G.TupsOf.length hf]; omega) hf ?_)
    try dsimp only
    refine wpAny_bind (wpAny_mono (G.wpS_sortRunsSt (κ := G.tupKindC s.heap sh0) (kd := tuples' true) (a₀ := ks.toArray.zip vs.toArray) (st := SortSt.mk' (tuples' true) (ks.toArray.zip vs.toArray) #[] 7 none)
      (Q := fun _ st' => (arrOf st').Perm (ks.toArray.zip vs.toArray) ∧ failedOf st' = none ∧ SortedToK (G.tupKindC s.heap sh0) (arrOf st') (ks.toArray.zip vs.toArray).size)
      (G.tupC_ltAt true (G.KeepsTups.refl _)) ?keys ⟨Array.Perm.refl _, rfl, rfl⟩ rfl (Stable.refl _) (by rw [hzs]; omega) fun st' a1 a2 a3 a4 => ⟨a1, a2, a3⟩) ?_ fun _ _ e => e)
    case keys =>
      intro p hp
      rw [ksk_zip] at hp
      obtain ⟨j, hj⟩ := List.getElem?_of_mem (List.of_mem_zip hp).1
      exact ⟨_, tupKey_at (hk.get (by simpa using hj))⟩
    rintro ⟨⟨⟩, st'⟩ s' ⟨rfl, hp, hfl, hs⟩
    try dsimp only
    refine pk_tail hS hA hka (by rw [List.size_toArray]; omega) (by rw [hp.size_eq, hzs]; omega) hfl fun h' c k1 k2 => h h' c (arrOf st') k1 k2 hp (by rw [hzs] at hs; exact hs)
theorem pk_rest {f : Value} {P : PySem.Fin → Shared → Prop} {a kS : Addr} {vs : List Value} {xs : Nat → Int} {e1 : Nat} {h0 : Heap} (hS : s.heap.get? kS = some (seqObj "list" #[] 0)) (hA : s.heap.get? a = some (seqObj "list" #[] e1)) (hka : kS ≠ a)
    (h0k : Kp h0 s.heap) (h0a : h0.objs.size ≤ a) (h0s : h0.objs.size ≤ kS) (hz : vs.length ≤ 4096)
    (turn : ∀ (i : Nat) (x : Value) (g : Heap) (tk : Nat), vs[i]? = some x → Kp h0 g → wpAny (model prog w) A (call f [x]) (fun k s' => ∃ g' tk', s' = { s with heap := g', toks := tk' } ∧ Kp g g' ∧ KeyAt g' (xs i) i k) (fun _ _ => False) { s with heap := g, toks := tk })
    (h : ∀ h' tk c (ks : List Value) (hk : Heap) (out : Array Keyed), Kp h0 h' → h'.get? a = some (seqObj "list" (out.map (·.2)) c) → ks.length = vs.length → Keys hk xs 0 ks → out.Perm (ks.toArray.zip vs.toArray) → SortedToK (G.tupKindC hk sh0) out vs.length →
      P (.done (.ret .none)) { s with heap := h', toks := tk }) :
    wpAny (model prog w) A (ksk_rest a f false vs.toArray e1 (.ref kS)) P E s := by
  unfold ksk_rest
  refine wpAny_bind (wpAny_rule ?_)
  first
    | rw [List.forIn_toArray]
    | (rw [← Array.forIn_toList]; simp only [List.toList_toArray])
    | rw [← Array.forIn_toList]
  refine wpAny_bind (ksk_fold (fun i s' => ∃ g tk ks c, s' = { s with heap := g, toks := tk } ∧ Kp h0 g ∧ g.get? kS = some (seqObj "list" (List.toArray ks) c) ∧ g.get? a = some (seqObj "list" #[] e1) ∧ ks.length = i ∧ Keys g xs 0 ks) vs 0 s
    ⟨s.heap, s.toks, [], 0, rfl, h0k, hS, hA, rfl, trivial⟩ ?step ?done)
  case step =>
    rintro j x s' hx ⟨g, tk, ks, c, rfl, kp, hS', hA', hlen, hks⟩
    simp only [Nat.zero_add] at hlen ⊢
    have hj : j < vs.length := (List.getElem?_eq_some_iff.mp hx).1
    refine wpAny_bind (wpAny_attempt (wpAny_mono (turn j x g tk hx kp) (fun k s'' hq => ?_) fun _ _ hF => hF.elim))
    obtain ⟨g', tk', rfl, kp', hkey⟩ := hq
    try dsimp only
    have s1 := Heap.SameBut.update g' kS (Obj.mapSeq (·.push k))
    have hS2 := kp' _ _ hS'
    obtain ⟨c2, hc2⟩ : ∃ c2, (g'.update kS (Obj.mapSeq (·.push k))).get? kS = some (seqObj "list" ((List.toArray ks).push k) c2) := ⟨_, get?_update_seq hS2 (·.push k)⟩
    have tk1 : ∀ b o, g'.get? b = some o → o.cls = .type "tuple" → (g'.update kS (Obj.mapSeq (·.push k))).get? b = some o := G.KeepsTups.update _ hS2 G.not_tuple_list
    refine wpAny_bind (listUpdate_at hS2 rfl ?_ (by rw [List.size_toArray, sizeLine_eq]; omega) (Nat.le_trans (Nat.le_of_eq (Array.size_push ..)) (by rw [List.size_toArray, sizeLine_eq]; omega)))
    refine wpAny_pure ⟨rfl, _, _, ks ++ [k], c2, rfl, kp_new (kp.trans kp') h0s s1, ?_, (s1.2 a hka.symm).trans (kp' _ _ hA'), by rw [List.length_append, hlen]; rfl, ?_⟩
    · rw [hc2]
      simp
    · refine Keys.snoc (Keys.keep (fun b o e1 e2 => tk1 b o (kp' b o e1) e2) hks) ?_
      rw [Nat.zero_add, hlen]
      exact hkey.keep tk1
  case done =>
    rintro s' ⟨g, tk, ks, c, rfl, kp, hS', hA', hlen, hks⟩
    simp only [Nat.zero_add] at hlen
    try dsimp only
    refine wpAny_bind (listItems_at hS' rfl ?_)
    refine pk_end (s := { s with heap := g, toks := tk }) hS' hA' hka hlen hz hks fun h' c' out k1 k2 hp hs => ?_
    exact h h' tk c' ks g out (fun b o e => k1 b o (Nat.ne_of_lt (Nat.lt_of_lt_of_le (Heap.lt_size e) h0s)) (Nat.ne_of_lt (Nat.lt_of_lt_of_le (Heap.lt_size e) h0a)) (kp b o e)) k2 hlen hks hp hs
theorem pk_tree {f : Value} {P : PySem.Fin → Shared → Prop} {a : Addr} {vs : List Value} {xs : Nat → Int} {n : Nat} {h0 : Heap} (ho : s.heap.get? a = some (seqObj "list" vs.toArray n)) (h0k : Kp h0 s.heap) (h0a : h0.objs.size ≤ a) (hz : vs.length ≤ 4096)
    (turn : ∀ (i : Nat) (x : Value) (g : Heap) (tk : Nat), vs[i]? = some x → Kp h0 g → wpAny (model prog w) A (call f [x]) (fun k s' => ∃ g' tk', s' = { s with heap := g', toks := tk' } ∧ Kp g g' ∧ KeyAt g' (xs i) i k) (fun _ _ => False) { s with heap := g, toks := tk })
    (h : ∀ h' tk c (ks : List Value) (hk : Heap) (out : Array Keyed), Kp h0 h' → h'.get? a = some (seqObj "list" (out.map (·.2)) c) → ks.length = vs.length → Keys hk xs 0 ks → out.Perm (ks.toArray.zip vs.toArray) → SortedToK (G.tupKindC hk sh0) out vs.length →
      P (.done (.ret .none)) { s with heap := h', toks := tk }) :
    wpAny (model prog w) A (ksk_tree a f false) P E s := by
  have ha : a < s.heap.objs.size := Heap.lt_size ho
  have s1 := Heap.SameBut.update s.heap a (Obj.mapSeq fun _ => (#[] : Array Value))
  obtain ⟨e1, ho1⟩ : ∃ e1, (s.heap.update a (Obj.mapSeq fun _ => (#[] : Array Value))).get? a = some (seqObj "list" #[] e1) := ⟨_, get?_update_seq ho fun _ => #[]⟩
  have hkS : ((s.heap.update a (Obj.mapSeq fun _ => (#[] : Array Value))).push (seqObj "tuple" vs.toArray 0)).objs.size = s.heap.objs.size + 1 := by rw [size_push', Heap.size_update]
  unfold ksk_tree
  refine wpAny_bind (listItems_at ho rfl ?_)
  refine wpAny_bind (listUpdate_at ho rfl ?_ (by rw [List.size_toArray, sizeLine_eq]; omega) (Nat.zero_le _))
  refine wpAny_bind (seqEpoch_at ho1 rfl ?_)
  refine wpAny_bind (wpAny_newTuple ?_ (by show vs.length ≤ _; rw [sizeLine_eq]; omega))
  refine wpAny_bind (wpAny_newList ?_ (Nat.zero_le _))
  refine wpAny_holding ?_
  refine pk_rest (s := { s with heap := ((s.heap.update a (Obj.mapSeq fun _ => (#[] : Array Value))).push (seqObj "tuple" vs.toArray 0)).push (seqObj "list" #[] 0) }) (kS := ((s.heap.update a (Obj.mapSeq fun _ => (#[] : Array Value))).push (seqObj "tuple" vs.toArray 0)).objs.size) (h0 := h0)
    (Heap.get?_push_size _ rfl) (Heap.get?_push_of_some _ (Heap.get?_push_of_some _ ho1)) (by rw [hkS]; exact Nat.ne_of_gt (Nat.lt_succ_of_lt ha)) (((kp_new h0k h0a s1).trans (Kp.push _ _)).trans (Kp.push _ _)) h0a
    (by rw [hkS]; exact Nat.le_trans h0a (Nat.le_of_lt (Nat.lt_succ_of_lt ha))) hz turn h
/-- sorted(range(n), key = f) -/
theorem sorted_rng {f : Addr} {r : Addr} {n : Nat} {t u v : Tok} {xs : Nat → Int} {Q : Value → Shared → Prop} (hh : A.handled = none) (hr : IsRange s.heap r 0 (n : Int) 1 t u v) (hn : n ≤ 4096)
    (turn : ∀ (i : Nat) (t : Tok) (g : Heap) (tk : Nat), i < n → Kp s.heap g → wpAny (model prog w) A.in1.in1 (call (.ref f) [.int (i : Nat) t]) (fun k s' => ∃ g' tk', s' = { s with heap := g', toks := tk' } ∧ Kp g g' ∧ KeyAt g' (xs i) i k) (fun _ _ => False) { s with heap := g, toks := tk })
    (h : ∀ h' tk c D (out : Array Value) (es : List Nat), Kp s.heap h' → s.heap.objs.size ≤ D → h'.get? D = some (seqObj "list" out c) → IntsAre out.toList (es.map fun k => ((k : Nat) : Int)) → es.Perm (List.range n) →
      es.Pairwise (fun i j => xs i < xs j ∨ (xs i = xs j ∧ i < j)) → Q (.ref D) { s with heap := h', toks := tk }) :
    wpAny (model prog w) A (call (.builtin "sorted") [.ref r] [(Str.ofString "key", .ref f)]) Q E s := by
  refine call_function_entry_kw kind_sorted plain_sorted entry_sorted (ksk_s1 _ _) ?_
  unfold Builtin.«sorted»
  refine wpAny_bind (m := checkCount "sorted" 1 1 _) (wpAny_pure ?_)
  refine wpAny_bind (collect_range hh hr hn fun h1 tk1 vs kp1 sz1 hlen hvs => ?_)
  refine wpAny_bind (wpAny_newList ?_ (by rw [sizeLine_eq]; omega))
  have hoL : (h1.push (seqObj "list" vs.toArray 0)).get? h1.objs.size = some (seqObj "list" vs.toArray 0) := Heap.get?_push_size _ rfl
  refine wpAny_bind (wpAny_holding (wpAny_call_entry_kw slot_list_sort ⟨_, hoL, rfl⟩ entry_list_sort ?body (ksk_l1 _ _)))
  case body =>
    show wpAny (model prog w) A.in1.in1 (Builtin.«list.sort» ⟨[.ref h1.objs.size], [(Str.ofString "key", .ref f)]⟩) _ _ _
    rw [ksk_t1]
    refine pk_tree (s := { s with heap := h1.push (seqObj "list" vs.toArray 0), toks := tk1 }) (h0 := s.heap) (xs := xs) hoL (kp1.trans (Kp.push _ _)) sz1 (by omega) (fun i x g tk hx kp => ?_) fun h' tk c ks hk out kp2 hD hl hks hp hs => ⟨_, rfl, ?_⟩
    · obtain ⟨ti, rfl⟩ := hvs i x hx
      exact turn i ti g tk (by rw [← hlen]; exact (List.getElem?_eq_some_iff.mp hx).1) kp
    · obtain ⟨es, i1, i2, i3⟩ := sort_facts hl hlen hvs hks hp hs
      exact wpAny_pure ⟨_, rfl, h h' tk c _ _ es kp2 sz1 hD i1 i2 i3⟩
end
end Peg
set_option Elab.async false
set_option maxRecDepth 100000
set_option maxHeartbeats 4000000
namespace Peg
open PySem PySem.Spec
open PyProof.Rows hiding St
open L2
/-! ### the key: lambda k: (pegs[k][0], k) -/
abbrev lamBody (p1 p2 p3 p4 p5 p6 p7 : Pos) : PySem.Expr := .Tuple [.Subscript (.Subscript (.Name "pegs" p1) (.Name "k" p2) p3) (.Constant (.int 0) 0 p4) p5, .Name "k" p6] 0 p7
abbrev lamScope : Scope := { kind := .function, names := [("k", .local), ("pegs", .free)], isGenerator := false, isCoroutine := false, more := [] }
abbrev lamArgs (p : Pos) : Arguments := { posonlyargs := [], args := [{ arg := "k", annotation := none, pos := p }], vararg := none, kwonlyargs := [], kw_defaults := [], kwarg := none, defaults := [] }
section
variable {prog : Program} {w : World} {A : Around} {E : Value → Shared → Prop} {s : Shared}
theorem lam_call {f cc pl a c' : Addr} {qual : Str} {pm ctv : Value} {g : Heap} {tk i : Nat} {t tx ty : Tok} {its : Array Value} {x y : Int} {p p1 p2 p3 p4 p5 p6 p7 : Pos} (hroom : A.depth < recursionLimit) (hlim : g.NoLimit)
    (hf : g.get? f = some (PySem.W.kla_obj "<lambda>" qual (lamArgs p) (lamBody p1 p2 p3 p4 p5 p6 p7) lamScope [("pegs", cc)] pm c' ctv)) (hcd : g.CodeRec (.ref c') qual)
    (hcell : g.IsCell cc (some (.ref pl))) (hpl : g.IsList pl its) (hi : its[i]? = some (.ref a)) (hsz : i < 4096) (ha : IsTup g a #[.int x tx, .int y ty]) :
    wpAny (model prog w) A (call (.ref f) [.int (i : Nat) t]) (fun k s' => ∃ g' tk', s' = { s with heap := g', toks := tk' } ∧ Kp g g' ∧ KeyAt g' x i k) E { s with heap := g, toks := tk } := by
  refine wpAny_call (PySem.W.kla_callFunE hroom hf rfl rfl rfl rfl hcd ?_)
  have hbind : bindArgs (PySem.W.kla_fn "<lambda>" qual (lamArgs p) (lamBody p1 p2 p3 p4 p5 p6 p7) lamScope [("pegs", cc)] pm (.ref c') ctv) ⟨[.int (i : Nat) t], []⟩ = pure [(("k" : Str), Value.int (i : Nat) t)] := rfl
  rw [hbind]
  refine wpAny_pure (wpAny_newFunctionEnv (show ∀ x ∈ lamScope.names, x.2 ≠ NameKind.cell by decide) (by intro z hz; rw [List.mem_singleton.mp hz]; rfl) (fun h1 hns hsb => ⟨hlim.fresh _ hsb, ?_⟩) rfl)
  have k1 : Kp g h1 := fun b o e => hsb.extBut b o (Nat.ne_of_lt (Heap.lt_size e)) (Heap.get?_push_of_some _ e)
  show codeAny _ _ (.expr (lamBody p1 p2 p3 p4 p5 p6 p7) (PySem.W.envX qual lamScope g.objs.size f (.ref c') [("pegs", cc)])) _ _
  refine PySem.W.kla_codeExpr (wpAny_Tuple_spliced ?_)
  refine Calls.spliced_cons (Subscript_ (Subscript_ ?_))
  refine wpAny_Name (wpAny_loadName_free (c := cc) rfl rfl rfl (v := .ref pl) ?_ ?_) (by decide)
  · obtain ⟨o, ho, hd⟩ := hcell
    exact ⟨o, k1 _ _ ho, hd⟩
  refine wpAny_Name (wpAny_loadName_local (v := .int (i : Nat) t) rfl rfl hns rfl ?_) (by decide)
  have hpl1 : h1.IsList pl its := by
    obtain ⟨o, ho, r⟩ := hpl
    exact ⟨o, k1 _ _ ho, r⟩
  have ha1 : IsTup h1 a #[.int x tx, .int y ty] := by
    obtain ⟨o, ho, r⟩ := ha
    exact ⟨o, k1 _ _ ho, r⟩
  refine item_listR (k := (i : Nat)) hpl1 (by omega) (by omega) (by simpa using hi) ?_ rfl
  refine wpAny_Constant_int ?_
  refine subscriptTail_builtinR (x := .int x tx) ha1.typeIs slot_tuple_getitem.lookup (getItem_tuple (j := 0) (Q := fun r s' => r = .int x tx ∧ _) ha1 (by decide) (by decide) rfl rfl ⟨rfl, ?_⟩) rfl
  refine Calls.spliced_cons (wpAny_Name (wpAny_loadName_local (v := .int (i : Nat) t) rfl rfl hns rfl ?_) (by decide))
  refine Calls.spliced_nil ⟨by show 2 ≤ sizeLine; decide, ?_⟩
  exact ⟨_, _, rfl, fun b o e => Heap.get?_push_of_some _ (k1 b o e), _, _, _, rfl, Heap.get?_push_size _ rfl⟩
end
/-! ### the code table of the def that makes the key: it grows once -/
/-- all that is tracked but a code table is as it was -/
def SameT (H H' : Hp) : Prop := ∀ b o, H b = some o → (∀ ps, o ≠ .tbl ps) → H' b = some o
theorem SameT.of {H H' : Hp} (h : Same H H') : SameT H H' := fun b o e _ => h b o e
theorem SameT.refl (H : Hp) : SameT H H := fun _ _ h _ => h
theorem SameT.trans {H H1 H2 : Hp} (a : SameT H H1) (b : SameT H1 H2) : SameT H H2 := fun c o h n => b c o (a c o h n) n
theorem SameT.tups {H H' : Hp} (h : SameT H H') : Tups H H' := fun b ys e => h b _ e (by intro ps z; cases z)
theorem SameT.lst {H H' : Hp} {p : Addr} {xs : List V} (h : SameT H H') (e : H p = some (.lst xs)) : H' p = some (.lst xs) := h p _ e (by intro ps z; cases z)
theorem LsAt.sameT {α : Type} {R : Hp → Addr → α → Prop} {H H' : Hp} {p : Addr} {xs : List α} {as : List Addr} (t : Tame R) (h : LsAt R H p xs as) (s : SameT H H') : LsAt R H' p xs as :=
  ⟨s.lst h.lst, h.len, fun j a x ha hx => t _ _ _ _ s.tups (h.at_ j a x ha hx)⟩
theorem Ls.sameT {α : Type} {R : Hp → Addr → α → Prop} {H H' : Hp} {p : Addr} {xs : List α} (t : Tame R) (h : Ls R H p xs) (s : SameT H H') : Ls R H' p xs := let ⟨as, q⟩ := h; ⟨as, q.sameT t s⟩
theorem SameT.free {H H' : Hp} (e : SameT H H') {l : Addr} (h : H' l = none) (hn : ∀ ps, H l ≠ some (.tbl ps)) : H l = none := by
  cases q : H l with
  | none => rfl
  | some o =>
    rw [e l o q (fun ps z => hn ps (by rw [q, z]))] at h
    cases h
/-- a code record that stands at c -/
def codeO (qual : Str) (c : Addr) : HO := .ext fun h => h.CodeRec (.ref c) qual
/-- the table is empty, or holds the key's code -/
def TbOk (P : Addr) (pos : Pos) (qual : Str) (H : Hp) : Prop := H P = some (.tbl #[]) ∨ ∃ c, H P = some (.tbl #[rawInt pos.line, rawInt pos.col, .ref c]) ∧ H c = some (codeO qual c)
theorem TbOk.same {P : Addr} {pos : Pos} {qual : Str} {H H' : Hp} (h : TbOk P pos qual H) (s : Same H H') : TbOk P pos qual H' := by
  rcases h with h | ⟨c, h1, h2⟩
  · exact .inl (s _ _ h)
  · exact .inr ⟨c, s _ _ h1, s _ _ h2⟩
/-- what the def's own code, and the builtins' module, are -/
structure Code (base : Heap) (mg : Str → Option Value) (c P : Addr) : Prop where
  hd : PySem.W.CodeHd base c P
  bm : ∃ bm ob, mg "__builtins__" = some (.ref bm) ∧ bm ≠ builtinsNs ∧ base.get? bm = some ob ∧ ob.cls = .type "module" ∧ ob.dict = some builtinsNs ∧ ob.data = .plain
section
variable {X : Cx} {pins : List (Addr × Obj)} {σ : St} {H : Hp} {s : Shared}
theorem Inv.tblGrow {P c : Addr} {ps : Array Value} {qual : Str} {h' : Heap} {t' : Nat} {more : Array Value} (I : Inv X pins σ H s) (hP : H P = some (.tbl ps)) (hx : Heap.ExtBut P s.heap h') (hc : s.heap.objs.size ≤ c) (hr : h'.CodeRec (.ref c) qual)
    (hT : h'.get? P = some (PySem.W.tabObj (ps ++ more))) : Inv X pins σ (upd (upd H P (.tbl (ps ++ more))) c (codeO qual c)) { s with heap := h', toks := t' } := by
  have hcn : H c = none := I.hok.fresh hc
  have hPl : P < s.heap.objs.size := I.hok.lt hP
  have hPc : P ≠ c := Nat.ne_of_lt (Nat.lt_of_lt_of_le hPl hc)
  have other : ∀ b, b ≠ P → b ≠ c → upd (upd H P (.tbl (ps ++ more))) c (codeO qual c) b = H b := fun b h1 h2 => by rw [upd_ne h2, upd_ne h1]
  have neP : ∀ b u, H b = some u → (∀ ps, u ≠ .tbl ps) → b ≠ P := fun b u e n z => by
    subst z
    rw [hP] at e
    exact n ps (Option.some.inj e).symm
  have neC : ∀ b u, H b = some u → b ≠ c := fun b u e => ne_of_none e hcn
  refine I.un (H' := upd (upd H P (.tbl (ps ++ more))) c (codeO qual c)) ⟨fun b o e n _ _ => ?_, fun b o e n _ _ => ⟨o.slots, ?_⟩, fun b o e n _ => ?_, fun b o e _ => ?_, fun b xs e => ?_, fun b o u e => ?_, fun b qs e => ?_⟩ ?_
  · exact hx b o (fun z => by rw [z, hP] at n; cases n) e
  · exact hx b o (fun z => by rw [z, hP] at n; cases n) e
  · have h1 : b ≠ P := fun z => by rw [z, hP] at n; cases n
    rw [other b h1 (Nat.ne_of_lt (Nat.lt_of_lt_of_le (Heap.lt_size e) hc))]
    exact n
  · by_cases hb : b = P
    · exact ⟨_, hb ▸ hT⟩
    · exact ⟨o, hx b o hb e⟩
  · rw [other b (neP b _ e (by intro ps z; cases z)) (neC b _ e)]
    exact e
  · rw [other b (neP b _ e (by intro ps z; cases z)) (neC b _ e)]
    exact e
  · by_cases hb : b = P
    · subst hb
      rw [hP] at e
      cases e
      exact ⟨more, by rw [upd_ne hPc, upd_same]⟩
    · exact ⟨#[], by rw [other b hb (neC b _ e), e]; simp⟩
  · intro b u e
    by_cases hbc : b = c
    · subst hbc
      rw [upd_same] at e
      cases e
      obtain ⟨c2, o, vs, t, e1, e2, e3, e4⟩ := hr
      cases e1
      refine ⟨⟨b, o, vs, t, rfl, e2, e3, e4⟩, ⟨o, e2⟩, fun h1 h2 z k => ?_⟩
      obtain ⟨c3, o3, vs3, t3, f1, f2, f3, f4⟩ := z
      cases f1
      exact ⟨b, o3, vs3, t3, rfl, k o3 f2, f3, f4⟩
    · by_cases hbP : b = P
      · subst hbP
        rw [upd_ne hPc, upd_same] at e
        cases e
        exact hT
      · rw [other b hbP hbc] at e
        refine (I.hok b u e).stay (fun d v hd q => hx d v ?_ q) (fun d q => ?_) fun d xs q => ?_
        · rcases hd with z | z
          · rw [z]; exact hbP
          · intro zz
            rw [zz, hP] at z
            cases z
        · rw [other d (neP d _ q (by intro ps z; cases z)) (neC d _ q)]; exact q
        · rw [other d (neP d _ q (by intro ps z; cases z)) (neC d _ q)]; exact q
end
/-- the marks' numbers, sorted going east -/
def tEast (ip : Nat) (P : Addr) (lpos : Pos) (qual : Str) (te : TE) : TE := fun σ H Q => te σ H fun x H1 => ∃ (p : Addr) (ms : List Rg.Pt), x = .int ms.length ∧ ms.length ≤ 4000 ∧ σ[ip]? = some (some (.ref p)) ∧ Ls PtAt H1 p ms ∧ TbOk P lpos qual H1 ∧
  ∀ (H' : Hp) (D : Addr) (es : List Nat), SameT H1 H' → TbOk P lpos qual H' → H' D = some (.lst (es.map fun k => V.int ((k : Nat) : Int))) → (∀ ps, H1 D ≠ some (.tbl ps)) → H1 D = none → East ms es → Q (.ref D) H'
theorem bt_sorted : bootBuiltins "sorted" = some (.builtin "sorted") := by decide +kernel
theorem east_of {ms : List Rg.Pt} {es : List Nat} (hp : es.Perm (List.range ms.length)) (hs : es.Pairwise (fun i j => (ms.getD i ⟨0, 0⟩).x < (ms.getD j ⟨0, 0⟩).x ∨ ((ms.getD i ⟨0, 0⟩).x = (ms.getD j ⟨0, 0⟩).x ∧ i < j))) : East ms es := by
  refine ⟨hp, hs.imp_of_mem fun {i j} hi hj h => ?_⟩
  have h1 : i < ms.length := List.mem_range.mp (hp.mem_iff.mp hi)
  have h2 : j < ms.length := List.mem_range.mp (hp.mem_iff.mp hj)
  rw [List.getD_eq_getElem?_getD, List.getD_eq_getElem?_getD, List.getElem?_eq_getElem h1, List.getElem?_eq_getElem h2] at h
  exact wb_iff.mpr ⟨_, _, List.getElem?_eq_getElem h1, List.getElem?_eq_getElem h2, h⟩
section
variable {X : Cx}
theorem east_fin {pins : List (Addr × Obj)} {σ : St} {H1 H3 : Hp} {s3 : Shared} {Q : VK} {ip : Nat} {P pl r f c' cc : Addr} {ms : List Rg.Pt} {as : List Addr} {lpos p p1 p2 p3 p4 p5 p6 p7 : Pos} {qual : Str} {pm ctv : Value} {t0 t1 t2 : Tok} (hc : X.calm = true) (hroom : Room 2 X.A)
    (hN : X.N[ip]? = some "pegs") (hsc : X.env.scope.names.lookup ("pegs" : Str) = some .cell) (hσ : σ[ip]? = some (some (.ref pl))) (hcc : X.env.cells.lookup ("pegs" : Str) = some cc) (hle : ms.length ≤ 4000)
    (k : ∀ (H' : Hp) (D : Addr) (es : List Nat), SameT H1 H' → TbOk P lpos qual H' → H' D = some (.lst (es.map fun k => V.int ((k : Nat) : Int))) → (∀ ps, H1 D ≠ some (.tbl ps)) → H1 D = none → East ms es → Q (.ref D) H')
    (L : LsAt PtAt H1 pl ms as) (I3 : Inv X pins σ H3 s3) (sT : SameT H1 H3) (tb : TbOk P lpos qual H3) (hr : IsRange s3.heap r 0 (ms.length : Nat) 1 t0 t1 t2)
    (hf : s3.heap.get? f = some (PySem.W.kla_obj "<lambda>" qual (lamArgs p) (lamBody p1 p2 p3 p4 p5 p6 p7) lamScope [("pegs", cc)] pm c' ctv)) (hcd : s3.heap.CodeRec (.ref c') qual) (hfree : ∀ b, s3.heap.objs.size ≤ b → H1 b = none) :
    wpAny (model X.prog X.w) X.A (call (.builtin "sorted") [.ref r] [(Str.ofString "key", .ref f)]) (EP X pins σ Q) X.xe s3 := by
  have L3 := L.sameT tame_pt sT
  refine sorted_rng (xs := fun i => (ms.getD i ⟨0, 0⟩).x) (I3.ok.hd hc) hr (by omega) (fun i t g tk hi kp => ?_) fun h' tk cN D out es kp hD hget hints hperm hpw => ?_
  · obtain ⟨a, ha, hpt⟩ := L3.get (List.getElem?_eq_getElem hi)
    obtain ⟨its, rv, hpl1, _⟩ := I3.list (SqL.of L3.lst)
    obtain ⟨u, hu, ru⟩ := rv.get (map_ref_get ha)
    cases ru
    obtain ⟨its2, rv2, ⟨o2, ho2, hr2⟩, _⟩ := I3.tuple (SqT.of hpt)
    obtain ⟨tx, ty, rfl⟩ := rv2.int2
    obtain ⟨m, hn, hl⟩ := I3.loc
    obtain ⟨u2, ru2, lk⟩ := hl ip "pegs" (.ref pl) hN hσ (.inr (.inl hsc))
    cases ru2
    rcases lk with ⟨hk, _⟩ | ⟨_, cc2, hc2, oc, hoc, hdc⟩
    · have hk' : X.env.scope.names.lookup ("pegs" : Str) = some .local := hk
      rw [hsc] at hk'
      cases hk'
    · rw [hcc] at hc2
      cases hc2
      have ex : (ms.getD i ⟨0, 0⟩).x = ms[i].x := by
        rw [List.getD_eq_getElem?_getD, List.getElem?_eq_getElem hi]
        rfl
      rw [ex]
      exact lam_call (s := s3) (Room.depth (hroom.in1.in1)) (I3.nolimit.keeps kp) (kp _ _ hf) (hcd.keeps kp) ⟨oc, kp _ _ hoc, hdc⟩ (hpl1.keeps kp).isList (by simpa using hu) (by omega) ⟨o2, kp _ _ ho2, hr2⟩
  · have hlen : es.length = ms.length := by rw [hperm.length_eq, List.length_range]
    have hDn : H3 D = none := I3.hok.fresh hD
    have hv : Vals (es.map fun k => V.int ((k : Nat) : Int)) out.toList := by
      have := vals_of_ints hints
      rw [List.map_map] at this
      exact this
    have I4 := I3.laid (a := D) (o := .lst (es.map fun k => V.int ((k : Nat) : Int))) (t' := tk) kp hD ⟨Nat.le_of_lt (line _ (by rw [List.length_map]; omega)), out.toList, cN, hv, by rw [hget]⟩
    refine ⟨.ref D, _, I4, rfl, k _ D es (sT.trans (.of (same_new hDn))) (tb.same (same_new hDn)) upd_same (fun ps => by rw [hfree D hD]; intro z; cases z) (hfree D hD) (east_of hperm hpw)⟩
theorem clo_pegs {X : Cx} {cc : Addr} (hcc : X.env.cells.lookup ("pegs" : Str) = some cc) : closureFor lamScope X.env = pure [(("pegs" : Str), cc)] := by
  rw [closure_ok (scope := lamScope) (env := X.env) fun y hy e => ?_]
  · show pure (cloFrom X.env.cells [(("k" : Str), NameKind.local), (("pegs" : Str), NameKind.free)] []) = _
    have e : cloFrom X.env.cells [(("k" : Str), NameKind.local), (("pegs" : Str), NameKind.free)] [] = [(("pegs" : Str), (X.env.cells.lookup ("pegs" : Str)).getD 0)] := rfl
    rw [e, hcc]
    rfl
  · rcases List.mem_cons.mp hy with rfl | hy
    · cases e
    · rw [List.mem_singleton.mp hy]
      exact ⟨cc, hcc⟩
theorem pe_east {ip : Nat} {P c : Addr} {e : Expr} {te : TE} {q0 q1 q2 pos lpos kpos p p1 p2 p3 p4 p5 p6 p7 : Pos} (hgs : Gl X "sorted") (hms : X.mg "sorted" = none) (hgr : Gl X "range") (hmr : X.mg "range" = none) (he : PE X e te)
    (hc : X.calm = true) (hroom : Room 2 X.A) (hN : X.N[ip]? = some "pegs") (hsc : X.env.scope.names.lookup ("pegs" : Str) = some .cell) (hcode : X.env.code = .ref c) (C : Code X.base X.mg c P)
    (hs : starEach [e] X.env = [(false, eval e X.env)] := by rfl)
    (hs2 : starEach [.Call (.Name "range" q1) [e] [] q2] X.env = [(false, eval (.Call (.Name "range" q1) [e] [] q2) X.env)] := by rfl) :
    PE X (.Call (.Name "sorted" q0) [.Call (.Name "range" q1) [e] [] q2] [⟨some "key", .Lambda (lamArgs p) (lamBody p1 p2 p3 p4 p5 p6 p7) lamScope lpos, kpos⟩] pos) (tEast ip P lpos (X.env.qual ++ "<lambda>") te) := by
  intro pins s σ H Q I h
  refine wpAny_Call_Name_kw (ld_blt I hgs hms bt_sorted (PyProof.Rows.callWith_kw ?_))
  rw [hs2]
  refine Calls.spliced_cons ?_
  let G : V → Hp → Prop := fun x H1 => ∃ (p : Addr) (ms : List Rg.Pt), x = .int ms.length ∧ ms.length ≤ 4000 ∧ σ[ip]? = some (some (.ref p)) ∧ Ls PtAt H1 p ms ∧ TbOk P lpos (X.env.qual ++ "<lambda>") H1 ∧
    ∀ (H' : Hp) (D : Addr) (es : List Nat), SameT H1 H' → TbOk P lpos (X.env.qual ++ "<lambda>") H' → H' D = some (.lst (es.map fun k => V.int ((k : Nat) : Int))) → (∀ ps, H1 D ≠ some (.tbl ps)) → H1 D = none → East ms es → Q (.ref D) H'
  have h2 : (tCons te tNil) σ H (fun vs H1 => match vs with | [x] => G x H1 | _ => False) := h
  refine Call_ (ld_blt I hgr hmr boot_range (PyProof.Rows.callWith_type1 (thn ((pa_cons he pa_nil hs) q2 pins s σ H _ I h2) fun us s1 ⟨vs, H1, I1, r1, q1⟩ => ?_) hs rfl))
  match vs, r1, q1 with
  | [], _, q1 => exact q1.elim
  | _ :: _ :: _, _, q1 => exact q1.elim
  | [x], r1, q1 =>
  obtain ⟨pl, ms, rfl, hle, hσ, ⟨as, L⟩, tb, k⟩ := q1
  obtain ⟨u, rfl, t, rfl⟩ := vals1 r1
  refine call_range_1 (Calls.spliced_nil ?_)
  have I2 : Inv X pins σ H1 { s1 with heap := s1.heap.push { cls := .type "range", data := .fields #[.int 0 s1.toks, .int (ms.length : Nat) t, .int 1 (s1.toks + 1)] }, toks := s1.toks + 1 + 1 } := I1.kept fun b o e => Heap.get?_push_of_some _ e
  have hk0 : X.env.kindOf "pegs" = some .cell := hsc
  obtain ⟨cc, hcc⟩ := I1.ok.has "pegs" (.inl hk0)
  have hr : IsRange (s1.heap.push { cls := .type "range", data := .fields #[.int 0 s1.toks, .int (ms.length : Nat) t, .int 1 (s1.toks + 1)] }) s1.heap.objs.size 0 (ms.length : Nat) 1 s1.toks t (s1.toks + 1) := Heap.get?_push_size _ rfl
  refine kws_cons (PySem.W.kla_eval rfl ?_)
  generalize hs2 : ({ s1 with heap := s1.heap.push { cls := .type "range", data := .fields #[.int 0 s1.toks, .int (ms.length : Nat) t, .int 1 (s1.toks + 1)] }, toks := s1.toks + 1 + 1 } : Shared) = s2 at I2
  have hr2 : IsRange s2.heap s1.heap.objs.size 0 (ms.length : Nat) 1 s1.toks t (s1.toks + 1) := by rw [← hs2]; exact hr
  have hsz : s1.heap.objs.size ≤ s2.heap.objs.size := by rw [← hs2]; show s1.heap.objs.size ≤ (s1.heap.push _).objs.size; rw [Heap.size_push]; omega
  have hfree : ∀ b, s2.heap.objs.size ≤ b → H1 b = none := fun b hb => I2.hok.fresh hb
  have nb : ∀ {b o}, X.base.get? b = some o → b ≠ P := fun {b o} e z => by
    have h1 := (I2.bs b o e).2
    rw [z] at h1
    rcases tb with tb | ⟨_, tb, _⟩
    · rw [tb] at h1; cases h1
    · rw [tb] at h1; cases h1
  have hg2 : s2.heap.Ns mainGlobals X.mg := (I2.mod.glob).keeps I2.bk
  have hgP : mainGlobals ≠ P := by
    obtain ⟨o, es, ep, e, _⟩ := I2.mod.glob
    exact nb e
  have hB : s2.heap.BuiltinsAt X.mg P := by
    obtain ⟨bm, ob, b1, b2, b3, b4, b5, b6⟩ := C.bm
    refine ⟨bm, ob, b1, b2, fun z => ?_, nb b3, I2.bk _ _ b3, b4, b5, b6⟩
    obtain ⟨o, es, ep, e, hd, _⟩ := I2.mod.glob
    rw [z, e] at b3
    cases b3
    rw [hd] at b6
    cases b6
  have hC2 := C.hd.keeps I2.bk
  rcases tb with hP | ⟨c', hP, hc'⟩
  · refine PySem.W.kla_makeFunction (ps := #[]) (clo_pegs hcc) I2.ok.glob hg2 hcode hC2 (I2.hok P _ hP) trivial rfl hgP hB fun c' ctv h' tk hx hge hlt hrec htb => ?_
    refine kws_nil ?_
    have I3 := (Peg.Inv.tblGrow (t' := tk) I2 hP hx hge hrec htb).kept (t' := tk) (h' := h'.push (PySem.W.kla_obj "<lambda>" (X.env.qual ++ "<lambda>") (lamArgs p) (lamBody p1 p2 p3 p4 p5 p6 p7) lamScope [("pegs", cc)] ((X.mg "__name__").getD .none) c' ctv)) fun b o e => Heap.get?_push_of_some _ e
    have hPc : P ≠ c' := Nat.ne_of_lt (Nat.lt_of_lt_of_le (I2.hok.lt hP) hge)
    have hrP : s1.heap.objs.size ≠ P := fun z => by
      have := I1.hok.lt hP
      rw [← z] at this
      exact absurd this (Nat.lt_irrefl _)
    refine east_fin (P := P) (lpos := lpos) hc hroom hN hsc hσ hcc hle k L I3 (fun b o e n => ?_) (.inr ⟨c', ?_, upd_same⟩) (Heap.get?_push_of_some _ (hx _ _ hrP hr2)) (Heap.get?_push_size _ rfl) (hrec.push _) fun b hb => ?_
    · rw [upd_ne (ne_of_none e (hfree c' hge)), upd_ne (fun z => by rw [z, hP] at e; cases e; exact n _ rfl)]
      exact e
    · rw [upd_ne hPc, upd_same]
      rfl
    · refine hfree b (Nat.le_trans ?_ hb)
      show s2.heap.objs.size ≤ (h'.push _).objs.size
      rw [Heap.size_push]
      omega
  · have hrec2 : s2.heap.CodeRec (.ref c') (X.env.qual ++ "<lambda>") := (I2.hok c' _ hc').1
    refine PySem.W.kla_makeFunctionHit (cv := .ref c') (clo_pegs hcc) I2.ok.glob hg2 hcode hC2 (I2.hok P _ hP) trivial (by simp [codeAmong, rawInt]) hB fun ctv h' tk hk hs3 => ?_
    refine kws_nil ?_
    have I3 := I2.kept (t' := tk) (h' := h'.push (PySem.W.kla_obj "<lambda>" (X.env.qual ++ "<lambda>") (lamArgs p) (lamBody p1 p2 p3 p4 p5 p6 p7) lamScope [("pegs", cc)] ((X.mg "__name__").getD .none) c' ctv)) fun b o e => Heap.get?_push_of_some _ (hk b o e)
    refine east_fin (P := P) (lpos := lpos) hc hroom hN hsc hσ hcc hle k L I3 (SameT.refl _) (.inr ⟨c', hP, hc'⟩) (Heap.get?_push_of_some _ (hk _ _ hr2)) (Heap.get?_push_size _ rfl) ((hrec2.keeps hk).push _) fun b hb => ?_
    refine hfree b (Nat.le_trans ?_ hb)
    show s2.heap.objs.size ≤ (h'.push _).objs.size
    rw [Heap.size_push]
    omega
end
end Peg
set_option Elab.async false
set_option maxRecDepth 100000
set_option maxHeartbeats 4000000
namespace Peg
open PySem PySem.W PySem.Spec
open PyProof.Rows hiding St
open L2
/-! ### the head for a row whose program makes a key function: one code table is tracked, and grows -/
theorem tabIn_of {K : Frag} {x : Str} {f c P : Addr} {oc oc2 : Value} {od od2 : Option Addr} {sl sl2 : Array (Option Value)} {fd : FuncData} {vs : Array Value} (a : nsIn K mainGlobals x = some (some (.ref f))) (l : K.lookup f = some ⟨oc, od, .func fd, sl⟩) (hc : fd.code = .ref c)
    (lc : K.lookup c = some ⟨oc2, od2, .fields vs, sl2⟩) (h11 : vs[11]? = some (.ref P)) : tabIn K x = some (c, P) := by
  unfold tabIn
  rw [a]
  simp only [l, hc, lc, h11]
theorem argH_noTab {K : Frag} {h : Heap} {A : List Addr} {P : Addr} {ps : Array Value} (ar : ∀ a ∈ A, ArgOb h A a) (e : h.get? P = some (tabObj ps)) : argH K h A P = none := by
  cases q : argH K h A P with
  | none => rfl
  | some u =>
    obtain ⟨_, vs, _, _, ⟨e2, _⟩ | ⟨e2, _⟩⟩ := argH_is ar q
    · rw [e] at e2
      cases e2
    · rw [e] at e2
      cases e2
theorem spec_callT {P : Program} {w : World} {K : Frag} {mg mb : Str → Option Value} {k : Nat} {fa c Pt : Addr} {fd : FuncData} {ps : List Str} {sp : Sp} {s₁ : Shared} {vals : List Value} {ds : List WData} {R : WRecords} {cl : Str → Option Addr} {d0 : WData}
    (KX : K.In s₁.heap) (hns : s₁.heap.Ns mainGlobals mg) (hb : s₁.heap.Ns builtinsNs mb) (hbb : ∀ x : Str, x ≠ "__name__" → mb x = bootBuiltins x) (hlim : s₁.heap.NoLimit) (hg : s₁.gens = #[])
    (hbm : ∃ bm ob, mg "__builtins__" = some (.ref bm) ∧ bm ≠ builtinsNs ∧ s₁.heap.get? bm = some ob ∧ ob.cls = .type "module" ∧ ob.dict = some builtinsNs ∧ ob.data = .plain)
    (hC : CodeHd s₁.heap c Pt) (hPt : s₁.heap.get? Pt = some (tabObj #[])) (hKP : K.lookup Pt = none)
    (hwl : WellAll w.params s₁.heap vals ds) (hpl : plWs ds = true) (hwt : ∀ d ∈ ds, d.weight ≤ 1048576) (hr : Room k callerA)
    (F : ∀ base : Heap, K.In base → base.Ns mainGlobals mg → Code base mg c Pt → FnOk P w K mg base CX0 k fa fd ps sp) (hbind : ∀ (s : Shared) (us : List Value), us.length = ps.length → BindsTo s fd ⟨us, []⟩ (ps.zip us)) (hlen : ds.length = ps.length)
    (hsp : ∀ (H0 H : Hp) (xs : List V), DwAll K H0 xs ds → Same H0 H → H Pt = some (.tbl #[]) → sp xs H (fun v H' => Dw K H' v d0) fun _ _ _ => False) :
    codeAny (model P w) callerA (.call (.ref fa) ⟨vals, []⟩) (fun r s' => ∃ u as, r = .ok (.ret u) ∧ ReadsW R cl s'.heap u d0 as ∧ OldK s₁.heap s'.heap ∧ s'.os = s₁.os ∧ AllBare s'.gens) s₁ := by
  obtain ⟨A, ho, ar⟩ := area_all ds vals hwl hpl hwt
  have hO0 : OnlyF (argH K s₁.heap A) := argH_only ar
  have hok0 : HOk P w (argH K s₁.heap A) s₁.heap := argH_ok ar
  have hS0 := dw_all KX ar ds vals hwl hpl ho
  have hV := vals_toV ho
  have hK0 : ∀ b u, argH K s₁.heap A b = some u → K.lookup b = none := fun b u q => (argH_is ar q).1
  have noA0 : ∀ {b : Addr} {o : Obj}, s₁.heap.get? b = some o → (∀ vs n, o.data ≠ .seq vs n) → argH K s₁.heap A b = none := fun {b o} e d => by
    cases q : argH K s₁.heap A b with
    | none => rfl
    | some u =>
      obtain ⟨_, vs, _, _, ⟨e2, _⟩ | ⟨e2, _⟩⟩ := argH_is ar q
      · rw [e2] at e
        cases e
        exact absurd rfl (d _ _)
      · rw [e2] at e
        cases e
        exact absurd rfl (d _ _)
  have hPn : argH K s₁.heap A Pt = none := argH_noTab ar hPt
  generalize argH K s₁.heap A = H0 at hO0 hok0 hS0 hK0 noA0 hPn
  have sm : Same H0 (upd H0 Pt (.tbl #[])) := same_new hPn
  have hP1 : upd H0 Pt (.tbl #[]) Pt = some (.tbl #[]) := upd_same
  have hok : HOk P w (upd H0 Pt (.tbl #[])) s₁.heap := fun b u e => by
    by_cases hb : b = Pt
    · subst hb
      rw [upd_same] at e
      cases e
      exact hPt
    · rw [upd_ne hb] at e
      exact (hok0 b u e).stay (fun _ _ _ q => q) (fun d q => sm _ _ q) fun d xs q => sm _ _ q
  have hO : ∀ b, upd H0 Pt (.tbl #[]) b = none ∨ (b = Pt) ∨ ∃ o u, upd H0 Pt (.tbl #[]) b = some (.frz o u) := fun b => by
    by_cases hb : b = Pt
    · exact .inr (.inl hb)
    · rw [upd_ne hb]
      rcases hO0 b with z | z
      · exact .inl z
      · exact .inr (.inr z)
  have hK : ∀ b u, upd H0 Pt (.tbl #[]) b = some u → K.lookup b = none := fun b u q => by
    by_cases hb : b = Pt
    · rw [hb]; exact hKP
    · rw [upd_ne hb] at q
      exact hK0 b u q
  have noA : ∀ {b : Addr} {o : Obj}, s₁.heap.get? b = some o → (∀ vs n, o.data ≠ .seq vs n) → (∀ vs, o ≠ tabObj vs) → upd H0 Pt (.tbl #[]) b = none := fun {b o} e d n => by
    have hb : b ≠ Pt := fun z => by
      rw [z, hPt] at e
      exact n #[] (Option.some.inj e).symm
    rw [upd_ne hb]
    exact noA0 e d
  have hsp1 := hsp H0 _ _ hS0 sm hP1
  generalize upd H0 Pt (.tbl #[]) = H at sm hP1 hok hO hK noA hsp1
  have base_of : ∀ {b : Addr} {o : Obj}, s₁.heap.get? b = some o → H b = none → (hidT s₁.heap H).get? b = some o := fun e n => hidT_get e n
  have nsK : ∀ {b : Addr} {m : Str → Option Value}, s₁.heap.Ns b m → (hidT s₁.heap H).Ns b m := fun {b m} ⟨o, es, ep, e, d, r⟩ =>
    ⟨o, es, ep, base_of e (noA e (fun vs n z => by rw [d] at z; cases z) fun vs z => by rw [z] at d; cases d), d, r⟩
  have nK : ∀ b o, K.lookup b = some o → H b = none := fun b o e => by
    cases q : H b with
    | none => rfl
    | some u =>
      rw [hK b u q] at e
      cases e
  have hKb : K.In (hidT s₁.heap H) := fun b o e => base_of (KX b o e) (nK b o e)
  have hM : Mod K mg (hidT s₁.heap H) := ⟨hKb, nsK hns, ⟨mb, nsK hb, hbb⟩, let ⟨mc, h1, h2⟩ := hlim; ⟨mc, nsK h1, h2⟩⟩
  have e0 : Env0 P w K mg (hidT s₁.heap H) callerA [] s₁ H := ⟨rfl, hM, fun b o e => of_hidT e, Nat.le_of_eq (hidT_size _ _), trivial, fun b hb => absurd (show b ∈ ([] : List Addr) from hb) (by simp), hok, .of_eq hg⟩
  have hCb : Code (hidT s₁.heap H) mg c Pt := by
    refine ⟨?_, ?_⟩
    · obtain ⟨o, vs, file, tf, flags, tg, inF, text, tt, e1, e2, e3, r⟩ := hC
      exact ⟨o, vs, file, tf, flags, tg, inF, text, tt, base_of e1 (noA e1 (fun vs n z => by rw [e3] at z; cases z) fun vs z => by rw [z] at e2; cases e2), e2, e3, r⟩
    · obtain ⟨bm, ob, e1, e2, e3, e4, e5, e6⟩ := hbm
      exact ⟨bm, ob, e1, e2, base_of e3 (noA e3 (fun vs n z => by rw [e6] at z; cases z) fun vs z => by rw [z] at e4; cases e4), e4, e5, e6⟩
  have hl : vals.length = ps.length := by rw [wellAll_len hwl]; exact hlen
  refine codeAny_mono ((F _ hKb (nsK hns) hCb).run callerA [] s₁ H ⟨vals, []⟩ vals (vals.map toV) _ _ hr e0 (hbind s₁ vals hl) hV hsp1) fun r s' x => ?_
  cases r with
  | error e => exact x.elim
  | ok fl =>
    cases fl with
    | next => exact False.elim x
    | brk => exact False.elim x
    | cont => exact False.elim x
    | ret u =>
      obtain ⟨v, H', os, bare, un, hok', r', q⟩ := x
      have kept : ∀ b o, b ≠ Pt → s₁.heap.get? b = some o → s'.heap.get? b = some o := fun b o hb e => by
        cases q2 : H b with
        | none => exact un.keep b o e q2 (by intro z; exact absurd (show b ∈ ([] : List Addr) from z) (by simp)) (by simp)
        | some u2 =>
          rcases hO b with z | z | ⟨ob, u3, z⟩
          · rw [q2] at z
            cases z
          · exact absurd z hb
          · have z2 := un.frzs b ob _ z
            obtain ⟨e1, _⟩ := hok b _ z
            obtain ⟨e2, _⟩ := hok' b _ z2
            rw [e] at e1
            cases e1
            exact e2
      obtain ⟨more, hP'⟩ := un.tbls Pt _ hP1
      have hPt' : s'.heap.get? Pt = some { cls := .none, data := .fields (#[] ++ more) } := hok' Pt _ hP'
      have old : OldK s₁.heap s'.heap := by
        refine ⟨fun b o e => ?_, fun b o e => ?_⟩
        · by_cases hb : b = Pt
          · subst hb
            rw [hPt] at e
            cases e
            exact .inr (.inl ⟨(hC.tab hPt).isCodeTable, rfl, #[], more, rfl, hPt'⟩)
          · exact .inl (kept b o hb e)
        · by_cases hb : b = Pt
          · exact ⟨_, hb ▸ hPt'⟩
          · exact ⟨o, kept b o hb e⟩
      have KX' : K.In s'.heap := fun b o e => kept b o (fun z => by rw [z, hKP] at e; cases e) (KX b o e)
      obtain ⟨as, hrd⟩ := Dw.reads (R := R) (cl := cl) hok' KX' d0 v u q r'
      exact ⟨u, as, rfl, hrd, old, os, bare⟩
/-- the goal that k_headS leaves (case hc); x: the def that makes the key function -/
theorem walk_specT {r : OpenSpec} {k : Nat} {q : Program} {loose : List Str} {XP : (Str → Option Value) → Heap → Prop} {YP : World → Heap → Prop} {d dx : DefRec} {x : Str} {K : Params → Frag} {c Pt : Addr} {ps : List Str} {sp : Frag → Sp}
    (hwell : r.wellSaid = true) (hlen : r.args.length = ps.length) (hr : Room k callerA)
    (hY : ∀ (w : World) (h : Heap), YP w h → (K w.params).In h) (hx : (recsOf q).find? (fun e => e.name == x) = some dx) (hti : ∀ w : World, tabIn (K w.params) x = some (c, Pt)) (hKP : ∀ w : World, (K w.params).lookup Pt = none)
    (F : ∀ (w : World) (mg : Str → Option Value) (fa : Addr) (h : Heap), YP w h → (K w.params).In h → h.Ns mainGlobals mg → mg d.name = some (.ref fa) →
      ∃ fd : FuncData, (∀ (s : Shared) (us : List Value), us.length = ps.length → BindsTo s fd ⟨us, []⟩ (ps.zip us)) ∧
        ∀ base : Heap, (K w.params).In base → base.Ns mainGlobals mg → Code base mg c Pt → FnOk r.prog w (K w.params) mg base CX0 k fa fd ps (sp (K w.params)))
    (hsp : ∀ (K : Frag) (H0 H : Hp) (xs : List V) (a : Codec.denoteAll r.args), Codec.withinAll r.args a = true → Codec.app r.args r.asked a = true → DwAll K H0 xs (Codec.encAll r.args a) → Same H0 H → H Pt = some (.tbl #[]) →
      sp K xs H (fun v H' => Dw K H' v (r.ret.enc (Codec.app r.args r.f a))) fun _ _ _ => False) :
    WalkOS q loose XP YP r d [] (fun f vs => PySem.call f vs) := by
  intro w s_0 s₁ mg mb G Y fa o pm cd doc dV kV ho hd hcd hD hmg hg args vals as hpre hlay hrd hwl hlo
  obtain ⟨a, e1, e2⟩ := os_pre_some hpre
  obtain ⟨e3, hwi⟩ := Codec.encAll_of_decAll r.args args a e1
  subst e3
  have KX := hY w _ Y
  obtain ⟨fd, hb, hF⟩ := F w mg fa _ Y KX G.T.g hmg
  obtain ⟨hC, hPt⟩ := tab_of G.T KX hx (hti w)
  refine enter_call (codeAny_mono (spec_callT (R := []) (cl := classAt s_0.heap) (d0 := r.ret.enc (Codec.app r.args r.f a)) KX G.T.g G.T.b G.T.builtins G.T.nolimit hg G.T.bmain hC hPt (hKP w) hwl (pl_encAll _ _) (layable_weight hlay) hr hF hb (by rw [encAll_len]; exact hlen)
    (fun H0 H xs hS sm hP => hsp (K w.params) H0 H xs a hwi e2 hS sm hP)) fun r' s' hq => ?_)
  obtain ⟨u, as', rfl, h1, h2, h3, h4⟩ := hq
  exact ⟨.inl ⟨u, _, as', rfl, fun _ => rfl, h1, (OpenSpec.post_iff hwell hwi _ _).mpr rfl, fun z => Bool.noConfusion (show false = true from z)⟩, h2, h3, h4⟩
end Peg
set_option Elab.async false
set_option linter.all false
set_option maxRecDepth 100000
set_option maxHeartbeats 2000000
namespace Peg
open PySem PySem.Spec
open PyProof.Rows hiding St
open L2
open PySem.W (Codec)
def top (i : Nat) : Stmt := PySem.Challenge.pw_peglines_s06_left.main.body.getD i (.Pass ⟨0, 0, 0, 0⟩)
abbrev s_places_of : Stmt := top 9
abbrev s_is_count : Stmt := top 13
abbrev s_has_far_place : Stmt := top 14
abbrev s_has_place_twice : Stmt := top 15
abbrev s_refusal_of_places : Stmt := top 12
abbrev s_steps_of : Stmt := top 16
abbrev s_is_between : Stmt := top 19
abbrev s_side_of : Stmt := top 20
abbrev s_lies_on : Stmt := top 18
abbrev s_first_touch : Stmt := top 17
abbrev s_refusal_of_untouching : Stmt := top 11
abbrev s_refusal_of_branching : Stmt := top 10
abbrev s_is_crossed : Stmt := top 25
abbrev s_letters_of_step : Stmt := top 24
abbrev s_letters_of_way : Stmt := top 23
abbrev s_pulled : Stmt := top 22
abbrev s_string_of_way : Stmt := top 21
abbrev s_left : Stmt := top 8
/-! ### the promises -/
theorem bt_abs : bootBuiltins "abs" = some (.builtin "abs") := by decide +kernel
theorem bt_min : bootBuiltins "min" = some (.builtin "min") := by decide +kernel
theorem bt_max : bootBuiltins "max" = some (.builtin "max") := by decide +kernel
theorem bt_len : bootBuiltins "len" = some (.builtin "len") := by decide +kernel
/-- a number of the file's top -/
def Num (mg : Str → Option Value) (x : Str) (z : Int) : Prop := ∃ t, mg x = some (.int z t)
def spCount : Sp := fun vs H Q _ => ∃ n m : Int, vs = [.int n, .int m] ∧ Q (.bl (decide (1 ≤ n) && decide (n ≤ m))) H
def spFar : Sp := fun vs H Q _ => ∃ p ps, vs = [.ref p] ∧ Ls PtAt H p ps ∧ Q (.bl (!ps.all Rg.Pt.ok)) H
def spTwice : Sp := fun vs H Q _ => ∃ p ps, vs = [.ref p] ∧ Ls PtAt H p ps ∧ ps.length ≤ 2200 ∧ ∀ H', Same H H' → Q (.bl (!decide ps.Nodup)) H'
def spRefusal : Sp := fun vs H Q _ => ∃ p ms q ws, vs = [.ref p, .ref q] ∧ Ls PtAt H p ms ∧ Ls (Ls PtAt) H q ws ∧ ms.length ≤ 2200 ∧ ∀ H', Same H H' → Q (.int (refusalL ms ws)) H'
def spPlaces (K : PySem.W.Frag) : Sp := fun vs H Q _ => ∃ a ns, vs = [.ref a] ∧ SqL K H a (ns.map V.int) ∧ ns.length % 2 = 0 ∧ ns.length ≤ 2200 ∧ ∀ H' p, Same H H' → Ls PtAt H' p (WqatcvNeutral.pts ns) → Q (.ref p) H'
def spSteps : Sp := fun vs H Q _ => ∃ p w, vs = [.ref p] ∧ Ls PtAt H p w ∧ 1 ≤ w.length ∧ w.length ≤ 2200 ∧ ∀ H' q, Same H H' → Ls StAt H' q (rsteps w) → Q (.ref q) H'
def Mid (p : Rg.Pt) : Prop := p.x.natAbs ≤ 4294967296 ∧ p.y.natAbs ≤ 4294967296
theorem mid_ok {p : Rg.Pt} (h : p.ok = true) : Mid p := by
  unfold Rg.Pt.ok Rg.FAR at h
  simp only [Bool.and_eq_true, decide_eq_true_eq] at h
  exact ⟨by omega, by omega⟩
def spSide : Sp := fun vs H Q _ => ∃ c a b pc pa pb, vs = [.ref c, .ref a, .ref b] ∧ PtAt H c pc ∧ PtAt H a pa ∧ PtAt H b pb ∧ Mid pa ∧ Mid pb ∧ Q (.int (Rg.leftOf pa pb pc)) H
def spBetw : Sp := fun vs H Q _ => ∃ n a b : Int, vs = [.int n, .int a, .int b] ∧ Q (.bl (decide (min a b ≤ n) && decide (n ≤ max a b))) H
def spLies : Sp := fun vs H Q _ => ∃ c a b pc pa pb, vs = [.ref c, .ref a, .ref b] ∧ PtAt H c pc ∧ PtAt H a pa ∧ PtAt H b pb ∧ Mid pa ∧ Mid pb ∧ Q (.bl (Rg.between pa pb pc)) H
def spFirst : Sp := fun vs H Q _ => ∃ p ms q w, vs = [.ref p, .ref q] ∧ Ls PtAt H p ms ∧ Ls PtAt H q w ∧ (∀ x ∈ w, Mid x) ∧ 1 ≤ w.length ∧ w.length ≤ 2200 ∧
  (Rg.touchedBy ms w = none → ∀ H', Same H H' → Q .non H') ∧ ∀ i k, Rg.touchedBy ms w = some (i, k) → ∀ H' r, Same H H' → H' r = some (.tup [.int (i : Nat), .int (k : Nat)]) → Q (.ref r) H'
section
variable {P : Program} {w : World} {K : PySem.W.Frag} {mg : Str → Option Value} {base : Heap}
theorem fits {z : Int} (h1 : -9223372036854775808 ≤ z) (h2 : z < 9223372036854775808) : Builtin.Range.rangeFitsLong z = true := by
  unfold Builtin.Range.rangeFitsLong
  rw [Bool.and_eq_true]
  exact ⟨decide_eq_true h1, decide_eq_true h2⟩
theorem rg2 {n : Nat} (h : n % 2 = 0) (hn : n ≤ 2200) : RgC 0 (n : Int) 2 (n / 2) := by
  have e : Builtin.Range.rangeSize 0 (n : Int) 2 = ((n / 2 : Nat) : Int) := by
    unfold Builtin.Range.rangeSize
    rw [if_pos (by decide)]
    split <;> omega
  refine ⟨by decide, by decide, ?_, e⟩
  unfold Builtin.Range.small
  rw [e, if_pos (by decide), fits (by omega) (by omega), fits (by omega) (by omega), fits (by omega) (by omega), fits (by omega) (by omega), fits (by omega) (by omega), Bool.or_true]
  rfl
theorem sc_places_of : FnScope ["numbers", "i"] ["numbers"] (defScope s_places_of) := ⟨rfl, rfl, rfl, by decide +kernel, rfl, by decide +kernel, by decide +kernel⟩
theorem ok_places_of (G : Got K mg "places_of" ["numbers"] s_places_of) (hlen : mg "len" = none) (hrange : mg "range" = none) : DefOk P w K mg base 1 "places_of" ["numbers"] (spPlaces K) := by
  refine G.ok sc_places_of (fun vs H Q E h => ?_) (fun f cdv A outer s H vs Q E hr h => ?_)
  · obtain ⟨a, ns, rfl, _⟩ := h
    rfl
  · obtain ⟨a, ns, rfl, hS, hev, hle, k⟩ := h
    refine ⟨_, pss_one (ps_ret (pe_lc (own := [("i", 1)]) rfl sc_places_of.nd (pi_range3 rfl hrange (pa_cons pe_int (pa_cons (pe_callB call_len_seq rfl hlen bt_len (pa_cons (pv 0) pa_nil)) (pa_cons pe_int pa_nil)))) (blkOk_by (show blkC ["numbers", "i"] (defScope s_places_of) _ [("i", 1)] = true by decide +kernel))
      (fun _ _ _ _ _ => pg_name (i := 1) sc_places_of.nd rfl (Or.inl rfl)) (fun _ _ _ _ _ => pts_nil)
      (fun _ _ _ _ _ => pe_tup (pa_cons (pe_ix (ixK (K := K) rfl) (pv 0) (pv 1) (fun _ _ => rfl)) (pa_cons (pe_ix (ixK (K := K) rfl) (pv 0) (pe_op op_add (pv 1) pe_int) (fun _ _ => rfl)) pa_nil))))), ?_⟩
    refine ⟨_, rfl, _, _, rfl, .inl hS, _, _, _, _, rfl, rg2 (n := (ns.map V.int).length) (by rw [List.length_map]; exact hev) (by rw [List.length_map]; exact hle), fun D hD => ?_⟩
    rw [List.length_map]
    refine lc_it (n := ns.length / 2) (fun i H' => ∃ as, Same H H' ∧ LsAt PtAt H' D ((WqatcvNeutral.pts ns).take i) as ∧ as.length = i) ⟨[], same_new hD, LsAt.nil, rfl⟩ (fun i H' hi _ => hi) (fun H' _ => Nat.le_refl _) ?_ ?_
    · rintro i H' x H'' hi ⟨as, s1, L, hl⟩ ⟨rfl, rfl⟩
      obtain ⟨x, hx⟩ : ∃ x, ns[2 * i]? = some x := ⟨_, List.getElem?_eq_getElem (by omega)⟩
      obtain ⟨y, hy⟩ : ∃ y, ns[2 * i + 1]? = some y := ⟨_, List.getElem?_eq_getElem (by omega)⟩
      refine ⟨rfl, ?_⟩
      refine ⟨_, rfl, _, rfl, _, _, _, _, rfl, rfl, s1.seq hS, at_of (j := 2 * i) (by omega) (map_int_get hx), _, rfl, _, rfl, _, _, rfl, rfl, _, _, _, _, rfl, rfl, s1.seq hS, at_of (j := 2 * i + 1) (by omega) (map_int_get hy), ?_⟩
      refine ⟨by show 2 ≤ sizeLine; decide, fun t ht => ⟨_, (same_new ht) _ _ L.lst, line _ (by rw [List.length_map]; omega), as ++ [t], ?_, ?_, by simp [hl]⟩⟩
      · intro b o e
        have hb : b ≠ D := ne_of_none e hD
        rw [upd_ne hb]
        exact (same_new ht) b o (s1 b o e)
      · rw [take_snoc (pts_at ns i x y hx hy)]
        have e : as.map V.ref ++ [V.ref t] = (as ++ [t]).map V.ref := by simp
        rw [e]
        exact L.snoc tame_pt (same_new ht) (show PtAt _ t ⟨x, y⟩ from upd_same)
    · rintro H' ⟨as, s1, L, hl⟩
      rw [List.take_of_length_le (by rw [pts_len]; exact Nat.le_refl _)] at L
      exact k H' D s1 ⟨as, L⟩
theorem sc_is_count : FnScope ["count", "most"] ["count", "most"] (defScope s_is_count) := ⟨rfl, rfl, rfl, by decide +kernel, rfl, by decide +kernel, by decide +kernel⟩
theorem ok_is_count (G : Got K mg "is_count" ["count", "most"] s_is_count) : DefOk P w K mg base 1 "is_count" ["count", "most"] spCount := by
  refine G.ok sc_is_count (fun vs H Q E h => ?_) (fun f cdv A outer s H vs Q E hr h => ?_)
  · obtain ⟨n, m, rfl, _⟩ := h
    rfl
  · obtain ⟨n, m, rfl, k⟩ := h
    refine ⟨_, pss_one (ps_ret (pe_and (pe_cmpR op_ge (pv 0) pe_int (nomark _)) (pe_one (pe_cmpR op_le (pv 0) (pv 1) (nomark _))))), ?_⟩
    refine ⟨_, rfl, _, _, rfl, rfl, _, rfl, ite_b (fun h => ⟨_, rfl, _, rfl, _, _, rfl, rfl, ?_⟩) (fun h => ?_)⟩
    · rw [h, Bool.true_and] at k
      exact k
    · rw [h, Bool.false_and] at k
      exact k
theorem sc_has_far_place : FnScope ["places", "place"] ["places"] (defScope s_has_far_place) := ⟨rfl, rfl, rfl, by decide +kernel, rfl, by decide +kernel, by decide +kernel⟩
theorem ok_has_far_place (G : Got K mg "has_far_place" ["places"] s_has_far_place) (habs : mg "abs" = none) (hF : Num mg "FARTHEST" 1048576) : DefOk P w K mg base 1 "has_far_place" ["places"] spFar := by
  obtain ⟨tF, hF⟩ := hF
  refine G.ok sc_has_far_place (fun vs H Q E h => ?_) (fun f cdv A outer s H vs Q E hr h => ?_)
  · obtain ⟨p, ps, rfl, _⟩ := h
    rfl
  · obtain ⟨p, ps, rfl, ⟨as, L⟩, k⟩ := h
    refine ⟨_, pss_cons (ps_for PassesOwn.never rfl (pi_list (pv 0)) (pg_name (i := 1) sc_has_far_place.nd rfl (Or.inl rfl))
      (pss_one (ps_if (PW.pt (pw_or (pt_cmpR op_gt (pe_callB call_abs rfl habs bt_abs (pa_cons (pe_ix ix_tup (pv 1) pe_int (fun _ _ => rfl)) pa_nil)) (pe_glob rfl hF (v := .int 1048576) ⟨_, rfl⟩) (nomark _))
        (pw_or1 (pt_cmpR op_gt (pe_callB call_abs rfl habs bt_abs (pa_cons (pe_ix ix_tup (pv 1) pe_int (fun _ _ => rfl)) pa_nil)) (pe_glob rfl hF (v := .int 1048576) ⟨_, rfl⟩) (nomark _)))))
        (pss_one (ps_ret pe_bl)) pss_nil)))
      (pss_one (ps_ret pe_bl)), ?_⟩
    refine ⟨_, rfl, p, rfl, ⟨_, SqL.of L.lst⟩, for_list (K := K) (a := p) (xs := as.map V.ref) (fun i σ H' => ∃ v : Option V, σ = [some (.ref p), v] ∧ H' = H ∧ ∀ (j : Nat) q, j < i → ps[j]? = some q → Rg.Pt.ok q = true)
      ⟨none, rfl, rfl, fun j q h => absurd h (Nat.not_lt_zero j)⟩ (fun i σ H' _ ⟨_, _, e, _⟩ => by subst e; exact SqL.of L.lst) ?_ ?_⟩
    · rintro i y σ H' hi ⟨v, rfl, rfl, hok⟩
      obtain ⟨c, q, rfl, hc, hq, hp⟩ := L.item hi
      have fin : far q = true → Q (.bl true) H' := fun e => by
        rw [all_false hq (by rw [far_ok, e]; rfl)] at k
        exact k
      refine ⟨_, rfl, _, _, _, _, rfl, rfl, hp.ix0, at0, _, rfl, _, _, rfl, rfl, _, rfl, ite_b (fun h1 => iteT (fin (by unfold far; rw [h1]; rfl)))
        (fun h1 => ⟨_, rfl, _, _, _, _, rfl, rfl, hp.ix0, at1, _, rfl, _, _, rfl, rfl, _, rfl, ite_b (fun h2 => fin (by unfold far; rw [h2, Bool.or_true])) (fun h2 => ?_)⟩)⟩
      refine ⟨_, rfl, rfl, fun j q' hj hq' => ?_⟩
      by_cases e : j < i
      · exact hok j q' e hq'
      · obtain rfl : j = i := by omega
        rw [hq] at hq'
        cases hq'
        rw [far_ok]
        unfold far
        rw [h1, h2]
        rfl
    · rintro σ H' ⟨v, rfl, rfl, hok⟩
      show Q (.bl false) H'
      rw [L.mlen] at hok
      rw [all_true (f := Rg.Pt.ok) (l := ps) fun i x hx => hok i x (List.getElem?_eq_some_iff.mp hx).1 hx] at k
      exact k
def keyOf (p : Rg.Pt) : List Key := [Sum.inl p.x, Sum.inl p.y]
theorem keyOf_inj {p q : Rg.Pt} (h : keyOf p = keyOf q) : p = q := by
  cases p; cases q
  unfold keyOf at h
  simp only [List.cons.injEq, Sum.inl.injEq, and_true] at h
  rw [h.1, h.2]
theorem mem_keys {l : List Rg.Pt} {q : Rg.Pt} : keyOf q ∈ l.map keyOf ↔ q ∈ l := by
  constructor
  · intro h
    obtain ⟨p, hp, e⟩ := List.mem_map.mp h
    rw [← keyOf_inj e]
    exact hp
  · exact fun h => List.mem_map.mpr ⟨q, h, rfl⟩
theorem sc_has_place_twice : FnScope ["places", "seen", "place"] ["places"] (defScope s_has_place_twice) := ⟨rfl, rfl, rfl, by decide +kernel, rfl, by decide +kernel, by decide +kernel⟩
theorem ok_has_place_twice (G : Got K mg "has_place_twice" ["places"] s_has_place_twice) : DefOk P w K mg base 1 "has_place_twice" ["places"] spTwice := by
  refine G.ok sc_has_place_twice (fun vs H Q E h => ?_) (fun f cdv A outer s H vs Q E hr h => ?_)
  · obtain ⟨p, ps, rfl, _⟩ := h
    rfl
  · obtain ⟨p, ps, rfl, ⟨as, L⟩, hlen, k⟩ := h
    have hu := hu_of hr
    refine ⟨_, pss_cons (ps_set (i := 1) sc_has_place_twice.nd rfl (Or.inl rfl) pe_dnewT)
      (pss_cons (ps_for PassesOwn.never rfl (pi_list (pv 0)) (pg_name (i := 2) sc_has_place_twice.nd rfl (Or.inl rfl))
        (pss_cons (ps_if (pt_cmp (pc_din hu (pv 2) (pv 1))) (pss_one (ps_ret pe_bl)) pss_nil)
        (pss_one (ps_dput hu (pv 1) (pv 2) pe_bl rfl))))
      (pss_one (ps_ret pe_bl))), ?_⟩
    intro d hd
    have L0 : LsAt PtAt (upd H d (.dT [])) p ps as := L.same tame_pt (same_new hd)
    refine ⟨_, rfl, p, rfl, ⟨_, SqL.of L0.lst⟩, for_list (K := K) (a := p) (xs := as.map V.ref) (fun i σ H' => ∃ (v : Option V) (kvs : List (List Key × V)), σ = [some (.ref p), some (.ref d), v] ∧ Same H H' ∧ H' d = some (.dT kvs) ∧ kvs.length = i ∧ kvs.map (·.1) = (ps.take i).map keyOf ∧ (ps.take i).Nodup)
      ⟨none, [], rfl, same_new hd, upd_same, rfl, rfl, List.nodup_nil⟩ (fun i σ H' _ ⟨_, _, _, s1, _⟩ => SqL.of (s1 _ _ L.lst)) ?_ ?_⟩
    · rintro i y σ H' hi ⟨v, kvs, rfl, s1, hD, hn, hk, nd⟩
      obtain ⟨c, q, rfl, hc, hq, _⟩ := L.item hi
      have hp : PtAt H' c q := tame_pt _ _ _ _ (.of s1) (L.at_ i c q hc hq)
      have hib : i < ps.length := (List.getElem?_eq_some_iff.mp hq).1
      have hcq : H' c = some (.tup ((keyOf q).map kV)) := hp
      refine ⟨_, rfl, _, rfl, d, _, rfl, DGet.t hD hcq, _, rfl, ?_⟩
      cases e : valV kvs (keyOf q) with
      | some z =>
        refine iteT ?_
        have hm := valV_in e
        rw [hk, mem_keys] at hm
        have k' := k H' s1
        rw [decide_eq_false (not_nodup hq hm)] at k'
        exact k'
      | none =>
        refine iteF ?_
        have hm := valV_not e
        rw [hk, mem_keys] at hm
        refine ⟨_, rfl, _, rfl, d, _, rfl, DPut.t hD hcq (line _ (by omega)), ?_⟩
        refine ⟨_, _, rfl, fun b o eb => ?_, upd_same, ?_, ?_, ?_⟩
        · rw [upd_ne (ne_of_none eb hd)]
          exact s1 b o eb
        · rw [putK_new _ e, List.length_append, hn]
          rfl
        · rw [putK_new _ e, List.map_append, hk, take_snoc hq, List.map_append]
          rfl
        · rw [take_snoc hq]
          exact nodup_snoc nd hm
    · rintro σ H' ⟨v, kvs, rfl, s1, hD, hn, hk, nd⟩
      rw [L.mlen, List.take_length] at nd
      have k' := k H' s1
      rw [decide_eq_true nd] at k'
      exact k'
theorem isCount_int (n m : Nat) : (decide (1 ≤ (n : Int)) && decide ((n : Int) ≤ (m : Int))) = isCount n m := by
  unfold isCount
  congr 1
  · exact decide_eq_decide.mpr (by omega)
  · exact decide_eq_decide.mpr (by omega)
theorem LsAt.same2 {H H' : Hp} {p : Addr} {xs : List Rg.Way} {as : List Addr} (h : LsAt (Ls PtAt) H p xs as) (s : Same H H') : LsAt (Ls PtAt) H' p xs as :=
  ⟨s _ _ h.lst, h.len, fun j a x ha hx => (h.at_ j a x ha hx).same tame_pt s⟩
theorem Ls.same2 {H H' : Hp} {p : Addr} {xs : List Rg.Way} (h : Ls (Ls PtAt) H p xs) (s : Same H H') : Ls (Ls PtAt) H' p xs := let ⟨as, q⟩ := h; ⟨as, q.same2 s⟩
/-- a new list of one way -/
theorem ways1 {H : Hp} {l q : Addr} {w : Rg.Way} (h : Ls PtAt H q w) (hl : H l = none) : Ls (Ls PtAt) (upd H l (.lst [.ref q])) l [w] := by
  refine ⟨[q], upd_same, rfl, fun j a x ha hx => ?_⟩
  match j, ha, hx with
  | 0, ha, hx =>
    obtain rfl : q = a := Option.some.inj ha
    obtain rfl : w = x := Option.some.inj hx
    exact h.same tame_pt (same_new hl)
  | j + 1, ha, _ => simp at ha
theorem ways2 {H : Hp} {l q r : Addr} {w v : Rg.Way} (h : Ls PtAt H q w) (h2 : Ls PtAt H r v) (hl : H l = none) : Ls (Ls PtAt) (upd H l (.lst [.ref q, .ref r])) l [w, v] := by
  refine ⟨[q, r], upd_same, rfl, fun j a x ha hx => ?_⟩
  match j, ha, hx with
  | 0, ha, hx =>
    obtain rfl : q = a := Option.some.inj ha
    obtain rfl : w = x := Option.some.inj hx
    exact h.same tame_pt (same_new hl)
  | 1, ha, hx =>
    obtain rfl : r = a := Option.some.inj ha
    obtain rfl : v = x := Option.some.inj hx
    exact h2.same tame_pt (same_new hl)
  | j + 2, ha, _ => simp at ha
theorem refusalL_m {ms : List Rg.Pt} {ws : List Rg.Way} (h : isCount ms.length 32 = false) : refusalL ms ws = -2 := by
  unfold refusalL
  rw [h, Bool.false_and, if_pos rfl]
theorem refusalL_w {ms : List Rg.Pt} {ws : List Rg.Way} (h : (ws.all fun w => isCount w.length 1024) = false) : refusalL ms ws = -2 := by
  unfold refusalL
  rw [h, Bool.and_false, if_pos rfl]
theorem refusalL_p {ms : List Rg.Pt} {ws : List Rg.Way} (h1 : isCount ms.length 32 = true) (h2 : (ws.all fun w => isCount w.length 1024) = true) : refusalL ms ws = if ((ms.all Rg.Pt.ok && decide ms.Nodup) && ws.all fun w => w.all Rg.Pt.ok) = false then -8 else 0 := by
  unfold refusalL
  rw [h1, h2, if_neg (by decide)]
theorem sc_refusal_of_places : FnScope ["pegs", "ways", "way"] ["pegs", "ways"] (defScope s_refusal_of_places) := ⟨rfl, rfl, rfl, by decide +kernel, rfl, by decide +kernel, by decide +kernel⟩
theorem ok_refusal_of_places (G : Got K mg "refusal_of_places" ["pegs", "ways"] s_refusal_of_places) (hlen : mg "len" = none) (h1 : Num mg "MOST_MARKS" 32) (h2 : Num mg "MOST_PLACES" 1024) (h3 : Num mg "WRONG_COUNT" (-2)) (h4 : Num mg "WRONG_PLACE" (-8))
    (Dc : DefOk P w K mg base 1 "is_count" ["count", "most"] spCount) (Df : DefOk P w K mg base 1 "has_far_place" ["places"] spFar) (Dt : DefOk P w K mg base 1 "has_place_twice" ["places"] spTwice) :
    DefOk P w K mg base 2 "refusal_of_places" ["pegs", "ways"] spRefusal := by
  obtain ⟨t1, h1⟩ := h1
  obtain ⟨t2, h2⟩ := h2
  obtain ⟨t3, h3⟩ := h3
  obtain ⟨t4, h4⟩ := h4
  refine G.ok sc_refusal_of_places (fun vs H Q E h => ?_) (fun f cdv A outer s H vs Q E hr h => ?_)
  · obtain ⟨p, ms, q, ws, rfl, _⟩ := h
    rfl
  · obtain ⟨p, ms, q, ws, rfl, ⟨as, L⟩, ⟨bs, M⟩, hl, k⟩ := h
    have nd := sc_refusal_of_places.nd
    refine ⟨_, pss_cons (ps_if (pt_not (pt_val (pe_def Dc hr rfl (pa_cons (pe_callB call_len_seq rfl hlen bt_len (pa_cons (pv 0) pa_nil)) (pa_cons (pe_glob rfl h1 (v := .int 32) ⟨_, rfl⟩) pa_nil)))))
        (pss_one (ps_ret (pe_glob rfl h3 (v := .int (-2)) ⟨_, rfl⟩))) pss_nil)
      (pss_cons (ps_for PassesOwn.never rfl (pi_list (pv 1)) (pg_name (i := 2) nd rfl (Or.inl rfl))
        (pss_one (ps_if (pt_not (pt_val (pe_def Dc hr rfl (pa_cons (pe_callB call_len_seq rfl hlen bt_len (pa_cons (pv 2) pa_nil)) (pa_cons (pe_glob rfl h2 (v := .int 1024) ⟨_, rfl⟩) pa_nil)))))
          (pss_one (ps_ret (pe_glob rfl h3 (v := .int (-2)) ⟨_, rfl⟩))) pss_nil)))
      (pss_cons (ps_if (PW.pt (pw_or (pt_val (pe_def Df hr rfl (pa_cons (pv 0) pa_nil))) (pw_or1 (pt_val (pe_def Dt hr rfl (pa_cons (pv 0) pa_nil))))))
        (pss_one (ps_ret (pe_glob rfl h4 (v := .int (-8)) ⟨_, rfl⟩))) pss_nil)
      (pss_cons (ps_for PassesOwn.never rfl (pi_list (pv 1)) (pg_name (i := 2) nd rfl (Or.inl rfl))
        (pss_one (ps_if (pt_val (pe_def Df hr rfl (pa_cons (pv 2) pa_nil))) (pss_one (ps_ret (pe_glob rfl h4 (v := .int (-8)) ⟨_, rfl⟩))) pss_nil)))
      (pss_one (ps_ret pe_int))))), ?_⟩
    have e1 := isCount_int (as.map V.ref).length 32
    rw [L.mlen] at e1
    have S0 : Same H H := Same.refl H
    refine ⟨_, rfl, _, _, rfl, .inl (SqL.of L.lst), _, _, rfl, _, rfl, ?_⟩
    rw [L.mlen]
    refine ite_b (fun z => ?_) (fun z => ?_)
    · have k' := k H S0
      rw [refusalL_m (by rw [← e1]; exact Bool.not_eq_true' _ |>.mp z)] at k'
      exact k'
    have c1 : isCount ms.length 32 = true := by rw [← e1]; exact Bool.not_eq_false' _ |>.mp z
    refine ⟨_, rfl, q, rfl, ⟨_, SqL.of M.lst⟩, for_list (K := K) (a := q) (xs := bs.map V.ref) (fun i σ H' => ∃ v : Option V, σ = [some (.ref p), some (.ref q), v] ∧ H' = H ∧ ∀ (j : Nat) u, j < i → ws[j]? = some u → isCount u.length 1024 = true)
      ⟨none, rfl, rfl, fun j u h => absurd h (Nat.not_lt_zero j)⟩ (fun i σ H' _ ⟨_, _, e, _⟩ => by subst e; exact SqL.of M.lst) ?_ ?_⟩
    · rintro i y σ H' hi ⟨v, rfl, rfl, hok⟩
      obtain ⟨c, u, rfl, hc, hu, ⟨cs, U⟩⟩ := M.item hi
      have e2 := isCount_int (cs.map V.ref).length 1024
      rw [U.mlen] at e2
      refine ⟨_, rfl, _, _, rfl, .inl (SqL.of U.lst), _, _, rfl, _, rfl, ?_⟩
      rw [U.mlen]
      refine ite_b (fun z => ?_) (fun z => ?_)
      · have k' := k H' S0
        rw [refusalL_w (all_false hu (by rw [← e2]; exact Bool.not_eq_true' _ |>.mp z))] at k'
        exact k'
      · refine ⟨_, rfl, rfl, fun j u' hj hu' => ?_⟩
        by_cases e : j < i
        · exact hok j u' e hu'
        · obtain rfl : j = i := by omega
          rw [hu] at hu'
          cases hu'
          rw [← e2]
          exact Bool.not_eq_false' _ |>.mp z
    · rintro σ H' ⟨v, rfl, rfl, hok⟩
      rw [M.mlen] at hok
      have c2 : (ws.all fun w => isCount w.length 1024) = true := all_true fun i x hx => hok i x (List.getElem?_eq_some_iff.mp hx).1 hx
      rw [refusalL_p c1 c2] at k
      have bad8 : ∀ H'', Same H' H'' → ((ms.all Rg.Pt.ok && decide ms.Nodup) && ws.all fun w => w.all Rg.Pt.ok) = false → Q (.int (-8)) H'' := fun H'' S z => by
        have k' := k H'' S
        rw [if_pos z] at k'
        exact k'
      refine ⟨_, rfl, p, ms, rfl, ⟨as, L⟩, _, rfl, ite_b (fun y => iteT (bad8 H' S0 ?_)) (fun y => ⟨_, rfl, p, ms, rfl, ⟨as, L⟩, hl, fun H2 S => ⟨_, rfl, ite_b (fun y3 => bad8 H2 S ?_) (fun y3 => ?_)⟩⟩)⟩
      · rw [Bool.not_eq_true' _ |>.mp y, Bool.false_and, Bool.false_and]
      · rw [Bool.not_eq_true' _ |>.mp y3, Bool.and_false, Bool.false_and]
      have M2 := M.same2 S
      refine ⟨_, rfl, q, rfl, ⟨_, SqL.of M2.lst⟩, for_list (K := K) (a := q) (xs := bs.map V.ref) (fun i σ H' => ∃ v : Option V, σ = [some (.ref p), some (.ref q), v] ∧ H' = H2 ∧ ∀ (j : Nat) u, j < i → ws[j]? = some u → u.all Rg.Pt.ok = true)
        ⟨_, rfl, rfl, fun j u h => absurd h (Nat.not_lt_zero j)⟩ (fun i σ H' _ ⟨_, _, e, _⟩ => by subst e; exact SqL.of M2.lst) ?_ ?_⟩
      · rintro i y' σ H3 hi ⟨v, rfl, rfl, hok2⟩
        obtain ⟨c, u, rfl, hc, hu, hU⟩ := M2.item hi
        refine ⟨_, rfl, c, u, rfl, hU, _, rfl, ite_b (fun z2 => bad8 _ S ?_) (fun z2 => ?_)⟩
        · rw [all_false hu (Bool.not_eq_true' _ |>.mp z2), Bool.and_false]
        · refine ⟨_, rfl, rfl, fun j u' hj hu' => ?_⟩
          by_cases e : j < i
          · exact hok2 j u' e hu'
          · obtain rfl : j = i := by omega
            rw [hu] at hu'
            cases hu'
            exact Bool.not_eq_false' _ |>.mp z2
      · rintro σ H3 ⟨v, rfl, rfl, hok2⟩
        rw [M.mlen] at hok2
        have c3 : (ws.all fun w => w.all Rg.Pt.ok) = true := all_true fun i x hx => hok2 i x (List.getElem?_eq_some_iff.mp hx).1 hx
        have k' := k H3 S
        rw [if_neg (by rw [Bool.not_eq_false' _ |>.mp y, Bool.not_eq_false' _ |>.mp y3, c3]; decide)] at k'
        exact k'
theorem ok_mid {w : Rg.Way} (h : ∀ x ∈ w, Rg.Pt.ok x = true) : ∀ x ∈ w, Mid x := fun x hx => mid_ok (h x hx)
theorem sc_steps_of : FnScope ["way", "i"] ["way"] (defScope s_steps_of) := ⟨rfl, rfl, rfl, by decide +kernel, rfl, by decide +kernel, by decide +kernel⟩
theorem ok_steps_of (G : Got K mg "steps_of" ["way"] s_steps_of) (hlen : mg "len" = none) (hrange : mg "range" = none) : DefOk P w K mg base 1 "steps_of" ["way"] spSteps := by
  refine G.ok sc_steps_of (fun vs H Q E h => ?_) (fun f cdv A outer s H vs Q E hr h => ?_)
  · obtain ⟨p, ws, rfl, _⟩ := h
    rfl
  · obtain ⟨p, ws, rfl, ⟨as, L⟩, hne, hle, k⟩ := h
    refine ⟨_, pss_cons (ps_if (pt_cmpR op_eq (pe_callB call_len_seq rfl hlen bt_len (pa_cons (pv 0) pa_nil)) pe_int (nomark _))
        (pss_one (ps_ret (pe_lst (pa_cons (pe_tup (pa_cons (pe_ix ix_list (pv 0) pe_int (fun _ _ => rfl)) (pa_cons (pe_ix ix_list (pv 0) pe_int (fun _ _ => rfl)) pa_nil))) pa_nil)))) pss_nil)
      (pss_one (ps_ret (pe_lc (own := [("i", 1)]) rfl sc_steps_of.nd (pi_range1 rfl hrange (pa_cons (pe_op op_sub (pe_callB call_len_seq rfl hlen bt_len (pa_cons (pv 0) pa_nil)) pe_int) pa_nil)) (blkOk_by (show blkC ["way", "i"] (defScope s_steps_of) _ [("i", 1)] = true by decide +kernel))
        (fun _ _ _ _ _ => pg_name (i := 1) sc_steps_of.nd rfl (Or.inl rfl)) (fun _ _ _ _ _ => pts_nil)
        (fun _ _ _ _ _ => pe_tup (pa_cons (pe_ix (ixK (K := K) rfl) (pv 0) (pv 1) (fun _ _ => rfl)) (pa_cons (pe_ix (ixK (K := K) rfl) (pv 0) (pe_op op_add (pv 1) pe_int) (fun _ _ => rfl)) pa_nil)))))), ?_⟩
    refine ⟨_, rfl, _, _, rfl, .inl (SqL.of L.lst), rfl, _, rfl, ?_⟩
    rw [L.mlen]
    refine ite2 (fun h1 => ?_) (fun h1 => ?_)
    · have e1 : ws.length = 1 := by
        have q := of_decide_eq_true h1
        injection q with q
        omega
      obtain ⟨x, rfl⟩ : ∃ x, ws = [x] := List.length_eq_one_iff.mp e1
      obtain ⟨a, ha, hx⟩ := L.get (j := 0) (x := x) rfl
      have ea := map_ref_get ha
      refine ⟨_, rfl, _, _, _, _, rfl, rfl, SqL.of L.lst, at_of (j := 0) rfl ea, _, rfl, _, _, _, _, rfl, rfl, SqL.of L.lst, at_of (j := 0) rfl ea, by show 2 ≤ sizeLine; decide, fun t ht => ⟨by show 1 ≤ sizeLine; decide, fun l hl => ?_⟩⟩
      have s1 : Same H (upd H t (.tup [.ref a, .ref a])) := same_new ht
      have s2 : Same (upd H t (.tup [.ref a, .ref a])) (upd (upd H t (.tup [.ref a, .ref a])) l (.lst [.ref t])) := same_new hl
      refine k _ l (s1.trans s2) ⟨[t], upd_same, rfl, fun j b q hb hq => ?_⟩
      match j, hb, hq with
      | 0, hb, hq =>
        obtain rfl : t = b := Option.some.inj hb
        obtain rfl : (x, x) = q := Option.some.inj hq
        exact ⟨a, a, s2 _ _ upd_same, s2 _ _ (s1 _ _ hx), s2 _ _ (s1 _ _ hx)⟩
      | j + 1, hb, _ => simp at hb
    · have e1 : ws.length ≠ 1 := fun z => h1 (decide_eq_true (by rw [z]; rfl))
      refine ⟨_, rfl, _, _, rfl, .inl (SqL.of L.lst), _, _, rfl, rfl, _, rfl, ?_⟩
      rw [L.mlen]
      refine ⟨by omega, by omega, fun D hD => ?_⟩
      have en : ((ws.length : Int) - 1).toNat = ws.length - 1 := by omega
      rw [en]
      refine lc_it (n := ws.length - 1) (fun i H' => ∃ bs, Same H H' ∧ LsAt StAt H' D ((rsteps ws).take i) bs ∧ bs.length = i) ⟨[], same_new hD, LsAt.nil, rfl⟩ (fun i H' hi _ => hi) (fun H' _ => Nat.le_refl _) ?_ ?_
      · rintro i H' x H'' hi ⟨bs, s1, M, hl⟩ ⟨rfl, rfl⟩
        obtain ⟨x, hx⟩ : ∃ x, ws[i]? = some x := ⟨_, List.getElem?_eq_getElem (by omega)⟩
        obtain ⟨y, hy⟩ : ∃ y, ws[i + 1]? = some y := ⟨_, List.getElem?_eq_getElem (by omega)⟩
        obtain ⟨a, ha, hpa⟩ := L.get hx
        obtain ⟨b, hb, hpb⟩ := L.get hy
        have L1 := SqL.of (K := K) (s1 _ _ L.lst)
        refine ⟨rfl, ?_⟩
        refine ⟨_, rfl, _, rfl, _, _, _, _, rfl, rfl, L1, at_of (j := i) (by omega) (map_ref_get ha), _, rfl, _, rfl, _, _, rfl, rfl, _, _, _, _, rfl, rfl, L1, at_of (j := i + 1) (by omega) (map_ref_get hb), ?_⟩
        refine ⟨by show 2 ≤ sizeLine; decide, fun t ht => ⟨_, (same_new ht) _ _ M.lst, line _ (by rw [List.length_map]; omega), bs ++ [t], ?_, ?_, by simp [hl]⟩⟩
        · intro c o e
          have hc : c ≠ D := ne_of_none e hD
          rw [upd_ne hc]
          exact (same_new ht) c o (s1 c o e)
        · rw [take_snoc (rsteps_at e1 hx hy)]
          have e : bs.map V.ref ++ [V.ref t] = (bs ++ [t]).map V.ref := by simp
          rw [e]
          exact M.snoc tame_st (same_new ht) ⟨a, b, upd_same, (same_new ht) _ _ (s1 _ _ hpa), (same_new ht) _ _ (s1 _ _ hpb)⟩
      · rintro H' ⟨bs, s1, M, hl⟩
        rw [List.take_of_length_le (by rw [rsteps_len e1]; exact Nat.le_refl _)] at M
        exact k H' D s1 ⟨bs, M⟩
theorem min_if (a b : Int) : (if b < a then b else a) = min a b := by omega
theorem max_if (a b : Int) : (if b > a then b else a) = max a b := by omega
theorem sc_is_between : FnScope ["number", "one", "other"] ["number", "one", "other"] (defScope s_is_between) := ⟨rfl, rfl, rfl, by decide +kernel, rfl, by decide +kernel, by decide +kernel⟩
theorem ok_is_between (G : Got K mg "is_between" ["number", "one", "other"] s_is_between) (hmin : mg "min" = none) (hmax : mg "max" = none) : DefOk P w K mg base 1 "is_between" ["number", "one", "other"] spBetw := by
  refine G.ok sc_is_between (fun vs H Q E h => ?_) (fun f cdv A outer s H vs Q E hr h => ?_)
  · obtain ⟨n, a, b, rfl, _⟩ := h
    rfl
  · obtain ⟨n, a, b, rfl, k⟩ := h
    refine ⟨_, pss_one (ps_ret (pe_and (pe_cmpR op_le (pe_callB (call_min2 rfl) rfl hmin bt_min (pa_cons (pv 1) (pa_cons (pv 2) pa_nil))) (pv 0) (nomark _))
      (pe_one (pe_cmpR op_le (pv 0) (pe_callB (call_max2 rfl) rfl hmax bt_max (pa_cons (pv 1) (pa_cons (pv 2) pa_nil))) (nomark _))))), ?_⟩
    refine ⟨_, rfl, _, rfl, _, _, rfl, _, rfl, _, _, rfl, rfl, _, rfl, ite_b (fun h => ⟨_, rfl, _, rfl, _, rfl, _, _, rfl, _, _, rfl, rfl, ?_⟩) (fun h => ?_)⟩
    · rw [min_if] at h
      rw [max_if]
      rw [h, Bool.true_and] at k
      exact k
    · rw [min_if] at h
      rw [h, Bool.false_and] at k
      exact k
theorem mul_ok {a b : Int} (ha : a.natAbs ≤ 4294967296) (hb : b.natAbs ≤ 4294967296) {z : Int} : CMul (b - a) z := .inl ⟨by omega, by omega⟩
theorem sc_side_of : FnScope ["place", "start", "end", "along", "across"] ["place", "start", "end"] (defScope s_side_of) := ⟨rfl, rfl, rfl, by decide +kernel, rfl, by decide +kernel, by decide +kernel⟩
theorem ok_side_of (G : Got K mg "side_of" ["place", "start", "end"] s_side_of) : DefOk P w K mg base 1 "side_of" ["place", "start", "end"] spSide := by
  refine G.ok sc_side_of (fun vs H Q E h => ?_) (fun f cdv A outer s H vs Q E hr h => ?_)
  · obtain ⟨c, a, b, pc, pa, pb, rfl, _⟩ := h
    rfl
  · obtain ⟨c, a, b, pc, pa, pb, rfl, hc, ha, hb, ma, mb, k⟩ := h
    refine ⟨_, pss_cons (ps_set (i := 3) sc_side_of.nd rfl (Or.inl rfl) (pe_op op_mul (pe_op op_sub (pe_ix ix_tup (pv 2) pe_int (fun _ _ => rfl)) (pe_ix ix_tup (pv 1) pe_int (fun _ _ => rfl))) (pe_op op_sub (pe_ix ix_tup (pv 0) pe_int (fun _ _ => rfl)) (pe_ix ix_tup (pv 1) pe_int (fun _ _ => rfl)))))
      (pss_cons (ps_set (i := 4) sc_side_of.nd rfl (Or.inl rfl) (pe_op op_mul (pe_op op_sub (pe_ix ix_tup (pv 2) pe_int (fun _ _ => rfl)) (pe_ix ix_tup (pv 1) pe_int (fun _ _ => rfl))) (pe_op op_sub (pe_ix ix_tup (pv 0) pe_int (fun _ _ => rfl)) (pe_ix ix_tup (pv 1) pe_int (fun _ _ => rfl)))))
      (pss_one (ps_ret (pe_op op_sub (pv 3) (pv 4))))), ?_⟩
    refine ⟨_, rfl, _, _, _, _, rfl, rfl, hb.ix0, at0, _, rfl, _, _, _, _, rfl, rfl, ha.ix0, at0, _, _, rfl, rfl, _, rfl, _, _, _, _, rfl, rfl, hc.ix0, at1, _, rfl, _, _, _, _, rfl, rfl, ha.ix0, at1, _, _, rfl, rfl, _, _, rfl, rfl, mul_ok ma.1 mb.1, ?_⟩
    refine ⟨_, rfl, _, _, _, _, rfl, rfl, hb.ix0, at1, _, rfl, _, _, _, _, rfl, rfl, ha.ix0, at1, _, _, rfl, rfl, _, rfl, _, _, _, _, rfl, rfl, hc.ix0, at0, _, rfl, _, _, _, _, rfl, rfl, ha.ix0, at0, _, _, rfl, rfl, _, _, rfl, rfl, mul_ok ma.2 mb.2, ?_⟩
    exact ⟨_, rfl, _, rfl, _, _, rfl, rfl, k⟩
theorem sc_lies_on : FnScope ["place", "start", "end"] ["place", "start", "end"] (defScope s_lies_on) := ⟨rfl, rfl, rfl, by decide +kernel, rfl, by decide +kernel, by decide +kernel⟩
theorem ok_lies_on (G : Got K mg "lies_on" ["place", "start", "end"] s_lies_on) (Db : DefOk P w K mg base 1 "is_between" ["number", "one", "other"] spBetw) (Ds : DefOk P w K mg base 1 "side_of" ["place", "start", "end"] spSide) :
    DefOk P w K mg base 2 "lies_on" ["place", "start", "end"] spLies := by
  refine G.ok sc_lies_on (fun vs H Q E h => ?_) (fun f cdv A outer s H vs Q E hr h => ?_)
  · obtain ⟨c, a, b, pc, pa, pb, rfl, _⟩ := h
    rfl
  · obtain ⟨c, a, b, pc, pa, pb, rfl, hc, ha, hb, ma, mb, k⟩ := h
    rw [between_eq] at k
    refine ⟨_, pss_one (ps_ret (pe_and (pe_def Db hr rfl (pa_cons (pe_ix ix_tup (pv 0) pe_int (fun _ _ => rfl)) (pa_cons (pe_ix ix_tup (pv 1) pe_int (fun _ _ => rfl)) (pa_cons (pe_ix ix_tup (pv 2) pe_int (fun _ _ => rfl)) pa_nil))))
      (pe_and (pe_def Db hr rfl (pa_cons (pe_ix ix_tup (pv 0) pe_int (fun _ _ => rfl)) (pa_cons (pe_ix ix_tup (pv 1) pe_int (fun _ _ => rfl)) (pa_cons (pe_ix ix_tup (pv 2) pe_int (fun _ _ => rfl)) pa_nil))))
      (pe_one (pe_cmpR op_eq (pe_def Ds hr rfl (pa_cons (pv 0) (pa_cons (pv 1) (pa_cons (pv 2) pa_nil)))) pe_int (nomark _)))))), ?_⟩
    refine ⟨_, rfl, _, _, _, _, rfl, rfl, hc.ix0, at0, _, rfl, _, _, _, _, rfl, rfl, ha.ix0, at0, _, rfl, _, _, _, _, rfl, rfl, hb.ix0, at0, _, _, _, rfl, _, rfl, ite_b (fun h1 => ?_) (fun h1 => ?_)⟩
    · refine ⟨_, rfl, _, _, _, _, rfl, rfl, hc.ix0, at1, _, rfl, _, _, _, _, rfl, rfl, ha.ix0, at1, _, rfl, _, _, _, _, rfl, rfl, hb.ix0, at1, _, _, _, rfl, _, rfl, ite_b (fun h2 => ?_) (fun h2 => ?_)⟩
      · refine ⟨_, rfl, _, rfl, _, rfl, c, a, b, pc, pa, pb, rfl, hc, ha, hb, ma, mb, rfl, ?_⟩
        rw [h1, h2, Bool.true_and, Bool.true_and] at k
        rw [dec_int]
        exact k
      · rw [h1, h2, Bool.true_and, Bool.false_and] at k
        exact k
    · rw [h1, Bool.false_and] at k
      exact k
theorem rsteps_mem {w : Rg.Way} {s : Rg.Pt × Rg.Pt} {i : Nat} (h : (rsteps w)[i]? = some s) : s.1 ∈ w ∧ s.2 ∈ w := by
  match w, h with
  | [], h => simp [rsteps] at h
  | [a], h =>
    match i, h with
    | 0, h =>
      obtain rfl : (a, a) = s := Option.some.inj h
      exact ⟨by simp, by simp⟩
    | i + 1, h => simp [rsteps] at h
  | a :: b :: r, h =>
    have h' : ((a :: b :: r).zip (b :: r))[i]? = some s := h
    have q := List.of_mem_zip (List.mem_of_getElem? h')
    exact ⟨q.1, List.mem_cons_of_mem _ q.2⟩
theorem sc_first_touch : FnScope ["pegs", "way", "number", "step", "k", "peg"] ["pegs", "way"] (defScope s_first_touch) := ⟨rfl, rfl, rfl, by decide +kernel, rfl, by decide +kernel, by decide +kernel⟩
theorem ok_first_touch (G : Got K mg "first_touch" ["pegs", "way"] s_first_touch) (henum : mg "enumerate" = none) (Ds : DefOk P w K mg base 1 "steps_of" ["way"] spSteps) (Dl : DefOk P w K mg base 2 "lies_on" ["place", "start", "end"] spLies) :
    DefOk P w K mg base 3 "first_touch" ["pegs", "way"] spFirst := by
  refine G.ok sc_first_touch (fun vs H Q E h => ?_) (fun f cdv A outer s H vs Q E hr h => ?_)
  · obtain ⟨p, ms, q, ws, rfl, _⟩ := h
    rfl
  · obtain ⟨p, ms, q, ws, rfl, ⟨as, L⟩, ⟨bs, M⟩, hmid, hne, hle, k0, k1⟩ := h
    have nd := sc_first_touch.nd
    refine ⟨_, pss_cons (ps_for PassesOwn.never rfl (pi_enum rfl henum (pa_cons (pe_def (Ds.mono (by decide : 1 ≤ 2)) hr rfl (pa_cons (pv 1) pa_nil)) pa_nil))
        (pg_tup rfl (pgs_cons (pg_name (i := 2) nd rfl (Or.inl rfl)) (pgs_cons (pg_name (i := 3) nd rfl (Or.inl rfl)) pgs_nil)))
        (pss_one (ps_for PassesOwn.never rfl (pi_enum rfl henum (pa_cons (pv 0) pa_nil)) (pg_tup rfl (pgs_cons (pg_name (i := 4) nd rfl (Or.inl rfl)) (pgs_cons (pg_name (i := 5) nd rfl (Or.inl rfl)) pgs_nil)))
          (pss_one (ps_if (pt_val (pe_def Dl hr rfl (pa_cons (pv 5) (pa_cons (pe_ix ix_tup (pv 3) pe_int (fun _ _ => rfl)) (pa_cons (pe_ix ix_tup (pv 3) pe_int (fun _ _ => rfl)) pa_nil)))))
            (pss_one (ps_ret (pe_tup (pa_cons (pv 2) (pa_cons (pv 4) pa_nil))))) pss_nil)))))
      (pss_one (ps_ret pe_non)), ?_⟩
    refine ⟨_, rfl, q, ws, rfl, ⟨bs, M⟩, hne, hle, fun H1 l s1 ⟨cs, S⟩ => ⟨l, _, rfl, SqL.of S.lst, for_it (n := (rsteps ws).length)
      (fun i σ H' => ∃ v2 v3 v4 v5 : Option V, σ = [some (.ref p), some (.ref q), v2, v3, v4, v5] ∧ Same H1 H' ∧ ∀ (j : Nat) st, j < i → (rsteps ws)[j]? = some st → clearStep ms st)
      ⟨none, none, none, none, rfl, Same.refl _, fun j st h => absurd h (Nat.not_lt_zero j)⟩ ?_ ?_ ?_ ?_⟩⟩
    · rintro i σ H' hi ⟨_, _, _, _, _, s2, _⟩
      obtain ⟨c, hc, _⟩ := S.get (List.getElem?_eq_getElem hi)
      exact ⟨_, _, SqL.of (s2 _ _ S.lst), map_ref_get hc⟩
    · rintro σ H' ⟨_, _, _, _, _, s2, _⟩
      exact ⟨_, SqL.of (s2 _ _ S.lst), by rw [S.mlen]; exact Nat.le_refl _⟩
    · rintro i σ H' v H'' hi ⟨v2, v3, v4, v5, rfl, s2, hcl⟩ ⟨T, x, rfl, hT, rfl, hx⟩
      have s3 : Same H' (upd H' T (.tup [.int (i : Nat), x])) := same_new hT
      obtain ⟨c, st, rfl, hc, hst, _⟩ := S.item (hx _ (SqL.of (s2 _ _ S.lst)))
      obtain ⟨b1, b2, hc1, hb1, hb2⟩ := tame_st _ _ _ _ (.of (s2.trans s3)) (S.at_ i c st hc hst)
      have mm := rsteps_mem hst
      have s123 := s1.trans (s2.trans s3)
      refine ⟨T, _, rfl, SqT.of upd_same, rfl, _, _, rfl, _, _, rfl, rfl, ?_⟩
      refine ⟨_, rfl, p, _, rfl, SqL.of (s123 _ _ L.lst), for_it (n := ms.length)
        (fun k σ H3 => ∃ v4 v5 : Option V, σ = [some (.ref p), some (.ref q), some (.int (i : Nat)), some (.ref c), v4, v5] ∧ Same (upd H' T (.tup [.int (i : Nat), .ref c])) H3 ∧ ∀ (j : Nat) m, j < k → ms[j]? = some m → Rg.between st.1 st.2 m = false)
        ⟨v4, v5, rfl, Same.refl _, fun j m h => absurd h (Nat.not_lt_zero j)⟩ ?_ ?_ ?_ ?_⟩
      · rintro k σ H3 hk ⟨_, _, _, s4, _⟩
        obtain ⟨d, hd, _⟩ := L.get (List.getElem?_eq_getElem hk)
        exact ⟨_, _, SqL.of (s4 _ _ (s123 _ _ L.lst)), map_ref_get hd⟩
      · rintro σ H3 ⟨_, _, _, s4, _⟩
        exact ⟨_, SqL.of (s4 _ _ (s123 _ _ L.lst)), by rw [L.mlen]; exact Nat.le_refl _⟩
      · rintro k σ H3 v H4 hk ⟨v4, v5, rfl, s4, hno⟩ ⟨U, y, rfl, hU, rfl, hy⟩
        have s5 : Same H3 (upd H3 U (.tup [.int (k : Nat), y])) := same_new hU
        obtain ⟨d, m, rfl, hd, hm, _⟩ := L.item (hy _ (SqL.of (s4 _ _ (s123 _ _ L.lst))))
        have s45 := s4.trans s5
        have hm' : PtAt _ d m := tame_pt _ _ _ _ (.of (s123.trans s45)) (L.at_ k d m hd hm)
        refine ⟨U, _, rfl, SqT.of upd_same, rfl, _, _, rfl, _, _, rfl, rfl, ?_⟩
        refine ⟨_, rfl, _, rfl, _, _, _, _, rfl, rfl, SqT.of (s45 _ _ hc1), at0, _, rfl, _, _, _, _, rfl, rfl, SqT.of (s45 _ _ hc1), at1,
          d, b1, b2, m, st.1, st.2, rfl, hm', s45 _ _ hb1, s45 _ _ hb2, hmid _ mm.1, hmid _ mm.2, _, rfl, ite_b (fun e => ?_) (fun e => ?_)⟩
        · refine ⟨_, rfl, _, rfl, by show 2 ≤ sizeLine; decide, fun r hr' => ?_⟩
          exact k1 i k (touched_some' hst hm e hcl hno) _ r ((s123.trans s45).trans (same_new hr')) upd_same
        · refine ⟨_, _, rfl, s45, fun j m' hj hm2 => ?_⟩
          by_cases ej : j < k
          · exact hno j m' ej hm2
          · obtain rfl : j = k := by omega
            rw [hm] at hm2
            cases hm2
            exact e
      · rintro σ H3 ⟨v4, v5, rfl, s4, hno⟩
        refine ⟨_, _, _, _, rfl, (s2.trans s3).trans s4, fun j st' hj hst' => ?_⟩
        by_cases ej : j < i
        · exact hcl j st' ej hst'
        · obtain rfl : j = i := by omega
          rw [hst] at hst'
          cases hst'
          exact fun j m hm => hno j m (List.getElem?_eq_some_iff.mp hm).1 hm
    · rintro σ H' ⟨v2, v3, v4, v5, rfl, s2, hcl⟩
      exact k0 (touched_none' fun i st h => hcl i st (List.getElem?_eq_some_iff.mp h).1 h) H' (s1.trans s2)
def spUntouch : Sp := fun vs H Q _ => ∃ p ms q ws, vs = [.ref p, .ref q] ∧ Ls PtAt H p ms ∧ Ls (Ls PtAt) H q ws ∧ ms.length ≤ 2200 ∧ ∀ H', Same H H' → Q (.int (refusalUL ms ws)) H'
theorem sc_refusal_of_untouching : FnScope ["pegs", "ways", "refused", "way"] ["pegs", "ways"] (defScope s_refusal_of_untouching) := ⟨rfl, rfl, rfl, by decide +kernel, rfl, by decide +kernel, by decide +kernel⟩
theorem ok_refusal_of_untouching (G : Got K mg "refusal_of_untouching" ["pegs", "ways"] s_refusal_of_untouching) (hT : Num mg "TOUCHES_MARK" (-9)) (Dr : DefOk P w K mg base 2 "refusal_of_places" ["pegs", "ways"] spRefusal) (Df : DefOk P w K mg base 3 "first_touch" ["pegs", "way"] spFirst) :
    DefOk P w K mg base 4 "refusal_of_untouching" ["pegs", "ways"] spUntouch := by
  obtain ⟨tT, hT⟩ := hT
  refine G.ok sc_refusal_of_untouching (fun vs H Q E h => ?_) (fun f cdv A outer s H vs Q E hr h => ?_)
  · obtain ⟨p, ms, q, ws, rfl, _⟩ := h
    rfl
  · obtain ⟨p, ms, q, ws, rfl, hA, hB, l1, k⟩ := h
    have nd := sc_refusal_of_untouching.nd
    refine ⟨_, pss_cons (ps_set (i := 2) nd rfl (Or.inl rfl) (pe_def (Dr.mono (by decide : 2 ≤ 3)) hr rfl (pa_cons (pv 0) (pa_cons (pv 1) pa_nil))))
      (pss_cons (ps_if (pt_cmpR op_ne (pv 2) pe_int (nomark _)) (pss_one (ps_ret (pv 2))) pss_nil)
      (pss_cons (ps_for PassesOwn.never rfl (pi_list (pv 1)) (pg_name (i := 3) nd rfl (Or.inl rfl))
        (pss_one (ps_if (pt_cmp (pc_notN (pe_def Df hr rfl (pa_cons (pv 0) (pa_cons (pv 3) pa_nil))))) (pss_one (ps_ret (pe_glob rfl hT (v := .int (-9)) ⟨_, rfl⟩))) pss_nil)))
      (pss_one (ps_ret pe_int)))), ?_⟩
    refine ⟨_, rfl, _, rfl, p, ms, q, ws, rfl, hA, hB, l1, fun H1 s1 => ?_⟩
    refine ⟨_, rfl, rfl, _, rfl, ?_⟩
    show if (_ : Bool) = true then _ else _
    unfold refusalUL at k
    by_cases e : refusalL ms ws = 0
    · rw [if_neg (by rw [dec_int, e]; decide)]
      rw [if_neg (by simp [e])] at k
      obtain ⟨_, hall⟩ := refusalL_zero e
      obtain ⟨bs, M⟩ := hB.same2 s1
      refine ⟨_, rfl, q, rfl, ⟨_, SqL.of M.lst⟩, for_list (K := K) (a := q) (xs := bs.map V.ref) (fun i σ H' => ∃ (z v : Option V), σ = [some (.ref p), some (.ref q), z, v] ∧ Same H1 H' ∧ ∀ (j : Nat) u, j < i → ws[j]? = some u → Rg.clearBy ms u = true)
        ⟨_, _, rfl, Same.refl _, fun j u h => absurd h (Nat.not_lt_zero j)⟩ (fun i σ H' _ ⟨_, _, _, s2, _⟩ => SqL.of (s2 _ _ M.lst)) ?_ ?_⟩
      · rintro i y σ H' hi ⟨z, v, rfl, s2, hok⟩
        obtain ⟨c, u, rfl, hc, hu, hU⟩ := M.item hi
        obtain ⟨u1, u2, u3⟩ := hall u (List.mem_of_getElem? hu)
        refine ⟨_, rfl, _, rfl, p, ms, c, u, rfl, (hA.same tame_pt s1).same tame_pt s2, hU.same tame_pt s2, ok_mid u3, u1, by omega, fun t H2 s3 => ?_, fun a b t H2 r s3 hr2 => ?_⟩
        · refine ⟨_, rfl, iteF ?_⟩
          refine ⟨_, _, rfl, s2.trans s3, fun j u' hj hu' => ?_⟩
          by_cases e2 : j < i
          · exact hok j u' e2 hu'
          · obtain rfl : j = i := by omega
            rw [hu] at hu'
            cases hu'
            unfold Rg.clearBy
            rw [t]
            rfl
        · have k' := k H2 (s1.trans (s2.trans s3))
          rw [if_pos (all_false hu (by unfold Rg.clearBy; rw [t]; rfl))] at k'
          exact ⟨_, rfl, iteT k'⟩
      · rintro σ H' ⟨z, v, rfl, s2, hok⟩
        rw [M.mlen] at hok
        have k' := k H' (s1.trans s2)
        rw [if_neg (by rw [all_true (f := fun w => Rg.clearBy ms w) (l := ws) fun i x hx => hok i x (List.getElem?_eq_some_iff.mp hx).1 hx]; decide)] at k'
        exact k'
    · rw [if_pos (by rw [dec_int]; simpa using e)]
      rw [if_pos e] at k
      exact ⟨_, rfl, k H1 s1⟩
def spBranch : Sp := fun vs H Q _ => ∃ p q r ms u v, vs = [.ref p, .ref q, .ref r] ∧ Ls PtAt H p ms ∧ Ls PtAt H q u ∧ Ls PtAt H r v ∧ ms.length ≤ 2200 ∧ ∀ H', Same H H' → Q (.int (refusalB ms u v)) H'
theorem sc_refusal_of_branching : FnScope ["pegs", "one", "other", "refused"] ["pegs", "one", "other"] (defScope s_refusal_of_branching) := ⟨rfl, rfl, rfl, by decide +kernel, rfl, by decide +kernel, by decide +kernel⟩
theorem ok_refusal_of_branching (G : Got K mg "refusal_of_branching" ["pegs", "one", "other"] s_refusal_of_branching) (hE : Num mg "OTHER_ENDS" (-8)) (Dr : DefOk P w K mg base 4 "refusal_of_untouching" ["pegs", "ways"] spUntouch) :
    DefOk P w K mg base 5 "refusal_of_branching" ["pegs", "one", "other"] spBranch := by
  obtain ⟨tE, hE⟩ := hE
  refine G.ok sc_refusal_of_branching (fun vs H Q E h => ?_) (fun f cdv A outer s H vs Q E hr h => ?_)
  · obtain ⟨p, q, r, ms, u, v, rfl, _⟩ := h
    rfl
  · obtain ⟨p, q, r, ms, u, v, rfl, hA, hB, hC, l1, k⟩ := h
    have nd := sc_refusal_of_branching.nd
    refine ⟨_, pss_cons (ps_set (i := 3) nd rfl (Or.inl rfl) (pe_def Dr hr rfl (pa_cons (pv 0) (pa_cons (pe_lst (pa_cons (pv 1) (pa_cons (pv 2) pa_nil))) pa_nil))))
      (pss_cons (ps_if (pt_cmpR op_ne (pv 3) pe_int (nomark _)) (pss_one (ps_ret (pv 3))) pss_nil)
      (pss_cons (ps_if (pt_cmpR (op_nePt hr.units) (pe_ix ix_list (pv 1) pe_int (fun _ _ => rfl)) (pe_ix ix_list (pv 2) pe_int (fun _ _ => rfl)) (nomark _)) (pss_one (ps_ret (pe_glob rfl hE (v := .int (-8)) ⟨_, rfl⟩))) pss_nil)
      (pss_one (ps_ret pe_int)))), ?_⟩
    refine ⟨_, rfl, _, rfl, _, rfl, by show 2 ≤ sizeLine; decide, fun l hl => ⟨p, ms, l, _, rfl, hA.same tame_pt (same_new hl), ways2 hB hC hl, l1, fun H1 s1' => ?_⟩⟩
    have s1 := (same_new (o := .lst [.ref q, .ref r]) hl).trans s1'
    refine ⟨_, rfl, rfl, _, rfl, ?_⟩
    show if (_ : Bool) = true then _ else _
    unfold refusalB at k
    by_cases e : refusalUL ms [u, v] = 0
    · rw [if_neg (by rw [dec_int, e]; decide)]
      rw [if_neg (by simp [e])] at k
      have hz := (refusalL_zero (refusalUL_zero e).1).2
      have hu0 := (hz u (by simp)).1
      have hv0 := (hz v (by simp)).1
      obtain ⟨bs, L⟩ := hB.same tame_pt s1
      obtain ⟨cs, M⟩ := hC.same tame_pt s1
      have e1 : u[0]? = some u[0] := List.getElem?_eq_getElem hu0
      have e2 : v[0]? = some v[0] := List.getElem?_eq_getElem hv0
      obtain ⟨x, hx, hxp⟩ := L.get e1
      obtain ⟨y, hy, hyp⟩ := M.get e2
      have k' := k H1 s1
      rw [List.head?_eq_getElem?, List.head?_eq_getElem?, e1, e2] at k'
      refine ⟨_, rfl, _, _, _, _, rfl, rfl, SqL.of L.lst, at_of (j := 0) rfl (map_ref_get hx), _, rfl, _, _, _, _, rfl, rfl, SqL.of M.lst, at_of (j := 0) rfl (map_ref_get hy), x, y, _, _, rfl, rfl, hxp, hyp, _, rfl, ite_b (fun z => ?_) (fun z => ?_)⟩
      · rw [if_pos (fun q => by rw [Option.some.inj q] at z; simp at z)] at k'
        exact k'
      · rw [if_neg (fun q => q (congrArg some (of_decide_eq_true (Bool.not_eq_false' _ |>.mp z))))] at k'
        exact k'
    · rw [if_pos (by rw [dec_int]; simpa using e)]
      rw [if_pos e] at k
      exact ⟨_, rfl, k H1 s1⟩
def spCrossed : Sp := fun vs H Q _ => ∃ c a b pc pa pb, vs = [.ref c, .ref a, .ref b] ∧ PtAt H c pc ∧ PtAt H a pa ∧ PtAt H b pb ∧ Mid pa ∧ Mid pb ∧ Q (.bl (isCrossed pc pa pb)) H
theorem sc_is_crossed : FnScope ["peg", "west", "east"] ["peg", "west", "east"] (defScope s_is_crossed) := ⟨rfl, rfl, rfl, by decide +kernel, rfl, by decide +kernel, by decide +kernel⟩
theorem ok_is_crossed (G : Got K mg "is_crossed" ["peg", "west", "east"] s_is_crossed) (Ds : DefOk P w K mg base 1 "side_of" ["place", "start", "end"] spSide) : DefOk P w K mg base 2 "is_crossed" ["peg", "west", "east"] spCrossed := by
  refine G.ok sc_is_crossed (fun vs H Q E h => ?_) (fun f cdv A outer s H vs Q E hr h => ?_)
  · obtain ⟨c, a, b, pc, pa, pb, rfl, _⟩ := h
    rfl
  · obtain ⟨c, a, b, pc, pa, pb, rfl, hc, ha, hb, ma, mb, k⟩ := h
    unfold isCrossed at k
    refine ⟨_, pss_one (ps_ret (pe_and (pe_cmpR op_lt (pe_ix ix_tup (pv 1) pe_int (fun _ _ => rfl)) (pe_ix ix_tup (pv 0) pe_int (fun _ _ => rfl)) (nomark _))
      (pe_and (pe_cmpR op_le (pe_ix ix_tup (pv 0) pe_int (fun _ _ => rfl)) (pe_ix ix_tup (pv 2) pe_int (fun _ _ => rfl)) (nomark _))
      (pe_one (pe_cmpR op_gt (pe_def Ds hr rfl (pa_cons (pv 0) (pa_cons (pv 1) (pa_cons (pv 2) pa_nil)))) pe_int (nomark _)))))), ?_⟩
    refine ⟨_, rfl, _, _, _, _, rfl, rfl, ha.ix0, at0, _, rfl, _, _, _, _, rfl, rfl, hc.ix0, at0, _, _, rfl, rfl, _, rfl, ite_b (fun h1 => ?_) (fun h1 => ?_)⟩
    · refine ⟨_, rfl, _, _, _, _, rfl, rfl, hc.ix0, at0, _, rfl, _, _, _, _, rfl, rfl, hb.ix0, at0, _, _, rfl, rfl, _, rfl, ite_b (fun h2 => ?_) (fun h2 => ?_)⟩
      · refine ⟨_, rfl, _, rfl, _, rfl, c, a, b, pc, pa, pb, rfl, hc, ha, hb, ma, mb, _, _, rfl, rfl, ?_⟩
        rw [h1, h2, Bool.true_and, Bool.true_and] at k
        exact k
      · rw [h1, h2, Bool.true_and, Bool.false_and] at k
        exact k
    · rw [h1, Bool.false_and] at k
      exact k
def numsV (l : List Int) : List V := l.map V.int
def natsV (l : List Nat) : List V := l.map fun k => V.int ((k : Nat) : Int)
def spLstep : Sp := fun vs H Q _ => ∃ p e a b ms es pa pb, vs = [.ref p, .ref e, .ref a, .ref b] ∧ Ls PtAt H p ms ∧ H e = some (.lst (natsV es)) ∧ East ms es ∧ ms.length ≤ 2200 ∧ PtAt H a pa ∧ PtAt H b pb ∧ Mid pa ∧ Mid pb ∧
  ∀ H' q, Same H H' → H' q = some (.lst (numsV (lettersOf ms pa pb))) → Q (.ref q) H'
theorem East.lt {ms : Rg.Marks} {es : List Nat} (E : East ms es) {j k : Nat} (h : es[j]? = some k) : k < ms.length := List.mem_range.mp (E.perm.mem_iff.mp (List.mem_of_getElem? h))
theorem East.len {ms : Rg.Marks} {es : List Nat} (E : East ms es) : es.length = ms.length := by rw [E.perm.length_eq, List.length_range]
theorem filter_snoc {α : Type} {p : α → Bool} {l : List α} {i : Nat} {x : α} (h : l[i]? = some x) : (l.take (i + 1)).filter p = (l.take i).filter p ++ (if p x then [x] else []) := by
  rw [take_snoc h, List.filter_append]
  congr 1
  cases e : p x <;> simp [e]
theorem natsV_get {es : List Nat} {i : Nat} {v : V} (h : (natsV es)[i]? = some v) : ∃ k, es[i]? = some k ∧ v = .int ((k : Nat) : Int) := by
  unfold natsV at h
  rw [List.getElem?_map] at h
  cases e : es[i]? with
  | none => rw [e] at h; cases h
  | some k => rw [e] at h; exact ⟨k, rfl, (Option.some.inj h).symm⟩
theorem hitE_at {ms : Rg.Marks} {a b m : Rg.Pt} {k : Nat} (h : ms[k]? = some m) : hitE ms a b k = isCrossed m a b := by
  unfold hitE
  rw [h]
theorem sc_letters_of_step : FnScope ["pegs", "eastward", "start", "end", "k"] ["pegs", "eastward", "start", "end"] (defScope s_letters_of_step) := ⟨rfl, rfl, rfl, by decide +kernel, rfl, by decide +kernel, by decide +kernel⟩
theorem ok_letters_of_step (G : Got K mg "letters_of_step" ["pegs", "eastward", "start", "end"] s_letters_of_step) (hrev : mg "reversed" = none) (Dc : DefOk P w K mg base 2 "is_crossed" ["peg", "west", "east"] spCrossed) :
    DefOk P w K mg base 3 "letters_of_step" ["pegs", "eastward", "start", "end"] spLstep := by
  refine G.ok sc_letters_of_step (fun vs H Q E h => ?_) (fun f cdv A outer s H vs Q E hr h => ?_)
  · obtain ⟨p, e, a, b, ms, es, pa, pb, rfl, _⟩ := h
    rfl
  · obtain ⟨p, e, a, b, ms, es, pa, pb, rfl, ⟨as, L⟩, he, E, hle, ha, hb, ma, mb, k⟩ := h
    have nd := sc_letters_of_step.nd
    refine ⟨_, pss_cons (ps_if (pt_cmpR op_le (pe_ix ix_tup (pv 2) pe_int (fun _ _ => rfl)) (pe_ix ix_tup (pv 3) pe_int (fun _ _ => rfl)) (nomark _))
        (pss_one (ps_ret (pe_lc (own := [("k", 4)]) rfl nd (pi_list (pv 1)) (blkOk_by (show blkC ["pegs", "eastward", "start", "end", "k"] (defScope s_letters_of_step) _ [("k", 4)] = true by decide +kernel)) (fun _ _ _ _ _ => pg_name (i := 4) nd rfl (Or.inl rfl))
          (fun _ _ _ _ _ => pts_one (pt_val (pe_def Dc hr rfl (pa_cons (pe_ix (ixK (K := K) rfl) (pv 0) (pv 4) (fun _ _ => rfl)) (pa_cons (pv 2) (pa_cons (pv 3) pa_nil))))))
          (fun _ _ _ _ _ => pe_op op_add (pv 4) pe_int)))) pss_nil)
      (pss_one (ps_ret (pe_lc (own := [("k", 4)]) rfl nd (pi_reversed rfl hrev (pa_cons (pv 1) pa_nil)) (blkOk_by (show blkC ["pegs", "eastward", "start", "end", "k"] (defScope s_letters_of_step) _ [("k", 4)] = true by decide +kernel)) (fun _ _ _ _ _ => pg_name (i := 4) nd rfl (Or.inl rfl))
          (fun _ _ _ _ _ => pts_one (pt_val (pe_def Dc hr rfl (pa_cons (pe_ix (ixK (K := K) rfl) (pv 0) (pv 4) (fun _ _ => rfl)) (pa_cons (pv 3) (pa_cons (pv 2) pa_nil))))))
          (fun _ _ _ _ _ => pe_un un_neg (pe_op op_add (pv 4) pe_int))))), ?_⟩
    refine ⟨_, rfl, _, _, _, _, rfl, rfl, ha.ix0, at0, _, rfl, _, _, _, _, rfl, rfl, hb.ix0, at0, _, _, rfl, rfl, _, rfl, ite_b (fun h1 => ?_) (fun h1 => ?_)⟩
    · have hx : pa.x ≤ pb.x := of_decide_eq_true h1
      refine ⟨_, rfl, e, rfl, ⟨_, SqL.of he⟩, fun D hD => ?_⟩
      refine lc_it (n := es.length) (fun i H' => Same H H' ∧ H' D = some (.lst (numsV (((es.take i).filter (hitE ms pa pb)).map fun k => ((k : Nat) : Int) + 1)))) ⟨same_new hD, upd_same⟩ (fun i H' hi ⟨s1, _⟩ => ⟨_, _, SqL.of (s1 _ _ he), by unfold natsV; rw [List.getElem?_map, List.getElem?_eq_getElem hi]; rfl⟩) (fun H' ⟨s1, _⟩ => ⟨_, SqL.of (s1 _ _ he), by unfold natsV; rw [List.length_map]; exact Nat.le_refl _⟩) ?_ ?_
      · rintro i H' x H'' hi ⟨s1, hL⟩ ⟨rfl, hx'⟩
        obtain ⟨n, hn, rfl⟩ := natsV_get (hx' _ (SqL.of (s1 _ _ he)))
        have hnl := E.lt hn
        obtain ⟨c, hc, hm⟩ := L.get (List.getElem?_eq_getElem hnl)
        refine ⟨rfl, ?_⟩
        refine ⟨_, rfl, _, rfl, _, _, _, _, rfl, rfl, SqL.of (s1 _ _ L.lst), at_of (j := n) rfl (map_ref_get hc), _, rfl, _, rfl, c, a, b, _, pa, pb, rfl, s1 _ _ hm, s1 _ _ ha, s1 _ _ hb, ma, mb, _, rfl, ite_b (fun y => ?_) (fun y => ?_)⟩
        · refine ⟨_, rfl, _, _, rfl, rfl, _, hL, line _ (by unfold numsV; rw [List.length_map, List.length_map]; exact Nat.le_trans (List.length_filter_le _ _) (by rw [List.length_take, E.len]; omega)), fun b o eb => ?_, ?_⟩
          · rw [upd_ne (ne_of_none eb hD)]
            exact s1 b o eb
          · rw [upd_same, filter_snoc hn, hitE_at (List.getElem?_eq_getElem hnl), y]
            unfold numsV
            rw [if_pos rfl, List.map_append, List.map_append]
            rfl
        · refine ⟨s1, ?_⟩
          rw [hL, filter_snoc hn, hitE_at (List.getElem?_eq_getElem hnl), y, if_neg (by decide), List.append_nil]
      · rintro H' ⟨s1, hL⟩
        rw [List.take_length, ← letters_east E hx] at hL
        exact k H' D s1 hL
    · have hx : pb.x < pa.x := by
        have := of_decide_eq_false h1
        omega
      refine ⟨_, rfl, e, _, rfl, SqL.of he, fun D hD => ?_⟩
      have hlen : (natsV es).length = es.length := by unfold natsV; rw [List.length_map]
      rw [hlen]
      refine lc_it (n := es.length) (fun i H' => Same H H' ∧ H' D = some (.lst (numsV (((es.reverse.take i).filter (hitE ms pb pa)).map fun k => -(((k : Nat) : Int) + 1))))) ⟨same_new hD, upd_same⟩
        (fun i H' hi ⟨s1, _⟩ => ⟨hi, _, _, SqL.of (s1 _ _ he), by unfold natsV; rw [List.getElem?_map, List.getElem?_eq_getElem (by omega)]; rfl⟩) (fun H' _ => Nat.le_refl _) ?_ ?_
      · rintro i H' x H'' hi ⟨s1, hL⟩ ⟨rfl, hx'⟩
        obtain ⟨n, hn0, rfl⟩ := natsV_get (hx' _ (SqL.of (s1 _ _ he)))
        have hnl := E.lt hn0
        have hn : es.reverse[i]? = some n := by
          rw [List.getElem?_reverse hi]
          exact hn0
        obtain ⟨c, hc, hm⟩ := L.get (List.getElem?_eq_getElem hnl)
        refine ⟨rfl, ?_⟩
        refine ⟨_, rfl, _, rfl, _, _, _, _, rfl, rfl, SqL.of (s1 _ _ L.lst), at_of (j := n) rfl (map_ref_get hc), _, rfl, _, rfl, c, b, a, _, pb, pa, rfl, s1 _ _ hm, s1 _ _ hb, s1 _ _ ha, mb, ma, _, rfl, ite_b (fun y => ?_) (fun y => ?_)⟩
        · refine ⟨_, rfl, _, _, rfl, rfl, _, rfl, _, hL, line _ (by unfold numsV; rw [List.length_map, List.length_map]; exact Nat.le_trans (List.length_filter_le _ _) (by rw [List.length_take, List.length_reverse, E.len]; omega)), fun b o eb => ?_, ?_⟩
          · rw [upd_ne (ne_of_none eb hD)]
            exact s1 b o eb
          · rw [upd_same, filter_snoc hn, hitE_at (List.getElem?_eq_getElem hnl), y]
            unfold numsV
            rw [if_pos rfl, List.map_append, List.map_append]
            rfl
        · refine ⟨s1, ?_⟩
          rw [hL, filter_snoc hn, hitE_at (List.getElem?_eq_getElem hnl), y, if_neg (by decide), List.append_nil]
      · rintro H' ⟨s1, hL⟩
        rw [List.take_of_length_le (by rw [List.length_reverse]; exact Nat.le_refl _), ← letters_west E hx] at hL
        exact k H' D s1 hL
def lamPos : Pos := ⟨90, 44, 90, 69⟩
def lamQual : Str := ("letters_of_way" ++ ".<locals>.") ++ "<lambda>"
def spLway (Pt : Addr) : Sp := fun vs H Q _ => ∃ p q ms ws, vs = [.ref p, .ref q] ∧ Ls PtAt H p ms ∧ Ls PtAt H q ws ∧ (∀ x ∈ ws, Mid x) ∧ 1 ≤ ws.length ∧ ws.length ≤ 2200 ∧ ms.length ≤ 2200 ∧ TbOk Pt lamPos lamQual H ∧
  ∀ H' r, SameT H H' → TbOk Pt lamPos lamQual H' → H' r = some (.lst (numsV ((rsteps ws).flatMap fun s => lettersOf ms s.1 s.2))) → Q (.ref r) H'
theorem TbOk.but {Pt : Addr} {pos : Pos} {qual : Str} {H H' : Hp} {r : Addr} {xs : List V} (h : TbOk Pt pos qual H) (hr : H r = some (.lst xs)) (s : ∀ b o, H b = some o → b ≠ r → H' b = some o) : TbOk Pt pos qual H' := by
  rcases h with h | ⟨c, h1, h2⟩
  · exact .inl (s _ _ h (ne_of h hr (by intro z; cases z)))
  · exact .inr ⟨c, s _ _ h1 (ne_of h1 hr (by intro z; cases z)), s _ _ h2 (ne_of h2 hr (by intro z; cases z))⟩
theorem flat_len (ms : Rg.Marks) : ∀ l : List (Rg.Pt × Rg.Pt), (l.flatMap fun s => lettersOf ms s.1 s.2).length ≤ l.length * ms.length
  | [] => by simp
  | x :: l => by
    rw [List.flatMap_cons, List.length_append, List.length_cons, Nat.succ_mul]
    have h1 := lettersOf_len ms x.1 x.2
    have h2 := flat_len ms l
    omega
theorem rsteps_pos {w : Rg.Way} (h : 1 ≤ w.length) : 1 ≤ (rsteps w).length := by
  by_cases e : w.length = 1
  · obtain ⟨x, rfl⟩ := List.length_eq_one_iff.mp e
    exact Nat.le_refl _
  · rw [rsteps_len e]
    omega
theorem sc_letters_of_way : FnScope ["pegs", "way", "eastward", "letters", "step"] ["pegs", "way"] (defScope s_letters_of_way) := ⟨rfl, rfl, rfl, by decide +kernel, rfl, by decide +kernel, by decide +kernel⟩
theorem ok_letters_of_way {f c Pt : Addr} {fd : FuncData} (F : Fun K "letters_of_way" "letters_of_way" s_letters_of_way f fd) (hcd : fd.code = .ref c) (C : Code base mg c Pt) (hm : mg "letters_of_way" = some (.ref f)) (hb : Binds K fd ["pegs", "way"] [])
    (hsorted : mg "sorted" = none) (hrange : mg "range" = none) (hlen : mg "len" = none) (Ds : DefOk P w K mg base 1 "steps_of" ["way"] spSteps) (Dl : DefOk P w K mg base 3 "letters_of_step" ["pegs", "eastward", "start", "end"] spLstep) :
    DefOk P w K mg base 4 "letters_of_way" ["pegs", "way"] (spLway Pt) := by
  refine ⟨f, fd, ?_, hm, F.kp, hb⟩
  refine okC F hcd sc_letters_of_way (fun vs H Q E h => ?_) (fun A outer s H vs Q E hr h => ?_)
  · obtain ⟨p, q, ms, ws, rfl, _⟩ := h
    rfl
  · obtain ⟨p, q, ms, ws, rfl, ⟨as, L⟩, hB, hmid, hne, hle, hms, tb, k⟩ := h
    have nd := sc_letters_of_way.nd
    refine ⟨_, pss_cons (ps_set (i := 2) nd rfl (Or.inl rfl) (pe_east (ip := 0) (P := Pt) (c := c) rfl hsorted rfl hrange (pe_callB call_len_seq rfl hlen bt_len (pa_cons (pv 0) pa_nil)) rfl (hr.mono (by decide)) rfl rfl rfl C))
      (pss_cons (ps_set (i := 3) nd rfl (Or.inl rfl) (pe_lst pa_nil))
      (pss_cons (ps_for PassesOwn.never rfl (pi_list (pe_def (Ds.mono (by decide : 1 ≤ 3)) hr rfl (pa_cons (pv 1) pa_nil))) (pg_name (i := 4) nd rfl (Or.inl rfl))
        (pss_one (ps_expr (pe_bm PySem.F.plainAttrs_list PySem.F.slot_list_extend PySem.F.type_list_extend mt_extend (pv 3) (pa_cons (pe_def Dl hr rfl (pa_cons (pv 0) (pa_cons (pv 2) (pa_cons (pe_ix ix_tup (pv 4) pe_int (fun _ _ => rfl)) (pa_cons (pe_ix ix_tup (pv 4) pe_int (fun _ _ => rfl)) pa_nil))))) pa_nil)))))
      (pss_one (ps_ret (pv 3))))), ?_⟩
    refine ⟨_, rfl, _, _, rfl, .inl (SqL.of L.lst), p, ms, by rw [L.mlen], by omega, rfl, ⟨as, L⟩, tb, fun H1 e es s1 tb1 he _ hen E => ?_⟩
    refine ⟨Nat.zero_le _, fun r hrn => ?_⟩
    have s2 : Same H1 (upd H1 r (.lst [])) := same_new hrn
    have hB2 := (hB.sameT tame_pt s1).same tame_pt s2
    refine ⟨_, rfl, q, ws, rfl, hB2, hne, hle, fun H3 l s3 ⟨cs, S⟩ => ⟨l, rfl, ⟨_, SqL.of S.lst⟩, ?_⟩⟩
    have L3 : LsAt PtAt H3 p ms as := ((L.sameT tame_pt s1).same tame_pt s2).same tame_pt s3
    have he3 : H3 e = some (.lst (natsV es)) := s3 _ _ (s2 _ _ he)
    have hr3 : H3 r = some (.lst []) := s3 _ _ upd_same
    have ner : e ≠ r := ne_of_none he hrn
    have npr : p ≠ r := ne_of_none (s1.lst L.lst) hrn
    have nlr : l ≠ r := fun z => by
      have h1 := S.lst
      rw [z, hr3] at h1
      injection h1 with h1
      injection h1 with h1
      have h2 := S.len
      have h3 := rsteps_pos hne
      have h4 : cs.length = 0 := by
        have := congrArg List.length h1
        rw [List.length_map] at this
        exact this.symm
      omega
    refine for_list (K := K) (a := l) (xs := cs.map V.ref) (fun i σ H' => ∃ v : Option V, σ = [some (.ref p), some (.ref q), some (.ref e), some (.ref r), v] ∧ (∀ b o, H3 b = some o → b ≠ r → H' b = some o) ∧ H' r = some (.lst (numsV (((rsteps ws).take i).flatMap fun s => lettersOf ms s.1 s.2))))
      ⟨none, rfl, fun b o e _ => e, hr3⟩ (fun i σ H' _ ⟨_, _, sx, _⟩ => SqL.of (sx _ _ S.lst nlr)) ?_ ?_
    · rintro i y σ H' hi ⟨v, rfl, sx, hL⟩
      have tx : Tups H3 H' := fun b ys eb => sx b _ eb (ne_of eb hr3 (by intro z; cases z))
      obtain ⟨c1, st, rfl, hc1, hst, hS⟩ := S.item hi
      obtain ⟨b1, b2, ht, hb1, hb2⟩ := tame_st _ _ _ _ tx hS
      have mm := rsteps_mem hst
      have L4 : LsAt PtAt H' p ms as := ⟨sx _ _ L3.lst npr, L3.len, fun j a x h1 h2 => tx _ _ (L3.at_ j a x h1 h2)⟩
      refine ⟨_, rfl, .inl ⟨rfl, _, SqL.of hL⟩, _, rfl, _, rfl, _, rfl, _, _, _, _, rfl, rfl, SqT.of ht, at0, _, rfl, _, _, _, _, rfl, rfl, SqT.of ht, at1, p, e, b1, b2, ms, es, st.1, st.2, rfl, ⟨as, L4⟩, sx _ _ he3 ner, E, hms, hb1, hb2, hmid _ mm.1, hmid _ mm.2, fun H5 z s5 hz => ?_⟩
      refine ⟨r, z, _, _, rfl, rfl, s5 _ _ hL, hz, ?_, ?_⟩
      · have h1 := flat_len ms ((rsteps ws).take i)
        have h2 := lettersOf_len ms st.1 st.2
        have h3 : ((rsteps ws).take i).length ≤ 2200 := by
          rw [List.length_take]
          have := (List.getElem?_eq_some_iff.mp hst).1
          have h4 : (rsteps ws).length ≤ 2200 := by
            by_cases e1 : ws.length = 1
            · obtain ⟨x, rfl⟩ := List.length_eq_one_iff.mp e1
              show 1 ≤ 2200
              decide
            · rw [rsteps_len e1]
              omega
          omega
        have h5 : ((rsteps ws).take i).length * ms.length ≤ 2200 * 2200 := Nat.mul_le_mul h3 hms
        unfold numsV
        rw [List.length_map, List.length_map, sizeLine_eq]
        omega
      · refine ⟨_, rfl, fun b o eb hb => ?_, ?_⟩
        · rw [upd_ne hb]
          exact s5 b o (sx b o eb hb)
        · rw [upd_same, take_snoc hst, List.flatMap_append]
          unfold numsV
          rw [List.map_append]
          simp
    · rintro σ H' ⟨v, rfl, sx, hL⟩
      rw [S.mlen, List.take_length] at hL
      refine ⟨_, rfl, k H' r (fun b o eb hn => ?_) ((((tb1.same s2).same s3).but hr3 sx)) hL⟩
      have hb1 := s1 b o eb hn
      exact sx b o (s3 _ _ (s2 _ _ hb1)) (ne_of_none hb1 hrn)
def spPulled : Sp := fun vs H Q _ => ∃ p u, vs = [.ref p] ∧ H p = some (.lst (numsV u)) ∧ u.length ≤ 4840000 ∧ ∀ H' r, Same H H' → H' r = some (.lst (numsV (pullN u))) → Q (.ref r) H'
theorem numsV_snoc (l : List Int) (a : Int) : numsV (l ++ [a]) = numsV l ++ [V.int a] := by
  unfold numsV
  rw [List.map_append]
  rfl
theorem numsV_get {u : List Int} {i : Nat} {v : V} (h : (numsV u)[i]? = some v) : ∃ z, u[i]? = some z ∧ v = .int z := by
  unfold numsV at h
  rw [List.getElem?_map] at h
  cases e : u[i]? with
  | none => rw [e] at h; cases h
  | some z => rw [e] at h; exact ⟨z, rfl, (Option.some.inj h).symm⟩
theorem numsV_len (u : List Int) : (numsV u).length = u.length := List.length_map ..
theorem sc_pulled : FnScope ["letters", "kept", "letter"] ["letters"] (defScope s_pulled) := ⟨rfl, rfl, rfl, by decide +kernel, rfl, by decide +kernel, by decide +kernel⟩
theorem ok_pulled (G : Got K mg "pulled" ["letters"] s_pulled) (hlen : mg "len" = none) : DefOk P w K mg base 1 "pulled" ["letters"] spPulled := by
  refine G.ok sc_pulled (fun vs H Q E h => ?_) (fun f cdv A outer s H vs Q E hr h => ?_)
  · obtain ⟨p, u, rfl, _⟩ := h
    rfl
  · obtain ⟨p, u, rfl, hp, hl, k⟩ := h
    have nd := sc_pulled.nd
    refine ⟨_, pss_cons (ps_set (i := 1) nd rfl (Or.inl rfl) (pe_lst pa_nil))
      (pss_cons (ps_for PassesOwn.never rfl (pi_list (pv 0)) (pg_name (i := 2) nd rfl (Or.inl rfl))
        (pss_one (ps_if (PW.pt (pw_and (pt_cmpR op_gt (pe_callB call_len_seq rfl hlen bt_len (pa_cons (pv 1) pa_nil)) pe_int (nomark _))
            (pw_and1 (pt_cmpR op_eq (pe_ix ix_list (pv 1) (pe_un un_neg pe_int) (fun _ _ => rfl)) (pe_un un_neg (pv 2)) (nomark _)))))
          (pss_one (ps_expr (pe_bm0 PySem.F.plainAttrs_list PySem.F.slot_list_pop PySem.F.type_list_pop mt_pop (pv 1))))
          (pss_one (ps_expr (pe_bm PySem.F.plainAttrs_list PySem.F.slot_list_append PySem.F.type_list_append mt_append (pv 1) (pa_cons (pv 2) pa_nil)))))))
      (pss_one (ps_ret (pv 1)))), ?_⟩
    refine ⟨Nat.zero_le _, fun r hrn => ?_⟩
    have s0 := same_new (o := .lst []) hrn
    refine ⟨_, rfl, p, rfl, ⟨_, SqL.of (s0 _ _ hp)⟩, for_list (K := K) (a := p) (xs := numsV u) (fun i σ H' => ∃ v : Option V, σ = [some (.ref p), some (.ref r), v] ∧ Same H H' ∧ H' r = some (.lst (numsV ((u.take i).foldl pushN []).reverse)))
      ⟨none, rfl, s0, upd_same⟩ (fun i σ H' _ ⟨_, _, s1, _⟩ => SqL.of (s1 _ _ hp)) ?_ ?_⟩
    · rintro i y σ H' hi ⟨v, rfl, s1, hr1⟩
      obtain ⟨z, hz, rfl⟩ := numsV_get hi
      have e : (u.take (i + 1)).foldl pushN [] = pushN ((u.take i).foldl pushN []) z := by
        rw [take_snoc hz, List.foldl_append]
        rfl
      have hib : i < u.length := (List.getElem?_eq_some_iff.mp hz).1
      have hle : ((u.take i).foldl pushN []).length ≤ u.length := by
        have := fold_len (u.take i) []
        rw [List.length_take] at this
        simp at this
        omega
      have keep : ∀ o', Same H (upd H' r o') := fun o' b o eb => by
        rw [upd_ne (ne_of_none eb hrn)]
        exact s1 b o eb
      have small : ∀ l : List Int, l.length ≤ u.length → (numsV l.reverse).length < sizeLine := fun l h => by
        rw [numsV_len, List.length_reverse, sizeLine_eq]
        omega
      rw [e]
      generalize (u.take i).foldl pushN [] = st at hr1 hle
      cases st with
      | nil =>
        refine ⟨_, rfl, r, _, rfl, .inl (SqL.of hr1), _, _, rfl, rfl, _, rfl, ite_b (fun q => absurd q (by decide)) (fun _ => iteF ?_)⟩
        exact ⟨_, rfl, .inl ⟨rfl, _, SqL.of hr1⟩, _, rfl, r, _, _, rfl, rfl, hr1, by decide, _, rfl, keep _, upd_same⟩
      | cons b t =>
        have hb : numsV (b :: t).reverse = numsV t.reverse ++ [V.int b] := by rw [List.reverse_cons, numsV_snoc]
        rw [hb] at hr1
        have sm := small _ hle
        rw [hb] at sm
        refine ⟨_, rfl, r, _, rfl, .inl (SqL.of hr1), _, _, rfl, rfl, _, rfl, ite_b (fun _ => ?_) (fun q => absurd q ?_)⟩
        · refine ⟨_, rfl, _, rfl, _, _, _, _, rfl, rfl, SqL.of hr1, atI_last _ _, _, rfl, _, rfl, rfl, _, rfl, ite_b (fun q => ?_) (fun q => ?_)⟩
          · have eb : b = -z := by simpa using of_decide_eq_true q
            refine ⟨_, rfl, .inl ⟨rfl, _, SqL.of hr1⟩, r, _, V.int b, rfl, rfl, hr1, by simp, _, rfl, keep _, ?_⟩
            rw [upd_same]
            show some (HO.lst (numsV t.reverse ++ [V.int b]).dropLast) = some (HO.lst (numsV (if b = -z then t else z :: b :: t).reverse))
            rw [if_pos eb, List.dropLast_concat]
          · have eb : ¬ b = -z := fun x => (of_decide_eq_false q) (by rw [x])
            refine ⟨_, rfl, .inl ⟨rfl, _, SqL.of hr1⟩, _, rfl, r, _, _, rfl, rfl, hr1, sm, _, rfl, keep _, ?_⟩
            rw [upd_same]
            show some (HO.lst ((numsV t.reverse ++ [V.int b]) ++ [V.int z])) = some (HO.lst (numsV (if b = -z then t else z :: b :: t).reverse))
            rw [if_neg eb, List.reverse_cons, numsV_snoc, hb]
        · rw [decide_eq_false_iff_not, List.length_append]
          simp
    · rintro σ H' ⟨v, rfl, s1, hr1⟩
      rw [numsV_len, List.take_length] at hr1
      exact ⟨_, rfl, k H' r s1 hr1⟩
def spStr (Pt : Addr) : Sp := fun vs H Q _ => ∃ p q ms ws, vs = [.ref p, .ref q] ∧ Ls PtAt H p ms ∧ Ls PtAt H q ws ∧ (∀ x ∈ ws, Mid x) ∧ 1 ≤ ws.length ∧ ws.length ≤ 2200 ∧ ms.length ≤ 2200 ∧ TbOk Pt lamPos lamQual H ∧
  ∀ H' r, SameT H H' → TbOk Pt lamPos lamQual H' → H' r = some (.lst (numsV (strN ms ws))) → Q (.ref r) H'
theorem wordN_len {ms : Rg.Marks} {ws : Rg.Way} (h1 : ms.length ≤ 2200) (h2 : ws.length ≤ 2200) : (wordN ms ws).length ≤ 4840000 := by
  have h3 := flat_len ms (rsteps ws)
  have h4 : (rsteps ws).length ≤ 2200 := by
    by_cases e1 : ws.length = 1
    · obtain ⟨x, hx⟩ := List.length_eq_one_iff.mp e1
      rw [hx]
      show 1 ≤ 2200
      decide
    · rw [rsteps_len e1]
      omega
  have h5 : (rsteps ws).length * ms.length ≤ 2200 * 2200 := Nat.mul_le_mul h4 h1
  unfold wordN
  omega
theorem strN_len {ms : Rg.Marks} {ws : Rg.Way} (h1 : ms.length ≤ 2200) (h2 : ws.length ≤ 2200) : (strN ms ws).length ≤ 4840000 := Nat.le_trans (pull_len _) (wordN_len h1 h2)
theorem sc_string_of_way : FnScope ["pegs", "way"] ["pegs", "way"] (defScope s_string_of_way) := ⟨rfl, rfl, rfl, by decide +kernel, rfl, by decide +kernel, by decide +kernel⟩
theorem ok_string_of_way {Pt : Addr} (G : Got K mg "string_of_way" ["pegs", "way"] s_string_of_way) (Dp : DefOk P w K mg base 1 "pulled" ["letters"] spPulled) (Dl : DefOk P w K mg base 4 "letters_of_way" ["pegs", "way"] (spLway Pt)) :
    DefOk P w K mg base 5 "string_of_way" ["pegs", "way"] (spStr Pt) := by
  refine G.ok sc_string_of_way (fun vs H Q E h => ?_) (fun f cdv A outer s H vs Q E hr h => ?_)
  · obtain ⟨p, q, ms, ws, rfl, _⟩ := h
    rfl
  · obtain ⟨p, q, ms, ws, rfl, hA, hB, hmid, hne, hle, hms, tb, k⟩ := h
    refine ⟨_, pss_one (ps_ret (pe_def (Dp.mono (by decide : 1 ≤ 4)) hr rfl (pa_cons (pe_def Dl hr rfl (pa_cons (pv 0) (pa_cons (pv 1) pa_nil))) pa_nil))), ?_⟩
    exact ⟨_, rfl, _, rfl, p, q, ms, ws, rfl, hA, hB, hmid, hne, hle, hms, tb, fun H1 r s1 tb1 hL => ⟨r, wordN ms ws, rfl, hL, wordN_len hms hle, fun H2 r2 s2 h2 => k H2 r2 (s1.trans (SameT.of s2)) (tb1.same s2) h2⟩⟩
def spLeft (Pt : Addr) (K : PySem.W.Frag) : Sp := fun vs H Q _ => ∃ m ms a ns b os, vs = [.ref m, .ref a, .ref b] ∧ SqL K H m (ms.map V.int) ∧ SqL K H a (ns.map V.int) ∧ SqL K H b (os.map V.int) ∧ ms.length % 2 = 0 ∧ ms.length ≤ 2200 ∧ ns.length % 2 = 0 ∧ ns.length ≤ 2200 ∧ os.length % 2 = 0 ∧ os.length ≤ 2200 ∧ TbOk Pt lamPos lamQual H ∧
  ∀ H' p, H' p = some (.lst ((PyWqatcv.left ms ns os).map V.int)) → Q (.ref p) H'
theorem LsAt.turned {H : Hp} {p q r : Addr} {u v : List Rg.Pt} {as bs : List Addr} (h : LsAt PtAt H p u as) (h2 : LsAt PtAt H q v bs) (hr : H r = some (.lst ((as.map V.ref).reverse ++ bs.map V.ref))) : LsAt PtAt H r (u.reverse ++ v) (as.reverse ++ bs) := by
  have l1 := h.len
  refine ⟨by rw [hr, List.map_append, List.map_reverse], by simp [h.len, h2.len], fun j a x ha hx => ?_⟩
  by_cases hj : j < as.length
  · rw [List.getElem?_append_left (by rw [List.length_reverse]; exact hj), List.getElem?_reverse hj] at ha
    rw [List.getElem?_append_left (by rw [List.length_reverse]; omega), List.getElem?_reverse (by omega), ← l1] at hx
    exact h.at_ _ a x ha hx
  · rw [List.getElem?_append_right (by rw [List.length_reverse]; omega), List.length_reverse] at ha
    rw [List.getElem?_append_right (by rw [List.length_reverse]; omega), List.length_reverse, ← l1] at hx
    exact h2.at_ _ a x ha hx
theorem sc_left : FnScope ["marks", "a", "b", "pegs", "one", "other", "refused", "letters"] ["marks", "a", "b"] (defScope s_left) := ⟨rfl, rfl, rfl, by decide +kernel, rfl, by decide +kernel, by decide +kernel⟩
theorem ok_left {f Pt : Addr} {fd : FuncData} (F : Fun K "left" "left" s_left f fd) (hlen : mg "len" = none) (hlist : mg "list" = none) (hrev : mg "reversed" = none) (Dp : DefOk P w K mg base 1 "places_of" ["numbers"] (spPlaces K)) (Dr : DefOk P w K mg base 5 "refusal_of_branching" ["pegs", "one", "other"] spBranch)
    (Dl : DefOk P w K mg base 5 "string_of_way" ["pegs", "way"] (spStr Pt)) : FnOk P w K mg base CX0 6 f fd ["marks", "a", "b"] (spLeft Pt K) := by
  refine F.ok sc_left (fun vs H Q E h => ?_) (fun cdv A outer s H vs Q E hr h => ?_)
  · obtain ⟨m, ms, a, ns, b, os, rfl, _⟩ := h
    rfl
  · obtain ⟨m, ms, a, ns, b, os, rfl, hm, ha, hb, e1, l1, e2, l2, e3, l3, tb, k⟩ := h
    have nd := sc_left.nd
    have Dp4 := Dp.mono (by decide : 1 ≤ 5)
    refine ⟨_, pss_cons (ps_set (i := 3) nd rfl (Or.inl rfl) (pe_def Dp4 hr rfl (pa_cons (pv 0) pa_nil)))
      (pss_cons (ps_set (i := 4) nd rfl (Or.inl rfl) (pe_def Dp4 hr rfl (pa_cons (pv 1) pa_nil)))
      (pss_cons (ps_set (i := 5) nd rfl (Or.inl rfl) (pe_def Dp4 hr rfl (pa_cons (pv 2) pa_nil)))
      (pss_cons (ps_set (i := 6) nd rfl (Or.inl rfl) (pe_def Dr hr rfl (pa_cons (pv 3) (pa_cons (pv 4) (pa_cons (pv 5) pa_nil)))))
      (pss_cons (ps_if (pt_cmpR op_ne (pv 6) pe_int (nomark _)) (pss_one (ps_ret (pe_lst (pa_cons (pv 6) pa_nil)))) pss_nil)
      (pss_cons (ps_set (i := 7) nd rfl (Or.inl rfl) (pe_def Dl hr rfl (pa_cons (pv 3) (pa_cons (pe_op op_cat (pe_listRev rfl hlist rfl hrev (pv 4) rfl) (pv 5)) pa_nil))))
      (pss_one (ps_ret (pe_op op_cat (pe_lst (pa_cons (pe_callB call_len_seq rfl hlen bt_len (pa_cons (pv 7) pa_nil)) pa_nil)) (pv 7))))))))), ?_⟩
    refine ⟨_, rfl, m, ms, rfl, hm, e1, l1, fun H1 p s1 A1 => ?_⟩
    refine ⟨_, rfl, a, ns, rfl, s1.seq ha, e2, l2, fun H2 q s2 B2 => ?_⟩
    refine ⟨_, rfl, b, os, rfl, s2.seq (s1.seq hb), e3, l3, fun H2' r s2' C2 => ?_⟩
    refine ⟨_, rfl, _, rfl, _, rfl, p, q, r, _, _, _, rfl, (A1.same tame_pt s2).same tame_pt s2', B2.same tame_pt s2', C2, by rw [pts_len]; omega, fun H3 s3 => ?_⟩
    have A3 := ((A1.same tame_pt s2).same tame_pt s2').same tame_pt s3
    have B3 := (B2.same tame_pt s2').same tame_pt s3
    have C3 := C2.same tame_pt s3
    have tb3 := (((tb.same s1).same s2).same s2').same s3
    refine ⟨_, rfl, rfl, _, rfl, ?_⟩
    rw [leftL_is] at k
    by_cases e : refusalB (WqatcvNeutral.pts ms) (WqatcvNeutral.pts ns) (WqatcvNeutral.pts os) = 0
    · rw [if_neg (by rw [dec_int, e]; decide)]
      rw [if_neg (by simp [e])] at k
      have hz := (refusalL_zero (refusalUL_zero (refusalB_zero e).1).1).2
      have hhd := (refusalB_zero e).2
      obtain ⟨ne1, m1, ok1⟩ := hz (WqatcvNeutral.pts ns) (by simp)
      obtain ⟨ne2, m2, ok2⟩ := hz (WqatcvNeutral.pts os) (by simp)
      have b1 : (WqatcvNeutral.pts ms).length ≤ 2200 := by rw [pts_len]; omega
      rw [← left_str ne1 ne2 hhd] at k
      generalize WqatcvNeutral.pts ms = M at *
      generalize WqatcvNeutral.pts ns = U at *
      generalize WqatcvNeutral.pts os = W at *
      obtain ⟨bs, LU⟩ := B3
      obtain ⟨cs, LW⟩ := C3
      refine ⟨_, rfl, _, rfl, q, _, rfl, SqL.of LU.lst, fun t ht => ?_⟩
      have s4 := same_new (o := .lst (bs.map V.ref).reverse) ht
      refine ⟨_, rfl, t, r, _, _, rfl, rfl, upd_same, s4 _ _ LW.lst, by rw [List.length_reverse, LU.mlen, LW.mlen, sizeLine_eq]; omega, fun z hz => ?_⟩
      have s5 := same_new (o := .lst ((bs.map V.ref).reverse ++ cs.map V.ref)) hz
      have LZ := LsAt.turned ((LU.same tame_pt s4).same tame_pt s5) ((LW.same tame_pt s4).same tame_pt s5) (r := z) upd_same
      have b2 : (U.reverse ++ W).length ≤ 2200 := by rw [List.length_append, List.length_reverse]; omega
      refine ⟨p, z, M, U.reverse ++ W, rfl, (A3.same tame_pt s4).same tame_pt s5, ⟨_, LZ⟩, fun x hx => ?_, by rw [List.length_append]; omega, b2, b1, (tb3.same s4).same s5, fun H4 y s6 _ hL => ?_⟩
      · rcases List.mem_append.mp hx with hx | hx
        · exact mid_ok (ok1 x (List.mem_reverse.mp hx))
        · exact mid_ok (ok2 x hx)
      refine ⟨_, rfl, _, _, rfl, .inl (SqL.of hL), by show 1 ≤ sizeLine; decide, fun t2 ht2 => ?_⟩
      refine ⟨_, rfl, t2, y, _, _, rfl, rfl, upd_same, by rw [upd_ne (ne_of_none hL ht2)]; exact hL, ?_, fun z2 hz2 => k _ z2 ?_⟩
      · have h1 := strN_len b1 b2
        rw [numsV_len, sizeLine_eq]
        show 1 + _ ≤ _
        omega
      · rw [upd_same]
        unfold numsV
        rw [List.length_map, List.map_cons]
        rfl
    · rw [if_pos (by rw [dec_int]; simpa using e)]
      rw [if_pos e] at k
      exact ⟨_, rfl, by show 1 ≤ sizeLine; decide, fun l hl => k _ l upd_same⟩
end
theorem all_mk {P : Program} {w : World} {K : PySem.W.Frag} {h : Heap} {mg : Str → Option Value} {fa : Addr} (X : K.In h) (G : h.Ns mainGlobals mg) (hfa : mg "left" = some (.ref fa))
    {f_places_of : Addr} {od_places_of an_places_of : Option Addr} {sl_places_of : Array (Option Value)} {oc_places_of kV_places_of dc_places_of pm_places_of cd_places_of ct_places_of : Value}
    {f_is_count : Addr} {od_is_count an_is_count : Option Addr} {sl_is_count : Array (Option Value)} {oc_is_count kV_is_count dc_is_count pm_is_count cd_is_count ct_is_count : Value}
    {f_has_far_place : Addr} {od_has_far_place an_has_far_place : Option Addr} {sl_has_far_place : Array (Option Value)} {oc_has_far_place kV_has_far_place dc_has_far_place pm_has_far_place cd_has_far_place ct_has_far_place : Value}
    {f_has_place_twice : Addr} {od_has_place_twice an_has_place_twice : Option Addr} {sl_has_place_twice : Array (Option Value)} {oc_has_place_twice kV_has_place_twice dc_has_place_twice pm_has_place_twice cd_has_place_twice ct_has_place_twice : Value}
    {f_refusal_of_places : Addr} {od_refusal_of_places an_refusal_of_places : Option Addr} {sl_refusal_of_places : Array (Option Value)} {oc_refusal_of_places kV_refusal_of_places dc_refusal_of_places pm_refusal_of_places cd_refusal_of_places ct_refusal_of_places : Value}
    {f_steps_of : Addr} {od_steps_of an_steps_of : Option Addr} {sl_steps_of : Array (Option Value)} {oc_steps_of kV_steps_of dc_steps_of pm_steps_of cd_steps_of ct_steps_of : Value}
    {f_is_between : Addr} {od_is_between an_is_between : Option Addr} {sl_is_between : Array (Option Value)} {oc_is_between kV_is_between dc_is_between pm_is_between cd_is_between ct_is_between : Value}
    {f_side_of : Addr} {od_side_of an_side_of : Option Addr} {sl_side_of : Array (Option Value)} {oc_side_of kV_side_of dc_side_of pm_side_of cd_side_of ct_side_of : Value}
    {f_lies_on : Addr} {od_lies_on an_lies_on : Option Addr} {sl_lies_on : Array (Option Value)} {oc_lies_on kV_lies_on dc_lies_on pm_lies_on cd_lies_on ct_lies_on : Value}
    {f_first_touch : Addr} {od_first_touch an_first_touch : Option Addr} {sl_first_touch : Array (Option Value)} {oc_first_touch kV_first_touch dc_first_touch pm_first_touch cd_first_touch ct_first_touch : Value}
    {f_refusal_of_untouching : Addr} {od_refusal_of_untouching an_refusal_of_untouching : Option Addr} {sl_refusal_of_untouching : Array (Option Value)} {oc_refusal_of_untouching kV_refusal_of_untouching dc_refusal_of_untouching pm_refusal_of_untouching cd_refusal_of_untouching ct_refusal_of_untouching : Value}
    {f_refusal_of_branching : Addr} {od_refusal_of_branching an_refusal_of_branching : Option Addr} {sl_refusal_of_branching : Array (Option Value)} {oc_refusal_of_branching kV_refusal_of_branching dc_refusal_of_branching pm_refusal_of_branching cd_refusal_of_branching ct_refusal_of_branching : Value}
    {f_is_crossed : Addr} {od_is_crossed an_is_crossed : Option Addr} {sl_is_crossed : Array (Option Value)} {oc_is_crossed kV_is_crossed dc_is_crossed pm_is_crossed cd_is_crossed ct_is_crossed : Value}
    {f_letters_of_step : Addr} {od_letters_of_step an_letters_of_step : Option Addr} {sl_letters_of_step : Array (Option Value)} {oc_letters_of_step kV_letters_of_step dc_letters_of_step pm_letters_of_step cd_letters_of_step ct_letters_of_step : Value}
    {cT Pt : Addr}
    {f_letters_of_way : Addr} {od_letters_of_way an_letters_of_way : Option Addr} {sl_letters_of_way : Array (Option Value)} {oc_letters_of_way kV_letters_of_way dc_letters_of_way pm_letters_of_way ct_letters_of_way : Value}
    {f_pulled : Addr} {od_pulled an_pulled : Option Addr} {sl_pulled : Array (Option Value)} {oc_pulled kV_pulled dc_pulled pm_pulled cd_pulled ct_pulled : Value}
    {f_string_of_way : Addr} {od_string_of_way an_string_of_way : Option Addr} {sl_string_of_way : Array (Option Value)} {oc_string_of_way kV_string_of_way dc_string_of_way pm_string_of_way cd_string_of_way ct_string_of_way : Value}
    {f_left : Addr} {od_left an_left : Option Addr} {sl_left : Array (Option Value)} {oc_left kV_left dc_left pm_left cd_left ct_left : Value}
    {t_MOST_MARKS : Tok}
    {t_MOST_PLACES : Tok}
    {t_FARTHEST : Tok}
    {t_WRONG_COUNT : Tok}
    {t_WRONG_PLACE : Tok}
    {t_OTHER_ENDS : Tok}
    {t_TOUCHES_MARK : Tok}
    (a_places_of : PySem.W.nsIn K mainGlobals "places_of" = some (some (.ref f_places_of))) (l_places_of : K.lookup f_places_of = some ⟨oc_places_of, od_places_of, .func (PySem.W.fnOf "places_of" "places_of" (defArgs s_places_of) (defBody s_places_of) (defScope s_places_of) .none kV_places_of dc_places_of pm_places_of an_places_of cd_places_of ct_places_of), sl_places_of⟩) (c_places_of : PySem.W.codeIn K cd_places_of "places_of" = true) (k_places_of : PySem.W.keepIn K (.ref f_places_of) = true)
    (a_is_count : PySem.W.nsIn K mainGlobals "is_count" = some (some (.ref f_is_count))) (l_is_count : K.lookup f_is_count = some ⟨oc_is_count, od_is_count, .func (PySem.W.fnOf "is_count" "is_count" (defArgs s_is_count) (defBody s_is_count) (defScope s_is_count) .none kV_is_count dc_is_count pm_is_count an_is_count cd_is_count ct_is_count), sl_is_count⟩) (c_is_count : PySem.W.codeIn K cd_is_count "is_count" = true) (k_is_count : PySem.W.keepIn K (.ref f_is_count) = true)
    (a_has_far_place : PySem.W.nsIn K mainGlobals "has_far_place" = some (some (.ref f_has_far_place))) (l_has_far_place : K.lookup f_has_far_place = some ⟨oc_has_far_place, od_has_far_place, .func (PySem.W.fnOf "has_far_place" "has_far_place" (defArgs s_has_far_place) (defBody s_has_far_place) (defScope s_has_far_place) .none kV_has_far_place dc_has_far_place pm_has_far_place an_has_far_place cd_has_far_place ct_has_far_place), sl_has_far_place⟩) (c_has_far_place : PySem.W.codeIn K cd_has_far_place "has_far_place" = true) (k_has_far_place : PySem.W.keepIn K (.ref f_has_far_place) = true)
    (a_has_place_twice : PySem.W.nsIn K mainGlobals "has_place_twice" = some (some (.ref f_has_place_twice))) (l_has_place_twice : K.lookup f_has_place_twice = some ⟨oc_has_place_twice, od_has_place_twice, .func (PySem.W.fnOf "has_place_twice" "has_place_twice" (defArgs s_has_place_twice) (defBody s_has_place_twice) (defScope s_has_place_twice) .none kV_has_place_twice dc_has_place_twice pm_has_place_twice an_has_place_twice cd_has_place_twice ct_has_place_twice), sl_has_place_twice⟩) (c_has_place_twice : PySem.W.codeIn K cd_has_place_twice "has_place_twice" = true) (k_has_place_twice : PySem.W.keepIn K (.ref f_has_place_twice) = true)
    (a_refusal_of_places : PySem.W.nsIn K mainGlobals "refusal_of_places" = some (some (.ref f_refusal_of_places))) (l_refusal_of_places : K.lookup f_refusal_of_places = some ⟨oc_refusal_of_places, od_refusal_of_places, .func (PySem.W.fnOf "refusal_of_places" "refusal_of_places" (defArgs s_refusal_of_places) (defBody s_refusal_of_places) (defScope s_refusal_of_places) .none kV_refusal_of_places dc_refusal_of_places pm_refusal_of_places an_refusal_of_places cd_refusal_of_places ct_refusal_of_places), sl_refusal_of_places⟩) (c_refusal_of_places : PySem.W.codeIn K cd_refusal_of_places "refusal_of_places" = true) (k_refusal_of_places : PySem.W.keepIn K (.ref f_refusal_of_places) = true)
    (a_steps_of : PySem.W.nsIn K mainGlobals "steps_of" = some (some (.ref f_steps_of))) (l_steps_of : K.lookup f_steps_of = some ⟨oc_steps_of, od_steps_of, .func (PySem.W.fnOf "steps_of" "steps_of" (defArgs s_steps_of) (defBody s_steps_of) (defScope s_steps_of) .none kV_steps_of dc_steps_of pm_steps_of an_steps_of cd_steps_of ct_steps_of), sl_steps_of⟩) (c_steps_of : PySem.W.codeIn K cd_steps_of "steps_of" = true) (k_steps_of : PySem.W.keepIn K (.ref f_steps_of) = true)
    (a_is_between : PySem.W.nsIn K mainGlobals "is_between" = some (some (.ref f_is_between))) (l_is_between : K.lookup f_is_between = some ⟨oc_is_between, od_is_between, .func (PySem.W.fnOf "is_between" "is_between" (defArgs s_is_between) (defBody s_is_between) (defScope s_is_between) .none kV_is_between dc_is_between pm_is_between an_is_between cd_is_between ct_is_between), sl_is_between⟩) (c_is_between : PySem.W.codeIn K cd_is_between "is_between" = true) (k_is_between : PySem.W.keepIn K (.ref f_is_between) = true)
    (a_side_of : PySem.W.nsIn K mainGlobals "side_of" = some (some (.ref f_side_of))) (l_side_of : K.lookup f_side_of = some ⟨oc_side_of, od_side_of, .func (PySem.W.fnOf "side_of" "side_of" (defArgs s_side_of) (defBody s_side_of) (defScope s_side_of) .none kV_side_of dc_side_of pm_side_of an_side_of cd_side_of ct_side_of), sl_side_of⟩) (c_side_of : PySem.W.codeIn K cd_side_of "side_of" = true) (k_side_of : PySem.W.keepIn K (.ref f_side_of) = true)
    (a_lies_on : PySem.W.nsIn K mainGlobals "lies_on" = some (some (.ref f_lies_on))) (l_lies_on : K.lookup f_lies_on = some ⟨oc_lies_on, od_lies_on, .func (PySem.W.fnOf "lies_on" "lies_on" (defArgs s_lies_on) (defBody s_lies_on) (defScope s_lies_on) .none kV_lies_on dc_lies_on pm_lies_on an_lies_on cd_lies_on ct_lies_on), sl_lies_on⟩) (c_lies_on : PySem.W.codeIn K cd_lies_on "lies_on" = true) (k_lies_on : PySem.W.keepIn K (.ref f_lies_on) = true)
    (a_first_touch : PySem.W.nsIn K mainGlobals "first_touch" = some (some (.ref f_first_touch))) (l_first_touch : K.lookup f_first_touch = some ⟨oc_first_touch, od_first_touch, .func (PySem.W.fnOf "first_touch" "first_touch" (defArgs s_first_touch) (defBody s_first_touch) (defScope s_first_touch) .none kV_first_touch dc_first_touch pm_first_touch an_first_touch cd_first_touch ct_first_touch), sl_first_touch⟩) (c_first_touch : PySem.W.codeIn K cd_first_touch "first_touch" = true) (k_first_touch : PySem.W.keepIn K (.ref f_first_touch) = true)
    (a_refusal_of_untouching : PySem.W.nsIn K mainGlobals "refusal_of_untouching" = some (some (.ref f_refusal_of_untouching))) (l_refusal_of_untouching : K.lookup f_refusal_of_untouching = some ⟨oc_refusal_of_untouching, od_refusal_of_untouching, .func (PySem.W.fnOf "refusal_of_untouching" "refusal_of_untouching" (defArgs s_refusal_of_untouching) (defBody s_refusal_of_untouching) (defScope s_refusal_of_untouching) .none kV_refusal_of_untouching dc_refusal_of_untouching pm_refusal_of_untouching an_refusal_of_untouching cd_refusal_of_untouching ct_refusal_of_untouching), sl_refusal_of_untouching⟩) (c_refusal_of_untouching : PySem.W.codeIn K cd_refusal_of_untouching "refusal_of_untouching" = true) (k_refusal_of_untouching : PySem.W.keepIn K (.ref f_refusal_of_untouching) = true)
    (a_refusal_of_branching : PySem.W.nsIn K mainGlobals "refusal_of_branching" = some (some (.ref f_refusal_of_branching))) (l_refusal_of_branching : K.lookup f_refusal_of_branching = some ⟨oc_refusal_of_branching, od_refusal_of_branching, .func (PySem.W.fnOf "refusal_of_branching" "refusal_of_branching" (defArgs s_refusal_of_branching) (defBody s_refusal_of_branching) (defScope s_refusal_of_branching) .none kV_refusal_of_branching dc_refusal_of_branching pm_refusal_of_branching an_refusal_of_branching cd_refusal_of_branching ct_refusal_of_branching), sl_refusal_of_branching⟩) (c_refusal_of_branching : PySem.W.codeIn K cd_refusal_of_branching "refusal_of_branching" = true) (k_refusal_of_branching : PySem.W.keepIn K (.ref f_refusal_of_branching) = true)
    (a_is_crossed : PySem.W.nsIn K mainGlobals "is_crossed" = some (some (.ref f_is_crossed))) (l_is_crossed : K.lookup f_is_crossed = some ⟨oc_is_crossed, od_is_crossed, .func (PySem.W.fnOf "is_crossed" "is_crossed" (defArgs s_is_crossed) (defBody s_is_crossed) (defScope s_is_crossed) .none kV_is_crossed dc_is_crossed pm_is_crossed an_is_crossed cd_is_crossed ct_is_crossed), sl_is_crossed⟩) (c_is_crossed : PySem.W.codeIn K cd_is_crossed "is_crossed" = true) (k_is_crossed : PySem.W.keepIn K (.ref f_is_crossed) = true)
    (a_letters_of_step : PySem.W.nsIn K mainGlobals "letters_of_step" = some (some (.ref f_letters_of_step))) (l_letters_of_step : K.lookup f_letters_of_step = some ⟨oc_letters_of_step, od_letters_of_step, .func (PySem.W.fnOf "letters_of_step" "letters_of_step" (defArgs s_letters_of_step) (defBody s_letters_of_step) (defScope s_letters_of_step) .none kV_letters_of_step dc_letters_of_step pm_letters_of_step an_letters_of_step cd_letters_of_step ct_letters_of_step), sl_letters_of_step⟩) (c_letters_of_step : PySem.W.codeIn K cd_letters_of_step "letters_of_step" = true) (k_letters_of_step : PySem.W.keepIn K (.ref f_letters_of_step) = true)
    (a_letters_of_way : PySem.W.nsIn K mainGlobals "letters_of_way" = some (some (.ref f_letters_of_way))) (l_letters_of_way : K.lookup f_letters_of_way = some ⟨oc_letters_of_way, od_letters_of_way, .func (PySem.W.fnOf "letters_of_way" "letters_of_way" (defArgs s_letters_of_way) (defBody s_letters_of_way) (defScope s_letters_of_way) .none kV_letters_of_way dc_letters_of_way pm_letters_of_way an_letters_of_way (.ref cT) ct_letters_of_way), sl_letters_of_way⟩) (c_letters_of_way : PySem.W.codeIn K (.ref cT) "letters_of_way" = true) (k_letters_of_way : PySem.W.keepIn K (.ref f_letters_of_way) = true)
    (a_pulled : PySem.W.nsIn K mainGlobals "pulled" = some (some (.ref f_pulled))) (l_pulled : K.lookup f_pulled = some ⟨oc_pulled, od_pulled, .func (PySem.W.fnOf "pulled" "pulled" (defArgs s_pulled) (defBody s_pulled) (defScope s_pulled) .none kV_pulled dc_pulled pm_pulled an_pulled cd_pulled ct_pulled), sl_pulled⟩) (c_pulled : PySem.W.codeIn K cd_pulled "pulled" = true) (k_pulled : PySem.W.keepIn K (.ref f_pulled) = true)
    (a_string_of_way : PySem.W.nsIn K mainGlobals "string_of_way" = some (some (.ref f_string_of_way))) (l_string_of_way : K.lookup f_string_of_way = some ⟨oc_string_of_way, od_string_of_way, .func (PySem.W.fnOf "string_of_way" "string_of_way" (defArgs s_string_of_way) (defBody s_string_of_way) (defScope s_string_of_way) .none kV_string_of_way dc_string_of_way pm_string_of_way an_string_of_way cd_string_of_way ct_string_of_way), sl_string_of_way⟩) (c_string_of_way : PySem.W.codeIn K cd_string_of_way "string_of_way" = true) (k_string_of_way : PySem.W.keepIn K (.ref f_string_of_way) = true)
    (a_left : PySem.W.nsIn K mainGlobals "left" = some (some (.ref f_left))) (l_left : K.lookup f_left = some ⟨oc_left, od_left, .func (PySem.W.fnOf "left" "left" (defArgs s_left) (defBody s_left) (defScope s_left) .none kV_left dc_left pm_left an_left cd_left ct_left), sl_left⟩) (c_left : PySem.W.codeIn K cd_left "left" = true) (k_left : PySem.W.keepIn K (.ref f_left) = true)
    (n_MOST_MARKS : PySem.W.nsIn K mainGlobals "MOST_MARKS" = some (some (.int (32) t_MOST_MARKS)))
    (n_MOST_PLACES : PySem.W.nsIn K mainGlobals "MOST_PLACES" = some (some (.int (1024) t_MOST_PLACES)))
    (n_FARTHEST : PySem.W.nsIn K mainGlobals "FARTHEST" = some (some (.int (1048576) t_FARTHEST)))
    (n_WRONG_COUNT : PySem.W.nsIn K mainGlobals "WRONG_COUNT" = some (some (.int (-2) t_WRONG_COUNT)))
    (n_WRONG_PLACE : PySem.W.nsIn K mainGlobals "WRONG_PLACE" = some (some (.int (-8) t_WRONG_PLACE)))
    (n_OTHER_ENDS : PySem.W.nsIn K mainGlobals "OTHER_ENDS" = some (some (.int (-8) t_OTHER_ENDS)))
    (n_TOUCHES_MARK : PySem.W.nsIn K mainGlobals "TOUCHES_MARK" = some (some (.int (-9) t_TOUCHES_MARK)))
    (z_len : PySem.W.nsIn K mainGlobals "len" = some none)
    (z_range : PySem.W.nsIn K mainGlobals "range" = some none)
    (z_abs : PySem.W.nsIn K mainGlobals "abs" = some none)
    (z_min : PySem.W.nsIn K mainGlobals "min" = some none)
    (z_max : PySem.W.nsIn K mainGlobals "max" = some none)
    (z_enumerate : PySem.W.nsIn K mainGlobals "enumerate" = some none)
    (z_sorted : PySem.W.nsIn K mainGlobals "sorted" = some none)
    (z_reversed : PySem.W.nsIn K mainGlobals "reversed" = some none)
    (z_list : PySem.W.nsIn K mainGlobals "list" = some none) :
    ∃ fd : FuncData, (∀ (s : Shared) (us : List Value), us.length = (["marks", "a", "b"] : List Str).length → BindsTo s fd ⟨us, []⟩ ((["marks", "a", "b"] : List Str).zip us)) ∧ ∀ base : Heap, K.In base → base.Ns mainGlobals mg → Code base mg cT Pt → FnOk P w K mg base CX0 6 fa fd ["marks", "a", "b"] (spLeft Pt K) := by
  have e := hfa.symm.trans (PySem.W.mg_of X G a_left)
  cases e
  have F_places_of := fun_mk (st := s_places_of) l_places_of c_places_of k_places_of
  have G_places_of : Got K mg "places_of" ["numbers"] s_places_of := ⟨_, _, F_places_of, PySem.W.mg_of X G a_places_of, F_places_of.binds (ps := ["numbers"]) fun _ _ _ _ _ _ us hl => match us, hl with | [_], _ => rfl⟩
  have F_is_count := fun_mk (st := s_is_count) l_is_count c_is_count k_is_count
  have G_is_count : Got K mg "is_count" ["count", "most"] s_is_count := ⟨_, _, F_is_count, PySem.W.mg_of X G a_is_count, F_is_count.binds (ps := ["count", "most"]) fun _ _ _ _ _ _ us hl => match us, hl with | [_, _], _ => rfl⟩
  have F_has_far_place := fun_mk (st := s_has_far_place) l_has_far_place c_has_far_place k_has_far_place
  have G_has_far_place : Got K mg "has_far_place" ["places"] s_has_far_place := ⟨_, _, F_has_far_place, PySem.W.mg_of X G a_has_far_place, F_has_far_place.binds (ps := ["places"]) fun _ _ _ _ _ _ us hl => match us, hl with | [_], _ => rfl⟩
  have F_has_place_twice := fun_mk (st := s_has_place_twice) l_has_place_twice c_has_place_twice k_has_place_twice
  have G_has_place_twice : Got K mg "has_place_twice" ["places"] s_has_place_twice := ⟨_, _, F_has_place_twice, PySem.W.mg_of X G a_has_place_twice, F_has_place_twice.binds (ps := ["places"]) fun _ _ _ _ _ _ us hl => match us, hl with | [_], _ => rfl⟩
  have F_refusal_of_places := fun_mk (st := s_refusal_of_places) l_refusal_of_places c_refusal_of_places k_refusal_of_places
  have G_refusal_of_places : Got K mg "refusal_of_places" ["pegs", "ways"] s_refusal_of_places := ⟨_, _, F_refusal_of_places, PySem.W.mg_of X G a_refusal_of_places, F_refusal_of_places.binds (ps := ["pegs", "ways"]) fun _ _ _ _ _ _ us hl => match us, hl with | [_, _], _ => rfl⟩
  have F_steps_of := fun_mk (st := s_steps_of) l_steps_of c_steps_of k_steps_of
  have G_steps_of : Got K mg "steps_of" ["way"] s_steps_of := ⟨_, _, F_steps_of, PySem.W.mg_of X G a_steps_of, F_steps_of.binds (ps := ["way"]) fun _ _ _ _ _ _ us hl => match us, hl with | [_], _ => rfl⟩
  have F_is_between := fun_mk (st := s_is_between) l_is_between c_is_between k_is_between
  have G_is_between : Got K mg "is_between" ["number", "one", "other"] s_is_between := ⟨_, _, F_is_between, PySem.W.mg_of X G a_is_between, F_is_between.binds (ps := ["number", "one", "other"]) fun _ _ _ _ _ _ us hl => match us, hl with | [_, _, _], _ => rfl⟩
  have F_side_of := fun_mk (st := s_side_of) l_side_of c_side_of k_side_of
  have G_side_of : Got K mg "side_of" ["place", "start", "end"] s_side_of := ⟨_, _, F_side_of, PySem.W.mg_of X G a_side_of, F_side_of.binds (ps := ["place", "start", "end"]) fun _ _ _ _ _ _ us hl => match us, hl with | [_, _, _], _ => rfl⟩
  have F_lies_on := fun_mk (st := s_lies_on) l_lies_on c_lies_on k_lies_on
  have G_lies_on : Got K mg "lies_on" ["place", "start", "end"] s_lies_on := ⟨_, _, F_lies_on, PySem.W.mg_of X G a_lies_on, F_lies_on.binds (ps := ["place", "start", "end"]) fun _ _ _ _ _ _ us hl => match us, hl with | [_, _, _], _ => rfl⟩
  have F_first_touch := fun_mk (st := s_first_touch) l_first_touch c_first_touch k_first_touch
  have G_first_touch : Got K mg "first_touch" ["pegs", "way"] s_first_touch := ⟨_, _, F_first_touch, PySem.W.mg_of X G a_first_touch, F_first_touch.binds (ps := ["pegs", "way"]) fun _ _ _ _ _ _ us hl => match us, hl with | [_, _], _ => rfl⟩
  have F_refusal_of_untouching := fun_mk (st := s_refusal_of_untouching) l_refusal_of_untouching c_refusal_of_untouching k_refusal_of_untouching
  have G_refusal_of_untouching : Got K mg "refusal_of_untouching" ["pegs", "ways"] s_refusal_of_untouching := ⟨_, _, F_refusal_of_untouching, PySem.W.mg_of X G a_refusal_of_untouching, F_refusal_of_untouching.binds (ps := ["pegs", "ways"]) fun _ _ _ _ _ _ us hl => match us, hl with | [_, _], _ => rfl⟩
  have F_refusal_of_branching := fun_mk (st := s_refusal_of_branching) l_refusal_of_branching c_refusal_of_branching k_refusal_of_branching
  have G_refusal_of_branching : Got K mg "refusal_of_branching" ["pegs", "one", "other"] s_refusal_of_branching := ⟨_, _, F_refusal_of_branching, PySem.W.mg_of X G a_refusal_of_branching, F_refusal_of_branching.binds (ps := ["pegs", "one", "other"]) fun _ _ _ _ _ _ us hl => match us, hl with | [_, _, _], _ => rfl⟩
  have F_is_crossed := fun_mk (st := s_is_crossed) l_is_crossed c_is_crossed k_is_crossed
  have G_is_crossed : Got K mg "is_crossed" ["peg", "west", "east"] s_is_crossed := ⟨_, _, F_is_crossed, PySem.W.mg_of X G a_is_crossed, F_is_crossed.binds (ps := ["peg", "west", "east"]) fun _ _ _ _ _ _ us hl => match us, hl with | [_, _, _], _ => rfl⟩
  have F_letters_of_step := fun_mk (st := s_letters_of_step) l_letters_of_step c_letters_of_step k_letters_of_step
  have G_letters_of_step : Got K mg "letters_of_step" ["pegs", "eastward", "start", "end"] s_letters_of_step := ⟨_, _, F_letters_of_step, PySem.W.mg_of X G a_letters_of_step, F_letters_of_step.binds (ps := ["pegs", "eastward", "start", "end"]) fun _ _ _ _ _ _ us hl => match us, hl with | [_, _, _, _], _ => rfl⟩
  have F_letters_of_way := fun_mk (st := s_letters_of_way) l_letters_of_way c_letters_of_way k_letters_of_way
  have B_letters_of_way : Binds K _ ["pegs", "way"] [] := F_letters_of_way.binds (ps := ["pegs", "way"]) fun _ _ _ _ _ _ us hl => match us, hl with | [_, _], _ => rfl
  have F_pulled := fun_mk (st := s_pulled) l_pulled c_pulled k_pulled
  have G_pulled : Got K mg "pulled" ["letters"] s_pulled := ⟨_, _, F_pulled, PySem.W.mg_of X G a_pulled, F_pulled.binds (ps := ["letters"]) fun _ _ _ _ _ _ us hl => match us, hl with | [_], _ => rfl⟩
  have F_string_of_way := fun_mk (st := s_string_of_way) l_string_of_way c_string_of_way k_string_of_way
  have G_string_of_way : Got K mg "string_of_way" ["pegs", "way"] s_string_of_way := ⟨_, _, F_string_of_way, PySem.W.mg_of X G a_string_of_way, F_string_of_way.binds (ps := ["pegs", "way"]) fun _ _ _ _ _ _ us hl => match us, hl with | [_, _], _ => rfl⟩
  have F_left := fun_mk (st := s_left) l_left c_left k_left
  have N_MOST_MARKS : Num mg "MOST_MARKS" (32) := ⟨_, PySem.W.mg_of X G n_MOST_MARKS⟩
  have N_MOST_PLACES : Num mg "MOST_PLACES" (1024) := ⟨_, PySem.W.mg_of X G n_MOST_PLACES⟩
  have N_FARTHEST : Num mg "FARTHEST" (1048576) := ⟨_, PySem.W.mg_of X G n_FARTHEST⟩
  have N_WRONG_COUNT : Num mg "WRONG_COUNT" (-2) := ⟨_, PySem.W.mg_of X G n_WRONG_COUNT⟩
  have N_WRONG_PLACE : Num mg "WRONG_PLACE" (-8) := ⟨_, PySem.W.mg_of X G n_WRONG_PLACE⟩
  have N_OTHER_ENDS : Num mg "OTHER_ENDS" (-8) := ⟨_, PySem.W.mg_of X G n_OTHER_ENDS⟩
  have N_TOUCHES_MARK : Num mg "TOUCHES_MARK" (-9) := ⟨_, PySem.W.mg_of X G n_TOUCHES_MARK⟩
  have Z_len : mg "len" = none := PySem.W.mg_none_of X G z_len
  have Z_range : mg "range" = none := PySem.W.mg_none_of X G z_range
  have Z_abs : mg "abs" = none := PySem.W.mg_none_of X G z_abs
  have Z_min : mg "min" = none := PySem.W.mg_none_of X G z_min
  have Z_max : mg "max" = none := PySem.W.mg_none_of X G z_max
  have Z_enumerate : mg "enumerate" = none := PySem.W.mg_none_of X G z_enumerate
  have Z_sorted : mg "sorted" = none := PySem.W.mg_none_of X G z_sorted
  have Z_reversed : mg "reversed" = none := PySem.W.mg_none_of X G z_reversed
  have Z_list : mg "list" = none := PySem.W.mg_none_of X G z_list
  refine ⟨PySem.W.fnOf "left" "left" (defArgs s_left) (defBody s_left) (defScope s_left) .none kV_left dc_left pm_left an_left cd_left ct_left, fun s us hu => match us, hu with | [_, _, _], _ => .of_eq rfl, fun base _ _ hC => ?_⟩
  have D_places_of := ok_places_of (P := P) (w := w) (base := base) G_places_of Z_len Z_range
  have D_is_count := ok_is_count (P := P) (w := w) (base := base) G_is_count
  have D_has_far_place := ok_has_far_place (P := P) (w := w) (base := base) G_has_far_place Z_abs N_FARTHEST
  have D_has_place_twice := ok_has_place_twice (P := P) (w := w) (base := base) G_has_place_twice
  have D_refusal_of_places := ok_refusal_of_places (P := P) (w := w) (base := base) G_refusal_of_places Z_len N_MOST_MARKS N_MOST_PLACES N_WRONG_COUNT N_WRONG_PLACE D_is_count D_has_far_place D_has_place_twice
  have D_steps_of := ok_steps_of (P := P) (w := w) (base := base) G_steps_of Z_len Z_range
  have D_is_between := ok_is_between (P := P) (w := w) (base := base) G_is_between Z_min Z_max
  have D_side_of := ok_side_of (P := P) (w := w) (base := base) G_side_of
  have D_lies_on := ok_lies_on (P := P) (w := w) (base := base) G_lies_on D_is_between D_side_of
  have D_first_touch := ok_first_touch (P := P) (w := w) (base := base) G_first_touch Z_enumerate D_steps_of D_lies_on
  have D_refusal_of_untouching := ok_refusal_of_untouching (P := P) (w := w) (base := base) G_refusal_of_untouching N_TOUCHES_MARK D_refusal_of_places D_first_touch
  have D_refusal_of_branching := ok_refusal_of_branching (P := P) (w := w) (base := base) G_refusal_of_branching N_OTHER_ENDS D_refusal_of_untouching
  have D_is_crossed := ok_is_crossed (P := P) (w := w) (base := base) G_is_crossed D_side_of
  have D_letters_of_step := ok_letters_of_step (P := P) (w := w) (base := base) G_letters_of_step Z_reversed D_is_crossed
  have D_letters_of_way := ok_letters_of_way (P := P) (w := w) (base := base) F_letters_of_way rfl hC (PySem.W.mg_of X G a_letters_of_way) B_letters_of_way Z_sorted Z_range Z_len D_steps_of D_letters_of_step
  have D_pulled := ok_pulled (P := P) (w := w) (base := base) G_pulled Z_len
  have D_string_of_way := ok_string_of_way (P := P) (w := w) (base := base) G_string_of_way D_pulled D_letters_of_way
  exact ok_left F_left Z_len Z_list Z_reversed D_places_of D_refusal_of_branching D_string_of_way
end Peg
open PySem PySem.W PyProof.Rows
set_option maxRecDepth 100000 in
set_option maxHeartbeats 0 in
theorem PySem.Challenge.cw_peglines_s06_left_holds : PySem.Challenge.rw_peglines_s06_left.Holds := by
  w_on; k_headS; (case hw => exact ⟨[.list [], .list [], .list []], by decide +kernel, by decide +kernel⟩)
  k_fillS
  refine' Peg.walk_specT (r := PySem.Challenge.rw_peglines_s06_left) (k := 6) (x := "letters_of_way") (ps := ["marks", "a", "b"]) (sp := Peg.spLeft ?Pt) (by decide +kernel) rfl ⟨rfl, by decide, by decide⟩ (fun w h Y => PySem.W.kIn_of Y) rfl ?hti ?hKP ?F ?S
  case hti =>
    intro w
    refine' Peg.tabIn_of ?t1 ?t2 ?tc ?t3 ?t4
    (case t1 => k_is)
    (case t2 => k_is)
    (case tc => exact rfl)
    (case t3 => k_is)
    (case t4 => exact rfl)
  case hKP =>
    intro w
    rfl
  case F =>
    intro w mg fa h Y KX G hmg
    refine' Peg.all_mk KX G hmg ?a_places_of ?l_places_of ?c_places_of ?k_places_of ?a_is_count ?l_is_count ?c_is_count ?k_is_count ?a_has_far_place ?l_has_far_place ?c_has_far_place ?k_has_far_place ?a_has_place_twice ?l_has_place_twice ?c_has_place_twice ?k_has_place_twice ?a_refusal_of_places ?l_refusal_of_places ?c_refusal_of_places ?k_refusal_of_places ?a_steps_of ?l_steps_of ?c_steps_of ?k_steps_of ?a_is_between ?l_is_between ?c_is_between ?k_is_between ?a_side_of ?l_side_of ?c_side_of ?k_side_of ?a_lies_on ?l_lies_on ?c_lies_on ?k_lies_on ?a_first_touch ?l_first_touch ?c_first_touch ?k_first_touch ?a_refusal_of_untouching ?l_refusal_of_untouching ?c_refusal_of_untouching ?k_refusal_of_untouching ?a_refusal_of_branching ?l_refusal_of_branching ?c_refusal_of_branching ?k_refusal_of_branching ?a_is_crossed ?l_is_crossed ?c_is_crossed ?k_is_crossed ?a_letters_of_step ?l_letters_of_step ?c_letters_of_step ?k_letters_of_step ?a_letters_of_way ?l_letters_of_way ?c_letters_of_way ?k_letters_of_way ?a_pulled ?l_pulled ?c_pulled ?k_pulled ?a_string_of_way ?l_string_of_way ?c_string_of_way ?k_string_of_way ?a_left ?l_left ?c_left ?k_left ?n_MOST_MARKS ?n_MOST_PLACES ?n_FARTHEST ?n_WRONG_COUNT ?n_WRONG_PLACE ?n_OTHER_ENDS ?n_TOUCHES_MARK ?z_len ?z_range ?z_abs ?z_min ?z_max ?z_enumerate ?z_sorted ?z_reversed ?z_list
    (case a_places_of => k_is)
    (case l_places_of => k_is)
    (case c_places_of => k_is)
    (case k_places_of => k_is)
    (case a_is_count => k_is)
    (case l_is_count => k_is)
    (case c_is_count => k_is)
    (case k_is_count => k_is)
    (case a_has_far_place => k_is)
    (case l_has_far_place => k_is)
    (case c_has_far_place => k_is)
    (case k_has_far_place => k_is)
    (case a_has_place_twice => k_is)
    (case l_has_place_twice => k_is)
    (case c_has_place_twice => k_is)
    (case k_has_place_twice => k_is)
    (case a_refusal_of_places => k_is)
    (case l_refusal_of_places => k_is)
    (case c_refusal_of_places => k_is)
    (case k_refusal_of_places => k_is)
    (case a_steps_of => k_is)
    (case l_steps_of => k_is)
    (case c_steps_of => k_is)
    (case k_steps_of => k_is)
    (case a_is_between => k_is)
    (case l_is_between => k_is)
    (case c_is_between => k_is)
    (case k_is_between => k_is)
    (case a_side_of => k_is)
    (case l_side_of => k_is)
    (case c_side_of => k_is)
    (case k_side_of => k_is)
    (case a_lies_on => k_is)
    (case l_lies_on => k_is)
    (case c_lies_on => k_is)
    (case k_lies_on => k_is)
    (case a_first_touch => k_is)
    (case l_first_touch => k_is)
    (case c_first_touch => k_is)
    (case k_first_touch => k_is)
    (case a_refusal_of_untouching => k_is)
    (case l_refusal_of_untouching => k_is)
    (case c_refusal_of_untouching => k_is)
    (case k_refusal_of_untouching => k_is)
    (case a_refusal_of_branching => k_is)
    (case l_refusal_of_branching => k_is)
    (case c_refusal_of_branching => k_is)
    (case k_refusal_of_branching => k_is)
    (case a_is_crossed => k_is)
    (case l_is_crossed => k_is)
    (case c_is_crossed => k_is)
    (case k_is_crossed => k_is)
    (case a_letters_of_step => k_is)
    (case l_letters_of_step => k_is)
    (case c_letters_of_step => k_is)
    (case k_letters_of_step => k_is)
    (case a_letters_of_way => k_is)
    (case l_letters_of_way => k_is)
    (case c_letters_of_way => k_is)
    (case k_letters_of_way => k_is)
    (case a_pulled => k_is)
    (case l_pulled => k_is)
    (case c_pulled => k_is)
    (case k_pulled => k_is)
    (case a_string_of_way => k_is)
    (case l_string_of_way => k_is)
    (case c_string_of_way => k_is)
    (case k_string_of_way => k_is)
    (case a_left => k_is)
    (case l_left => k_is)
    (case c_left => k_is)
    (case k_left => k_is)
    (case n_MOST_MARKS => k_is)
    (case n_MOST_PLACES => k_is)
    (case n_FARTHEST => k_is)
    (case n_WRONG_COUNT => k_is)
    (case n_WRONG_PLACE => k_is)
    (case n_OTHER_ENDS => k_is)
    (case n_TOUCHES_MARK => k_is)
    (case z_len => k_is)
    (case z_range => k_is)
    (case z_abs => k_is)
    (case z_min => k_is)
    (case z_max => k_is)
    (case z_enumerate => k_is)
    (case z_sorted => k_is)
    (case z_reversed => k_is)
    (case z_list => k_is)
  case S =>
    intro K H0 H xs a hwi hask hx sm hP
    cases hx with
    | cons h1 h2 =>
      cases h2 with
      | cons h2 h3 =>
        cases h3 with
        | cons h3 h4 =>
          cases h4
          cases h1 with
          | lst hs1 ha1 =>
            cases h2 with
            | lst hs2 ha2 =>
              cases h3 with
              | lst hs3 ha3 =>
                have e1 := L2.ints_dw a.1 _ ha1
                have e2 := L2.ints_dw a.2.1 _ ha2
                have e3 := L2.ints_dw a.2.2.1 _ ha3
                subst e1 e2 e3
                have q : ((Codec.inLen 0 100 a.1 && a.1.all (Codec.inInt (-2147483648) 2147483647)) && ((Codec.inLen 0 2200 a.2.1 && a.2.1.all (Codec.inInt (-2147483648) 2147483647)) && ((Codec.inLen 0 2200 a.2.2.1 && a.2.2.1.all (Codec.inInt (-2147483648) 2147483647)) && true))) = true := hwi
                rw [Bool.and_eq_true, Bool.and_eq_true, Bool.and_eq_true, Bool.and_eq_true, Bool.and_eq_true, Bool.and_eq_true] at q
                have ev := Peg.left_even (m := a.1) (a := a.2.1) (b := a.2.2.1) hask
                have b1 := (Codec.inNat_iff.mp q.1.1).2
                have b2 := (Codec.inNat_iff.mp q.2.1.1).2
                have b3 := (Codec.inNat_iff.mp q.2.2.1.1).2
                exact ⟨_, a.1, _, a.2.1, _, a.2.2.1, rfl, sm.seq hs1, sm.seq hs2, sm.seq hs3, ev.1, Nat.le_trans b1 (by decide), ev.2.1, b2, ev.2.2, b3, .inl hP, fun H' p hp => .lst (L2.SqL.of hp) (L2.dw_ints _)⟩
#print axioms PySem.Challenge.cw_peglines_s06_left_holds

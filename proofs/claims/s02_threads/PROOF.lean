import PyProof.Rows.All
import Wide.All
import OpenK.AllK
import Wide.FinOn
import PyProof.EqAt
import PyProof.EqKinds
import PyProof.TupleCall
import KE.BitLaws
import Open.SpecLaws
import KE.OsHead
import KE.OsGo
import KE.KSortTupG
import KE.KSortKeyAny
import KE.KLam
import KE.KDictSum
import Ks322Spec
import Ks323Spec
import Ks323Neutral
import PySem.Challenge.RW_letterthreadsdesk_s02_threads
set_option Elab.async false
set_option linter.all false
set_option maxRecDepth 100000
/-! THE HAND LAYER, for ints, bools, texts, own classes, lists, tuples, dicts, comprehensions, walks over dicts, enumerate, zip, reversed, texts, calls, loops. Paste it whole ahead of your own text; what your proof does not reach may be deleted. -/
namespace L2
open PySem PySem.Spec PyProof.Rows

/-- a key: an int or a str -/
abbrev Key := Sum Int Str
def keyIs : Key → Value → Bool
  | .inl k, v => Value.isInt k v
  | .inr x, v => Value.isStrOf x v
def keyH (w : World) : Key → Int
  | .inl k => hashInt k
  | .inr x => hashStr w x
theorem keyIs_shape : ∀ {k : Key} {v : Value}, keyIs k v = true → (∃ i t, k = Sum.inl i ∧ v = Value.int i t) ∨ (∃ x t, k = Sum.inr x ∧ v = Value.str x t)
  | .inl i, v, h => by
    obtain ⟨t, e⟩ := Value.isInt_shape (k := i) (v := v) h
    exact .inl ⟨i, t, rfl, e⟩
  | .inr x, v, h => by
    obtain ⟨t, e⟩ := Value.isStrOf_shape (x := x) (v := v) h
    exact .inr ⟨x, t, rfl, e⟩
theorem keyIs_int (i : Int) (t : Tok) : keyIs (.inl i) (.int i t) = true := by simp [keyIs, Value.isInt]
theorem keyIs_str (x : Str) (t : Tok) : keyIs (.inr x) (.str x t) = true := by simp [keyIs, Value.isStrOf]
theorem key_ll (a b : Int) : decide ((Sum.inl a : Key) = Sum.inl b) = (a == b) := by
  by_cases e : a = b
  · subst e; simp
  · have h : ¬ (Sum.inl a : Key) = Sum.inl b := fun q => e (Sum.inl.inj q)
    rw [decide_eq_false h]
    exact (beq_eq_false_iff_ne.mpr e).symm
theorem key_rr (a b : Str) : decide ((Sum.inr a : Key) = Sum.inr b) = decide (a = b) := by
  by_cases e : a = b
  · subst e; simp
  · have h : ¬ (Sum.inr a : Key) = Sum.inr b := fun q => e (Sum.inr.inj q)
    rw [decide_eq_false h, decide_eq_false e]
theorem key_lr (a : Int) (b : Str) : decide ((Sum.inl a : Key) = Sum.inr b) = false := decide_eq_false (fun q => nomatch q)
theorem key_rl (a : Str) (b : Int) : decide ((Sum.inr a : Key) = Sum.inl b) = false := decide_eq_false (fun q => nomatch q)

def mixKind (prog : Program) (w : World) : PySem.KeyKind prog w Key where
  is := keyIs
  hash := keyH w
  inj := fun v a b ha hb => by
    rcases keyIs_shape ha with ⟨i, t, rfl, rfl⟩ | ⟨x, t, rfl, rfl⟩
    · rcases keyIs_shape hb with ⟨j, u, rfl, e⟩ | ⟨y, u, rfl, e⟩
      · injection e with e1 _; rw [e1]
      · exact nomatch e
    · rcases keyIs_shape hb with ⟨j, u, rfl, e⟩ | ⟨y, u, rfl, e⟩
      · exact nomatch e
      · injection e with e1 _; rw [e1]
  byValue := fun k v h => by
    rcases keyIs_shape h with ⟨i, t, rfl, rfl⟩ | ⟨x, t, rfl, rfl⟩ <;> rfl
  pyHash := fun hv h => by
    rcases keyIs_shape hv with ⟨i, t, rfl, rfl⟩ | ⟨x, t, rfl, rfl⟩
    · exact wpAny_pyHash_int h
    · exact wpAny_pyHash_str h
  eqBool := fun hu hv h => by
    rcases keyIs_shape hu with ⟨i, t, rfl, rfl⟩ | ⟨x, t, rfl, rfl⟩
    · rcases keyIs_shape hv with ⟨j, u, rfl, rfl⟩ | ⟨y, u, rfl, rfl⟩
      · rw [key_ll] at h; exact wpAny_eqBool_int h
      · rw [key_lr] at h; exact SeqAt.EqAt.int_str i t y u _ _ _ _ h
    · rcases keyIs_shape hv with ⟨j, u, rfl, rfl⟩ | ⟨y, u, rfl, rfl⟩
      · rw [key_rl] at h; exact SeqAt.EqAt.str_int x t j u _ _ _ _ h
      · rw [key_rr] at h; exact wpAny_eqBool_str h
  «strs» := fun k x t v h => by
    rcases keyIs_shape h with ⟨i, u, rfl, e⟩ | ⟨y, u, rfl, e⟩
    · exact nomatch e
    · injection e with e1 _
      subst e1
      cases v <;> rfl

theorem mixKind_int (prog : Program) (w : World) (i : Int) (t : Tok) : (mixKind prog w).is (.inl i) (.int i t) = true := keyIs_int i t
theorem mixKind_str (prog : Program) (w : World) (x : Str) (t : Tok) : (mixKind prog w).is (.inr x) (.str x t) = true := keyIs_str x t
end L2

namespace L2
open PySem PySem.Spec PyProof.Rows

/-- a value, without the heap -/
inductive V where
  | non | bl (b : Bool) | int (i : Int) | str (x : Str) | byt (b : Array UInt8) | flt (b : UInt64) | ref (a : Addr) | ty (n : String)
  deriving DecidableEq

def RelV : V → Value → Prop
  | .non, u => u = Value.none
  | .bl b, u => u = Value.bool b
  | .int i, u => ∃ t, u = Value.int i t
  | .str x, u => ∃ t, u = Value.str x t
  | .byt b, u => ∃ t, u = Value.bytes b t
  | .flt b, u => ∃ t, u = Value.float b t
  | .ref a, u => u = Value.ref a
  | .ty n, u => u = Value.type n

abbrev Vals : List V → List Value → Prop := Paired RelV
theorem Vals.length {xs : List V} {us : List Value} (r : Vals xs us) : xs.length = us.length := Paired.length r
theorem Vals.get : ∀ {xs : List V} {us : List Value} {i : Nat} {x : V}, Vals xs us → xs[i]? = some x → ∃ u, us[i]? = some u ∧ RelV x u
  | _, _, _, _, .nil, e => by simp at e
  | _, _, 0, _, .cons r _, e => by simp at e; subst e; exact ⟨_, rfl, r⟩
  | _, _, i + 1, x, .cons _ t, e => by
    obtain ⟨u, h1, h2⟩ := Vals.get (i := i) (x := x) t (by simpa using e)
    exact ⟨u, by simpa using h1, h2⟩
theorem Vals.append : ∀ {xs ys : List V} {us ws : List Value}, Vals xs us → Vals ys ws → Vals (xs ++ ys) (us ++ ws)
  | _, _, _, _, .nil, s => s
  | _, _, _, _, .cons r t, s => .cons r (Vals.append t s)
theorem Vals.take : ∀ {xs : List V} {us : List Value} (n : Nat), Vals xs us → Vals (xs.take n) (us.take n)
  | _, _, 0, _ => .nil
  | _, _, _ + 1, .nil => .nil
  | _, _, n + 1, .cons r t => .cons r (Vals.take n t)
theorem Vals.drop : ∀ {xs : List V} {us : List Value} (n : Nat), Vals xs us → Vals (xs.drop n) (us.drop n)
  | _, _, 0, r => r
  | _, _, _ + 1, .nil => .nil
  | _, _, n + 1, .cons _ t => Vals.drop n t

def RelO : Option V → Option Value → Prop
  | some v, some u => RelV v u
  | none, none => True
  | _, _ => False
def KV {κ : Type} : List (κ × V) → List (κ × Value) → Prop := Paired fun (p : κ × V) (q : κ × Value) => p.1 = q.1 ∧ RelV p.2 q.2

/-- a key of a dict (00_mix): an int or a text -/
def kV : Key → V
  | .inl i => .int i
  | .inr x => .str x

/-- what stands at a tracked address -/
inductive HO where
  /-- a list -/
  | lst (xs : List V)
  /-- a tuple (never changes) -/
  | tup (xs : List V)
  /-- a dict whose keys are ints and texts; one whose keys are tuples of ints and texts (the empty one is both) -/
  | dK (kvs : List (Key × V)) | dT (kvs : List (List Key × V))
  /-- a set of ints: its members, its size -/
  | set (S : Int → Bool) (n : Nat)
  /-- an instance of the class at C, its dict at dx, its attributes -/
  | ins (C dx : Addr) (fs : List (Str × V))
  /-- the dict of the instance at x -/
  | own (x : Addr)
  /-- the dict of an exception -/
  | xd (fs : List (Str × V))
  /-- a bound method, f of x -/
  | met (f x : Addr)
  /-- a range object lo, lo + 1, .. below hi -/
  | rng (lo hi : Int)
  /-- a thing that is known to the object (the script; a dict while a loop walks it): read, never written while it is so -/
  | frz (o : Obj) (u : HO)
  /-- a code object's table -/
  | tbl (ps : Array Value)
  /-- any other thing, by what is true of its one object (a def of one's own: SetO a S n := HO.ext fun h => ..) -/
  | ext (φ : Heap → Prop)

abbrev Hp := Addr → Option HO
def upd (H : Hp) (a : Addr) (o : HO) : Hp := fun b => if b = a then some o else H b
theorem upd_same {H : Hp} {a : Addr} {o : HO} : upd H a o a = some o := by unfold upd; rw [if_pos rfl]
theorem upd_ne {H : Hp} {a b : Addr} {o : HO} (h : b ≠ a) : upd H a o b = H b := by unfold upd; rw [if_neg h]
/-- two objects of different content stand apart -/
theorem ne_of {H : Hp} {a b : Addr} {o u : HO} (h : H a = some o) (h' : H b = some u) (d : o ≠ u) : a ≠ b := by
  intro e; subst e; rw [h] at h'; exact d (Option.some.inj h')
theorem ne_of_none {H : Hp} {a b : Addr} {o : HO} (h : H a = some o) (h' : H b = none) : a ≠ b := by
  intro e; subst e; rw [h] at h'; cases h'

section
variable (P : Program) (w : World)
def ObjOk (H : Hp) (h : Heap) (a : Addr) : HO → Prop
  | .lst xs => xs.length ≤ sizeLine ∧ ∃ (its : List Value) (n : Nat), Vals xs its ∧ h.get? a = some { cls := .type "list", data := .seq its.toArray n }
  | .tup xs => xs.length ≤ sizeLine ∧ ∃ its : List Value, Vals xs its ∧ IsTup h a its.toArray
  | .dK kvs => kvs.length ≤ sizeLine ∧ (a == sysModules) = false ∧ ∃ vs, KV kvs vs ∧ h.DictOf (mixKind P w) a vs
  | .dT kvs => kvs.length ≤ sizeLine ∧ (a == sysModules) = false ∧ ∃ xs : List (List Key × Addr × Value),
      Paired (fun (p : List Key × V) (q : List Key × Addr × Value) => p.1 = q.1 ∧ H q.2.1 = some (.tup (p.1.map kV)) ∧ RelV p.2 q.2.2) kvs xs ∧
      ∃ o es ep, h.get? a = some o ∧ o.ExactDict ∧ o.data = .dict es ep ∧ es.toList = xs.map (entryOfKey (tupleKind (mixKind P w))) ∧ (xs.map (·.1)).Nodup
  | .set S n => h.SetOf (intKind P w) a S n
  | .ins C dx fs => H dx = some (.own a) ∧ fs.length ≤ 1000 ∧ dx ≠ a ∧ h.get? a = some (PySem.W.instObj C dx) ∧
      ∃ mA, h.Ns1 dx mA ∧ (∀ f, RelO (fs.lookup f) (mA f)) ∧ PySem.Within mA (fs.map (·.1))
  | .own _ => ∃ o, h.get? a = some o
  | .xd fs => ∃ mA, h.Ns1 a mA ∧ ∀ f, RelO (fs.lookup f) (mA f)
  | .rng lo hi => ∃ t u v, h.get? a = some { cls := .type "range", data := .fields #[.int lo t, .int hi u, .int 1 v] }
  | .frz o u => h.get? a = some o ∧ ObjOk H h a u
  | .tbl ps => h.get? a = some { cls := .none, data := .fields ps }
  | .met f x => h.get? a = some (PySem.W.methodObj (.ref f) (.ref x))
  | .ext φ => φ h ∧ (∃ o, h.get? a = some o) ∧ ∀ h1 h2 : Heap, φ h1 → (∀ o, h1.get? a = some o → h2.get? a = some o) → φ h2
/-- the abstract heap is held -/
def HOk (H : Hp) (h : Heap) : Prop := ∀ a o, H a = some o → ObjOk P w H h a o
end

section
variable {P : Program} {w : World} {H H' : Hp} {h h' : Heap} {a : Addr} {o : HO}
theorem ObjOk.lt (x : ObjOk P w H h a o) : a < h.objs.size := by
  cases o with
  | lst xs => obtain ⟨_, _, _, _, e⟩ := x; exact Heap.lt_size e
  | tup xs => obtain ⟨_, _, _, p⟩ := x; exact p.lt
  | dK kvs => obtain ⟨_, _, _, _, o, _, _, e, _⟩ := x; exact Heap.lt_size e
  | dT kvs => obtain ⟨_, _, _, _, o, _, _, e, _⟩ := x; exact Heap.lt_size e
  | set S n => obtain ⟨o, _, _, _, e, _⟩ := x; exact Heap.lt_size e
  | ins C dx fs => obtain ⟨_, _, _, e, _⟩ := x; exact Heap.lt_size e
  | own y => obtain ⟨_, e⟩ := x; exact Heap.lt_size e
  | xd fs => obtain ⟨_, ⟨_, _, _, e, _⟩, _⟩ := x; exact Heap.lt_size e
  | rng lo hi => obtain ⟨_, _, _, e⟩ := x; exact Heap.lt_size e
  | frz ob u => obtain ⟨e, _⟩ := x; exact Heap.lt_size e
  | tbl ps => exact Heap.lt_size (show h.get? a = some _ from x)
  | met f y => exact Heap.lt_size (show h.get? a = some _ from x)
  | ext φ => obtain ⟨_, ⟨_, e⟩, _⟩ := x; exact Heap.lt_size e
theorem Paired.mapP {α β : Type} {F G : α → β → Prop} : ∀ {l₁ : List α} {l₂ : List β}, Paired F l₁ l₂ → (∀ a b, F a b → G a b) → Paired G l₁ l₂
  | _, _, .nil, _ => .nil
  | _, _, .cons r t, f => .cons (f _ _ r) (Paired.mapP t f)
/-- what an object's description leans on: its own object, its own dict, the tuples -/
theorem ObjOk.stay (x : ObjOk P w H h a o) (k : ∀ b u, (b = a ∨ H b = some (.own a)) → h.get? b = some u → h'.get? b = some u)
    (ho : ∀ b, H b = some (.own a) → H' b = some (.own a)) (ht : ∀ b xs, H b = some (.tup xs) → H' b = some (.tup xs)) : ObjOk P w H' h' a o := by
  induction o with
  | lst xs => obtain ⟨z, its, n, r, e⟩ := x; exact ⟨z, its, n, r, k _ _ (.inl rfl) e⟩
  | tup xs => obtain ⟨z, its, r, ob, e, c⟩ := x; exact ⟨z, its, r, ob, k _ _ (.inl rfl) e, c⟩
  | dK kvs => obtain ⟨z, y, vs, r, ob, es, ep, e, c⟩ := x; exact ⟨z, y, vs, r, ob, es, ep, k _ _ (.inl rfl) e, c⟩
  | dT kvs =>
    obtain ⟨z, y, xs, r, ob, es, ep, e, c⟩ := x
    exact ⟨z, y, xs, Paired.mapP r fun p q z => ⟨z.1, ht _ _ z.2.1, z.2.2⟩, ob, es, ep, k _ _ (.inl rfl) e, c⟩
  | set S n => obtain ⟨ob, es, ep, t, e, c⟩ := x; exact ⟨ob, es, ep, t, k _ _ (.inl rfl) e, c⟩
  | ins C dx fs =>
    obtain ⟨d, z, ne, e, mA, ⟨od, es, ep, e2, c⟩, r⟩ := x
    exact ⟨ho _ d, z, ne, k _ _ (.inl rfl) e, mA, ⟨od, es, ep, k _ _ (.inr d) e2, c⟩, r⟩
  | own y => obtain ⟨ob, e⟩ := x; exact ⟨ob, k _ _ (.inl rfl) e⟩
  | xd fs => obtain ⟨mA, ⟨od, es, ep, e, c⟩, r⟩ := x; exact ⟨mA, ⟨od, es, ep, k _ _ (.inl rfl) e, c⟩, r⟩
  | rng lo hi => obtain ⟨t, u, v, e⟩ := x; exact ⟨t, u, v, k _ _ (.inl rfl) e⟩
  | frz ob u ih => obtain ⟨e, q⟩ := x; exact ⟨k _ _ (.inl rfl) e, ih q⟩
  | tbl ps =>
    have e : h.get? a = some { cls := .none, data := .fields ps } := x
    show h'.get? a = some { cls := .none, data := .fields ps }
    exact k a _ (.inl rfl) e
  | met f y =>
    have e : h.get? a = some (PySem.W.methodObj (.ref f) (.ref y)) := x
    show h'.get? a = some (PySem.W.methodObj (.ref f) (.ref y))
    exact k a _ (.inl rfl) e
  | ext φ => obtain ⟨p, ⟨o, e⟩, st⟩ := x; exact ⟨st _ _ p fun o q => k _ _ (.inl rfl) q, ⟨o, k _ _ (.inl rfl) e⟩, st⟩
theorem HOk.lt (x : HOk P w H h) (e : H a = some o) : a < h.objs.size := (x a o e).lt
theorem HOk.fresh (x : HOk P w H h) (e : h.objs.size ≤ a) : H a = none := by
  cases q : H a with
  | none => rfl
  | some u => exact absurd (Nat.lt_of_lt_of_le (x.lt q) e) (Nat.lt_irrefl _)
/-- every object of the heap is kept -/
theorem HOk.kept (x : HOk P w H h) (k : ∀ b u, h.get? b = some u → h'.get? b = some u) : HOk P w H h' := fun a o e =>
  (x a o e).stay (fun b u _ q => k b u q) (fun _ q => q) fun _ _ q => q
/-- a new object is laid and tracked -/
theorem HOk.laid (x : HOk P w H h) (k : ∀ b u, h.get? b = some u → h'.get? b = some u) (hp : h.objs.size ≤ a) (new : ObjOk P w (upd H a o) h' a o) : HOk P w (upd H a o) h' := fun b u e => by
  have hn := x.fresh hp
  by_cases hb : b = a
  · subst hb; rw [upd_same] at e; cases e; exact new
  · rw [upd_ne hb] at e
    exact (x b u e).stay (fun c v _ q => k c v q) (fun c q => by rw [upd_ne (ne_of_none q hn)]; exact q) fun c xs q => by rw [upd_ne (ne_of_none q hn)]; exact q
end

/-- what may be read as u: it is u, or a known u -/
def Rd (H : Hp) (a : Addr) (u : HO) : Prop := H a = some u ∨ ∃ o, H a = some (.frz o u)
theorem Rd.ok {P : Program} {w : World} {H : Hp} {h : Heap} {a : Addr} {u : HO} (r : Rd H a u) (x : HOk P w H h) : ObjOk P w H h a u := by
  rcases r with r | ⟨o, r⟩
  · exact x a u r
  · obtain ⟨_, q⟩ := x a _ r
    exact q
/-- what may be written -/
def Mut : Option HO → Prop
  | some (.lst _) => True
  | some (.dK _) => True
  | some (.dT _) => True
  | some (.set _ _) => True
  | some (.ins _ _ _) => True
  | some (.ext _) => True
  | _ => False
section
variable {P : Program} {w : World} {H : Hp} {h h' : Heap} {x e : Addr} {o' : HO}
/-- the object at e is changed: x itself, or the dict of the instance x -/
theorem HOk.write (ok : HOk P w H h) (mu : Mut (H x)) (he : e = x ∨ H e = some (.own x)) (k : ∀ b u, b ≠ e → h.get? b = some u → h'.get? b = some u) (heo : ∃ u, h'.get? e = some u)
    (new : ObjOk P w (upd H x o') h' x o') : HOk P w (upd H x o') h' := fun b u q => by
  have nown : ∀ c y, H c = some (.own y) → c ≠ x := fun c y r z => by subst z; rw [r] at mu; exact mu
  have ntup : ∀ c xs, H c = some (.tup xs) → c ≠ x := fun c xs r z => by subst z; rw [r] at mu; exact mu
  by_cases hb : b = x
  · subst hb; rw [upd_same] at q; cases q; exact new
  · rw [upd_ne hb] at q
    by_cases hbe : b = e
    · have q' : H b = some (.own x) := by
        rcases he with z | z
        · exact absurd (hbe.trans z) hb
        · rw [hbe]; exact z
      rw [q] at q'; cases q'
      obtain ⟨v, hv⟩ := heo
      exact ⟨v, by rw [hbe]; exact hv⟩
    · refine (ok b u q).stay (fun c v hc r => k c v ?_ r) (fun c r => by rw [upd_ne (nown c b r)]; exact r) fun c xs r => by rw [upd_ne (ntup c xs r)]; exact r
      rcases hc with rfl | hc
      · exact hbe
      · rintro rfl
        rcases he with z | z
        · exact nown c b hc z
        · rw [hc] at z; cases z; exact hb rfl
end

/-! ### kept unless tracked; of the frames at fs (the callers') the slots may change (an exception that passes writes there); of the records at ex (iterators) nothing is said -/
structure Un (fs ex : List Addr) (H H' : Hp) (h h' : Heap) : Prop where
  keep : ∀ b o, h.get? b = some o → H b = none → b ∉ fs → b ∉ ex → h'.get? b = some o
  slot : ∀ b o, h.get? b = some o → H b = none → b ∈ fs → b ∉ ex → ∃ sl, h'.get? b = some { o with slots := sl }
  free : ∀ b o, h.get? b = some o → H b = none → b ∉ ex → H' b = none
  there : ∀ b o, h.get? b = some o → b ∉ ex → ∃ o', h'.get? b = some o'
  tups : ∀ b xs, H b = some (.tup xs) → H' b = some (.tup xs)
  frzs : ∀ b o u, H b = some (.frz o u) → H' b = some (.frz o u)
  tbls : ∀ b ps, H b = some (.tbl ps) → ∃ more, H' b = some (.tbl (ps ++ more))
section
variable {fs fs' ex ex' : List Addr} {H H1 H2 : Hp} {h h1 h2 h' : Heap} {a x e : Addr} {o : HO}
theorem Un.any (u : Un fs ex H H1 h h1) {b : Addr} {ob : Obj} (q : h.get? b = some ob) (n : H b = none) (hx : b ∉ ex) : ∃ sl, h1.get? b = some { ob with slots := sl } := by
  by_cases hb : b ∈ fs
  · exact u.slot b ob q n hb hx
  · exact ⟨ob.slots, u.keep b ob q n hb hx⟩
theorem Un.kept (k : ∀ b u, h.get? b = some u → h'.get? b = some u) : Un fs ex H H h h' :=
  ⟨fun b ob q _ _ _ => k b ob q, fun b ob q _ _ _ => ⟨ob.slots, k b ob q⟩, fun _ _ _ n _ => n, fun b ob q _ => ⟨ob, k b ob q⟩, fun _ _ q => q, fun _ _ _ q => q, fun _ ps q => ⟨#[], by rw [q]; simp⟩⟩
theorem Un.refl : Un fs ex H H h h := Un.kept fun _ _ q => q
theorem Un.laid (k : ∀ b u, h.get? b = some u → h'.get? b = some u) (hp : h.objs.size ≤ a) (hn : H a = none) : Un fs ex H (upd H a o) h h' where
  keep := fun b u q _ _ _ => k b u q
  slot := fun b u q _ _ _ => ⟨u.slots, k b u q⟩
  free := fun b u q n _ => by rw [upd_ne (Nat.ne_of_lt (Nat.lt_of_lt_of_le (Heap.lt_size q) hp))]; exact n
  there := fun b u q _ => ⟨u, k b u q⟩
  tups := fun b xs q => by rw [upd_ne (ne_of_none q hn)]; exact q
  frzs := fun b u xs q => by rw [upd_ne (ne_of_none q hn)]; exact q
  tbls := fun b ps q => ⟨#[], by rw [upd_ne (ne_of_none q hn), q]; simp⟩
theorem Un.write (mu : Mut (H x)) (he : e = x ∨ H e = some (.own x)) (k : ∀ b u, b ≠ e → h.get? b = some u → h'.get? b = some u) (heo : ∃ u, h'.get? e = some u) : Un fs ex H (upd H x o) h h' := by
  have hx : ∀ b, H b = none → b ≠ x := fun b n z => by subst z; rw [n] at mu; exact mu
  have hb : ∀ b, H b = none → b ≠ e := fun b n z => by
    subst z
    rcases he with r | r
    · exact hx b n r
    · rw [n] at r; cases r
  have hm : ∀ b u, H b = some u → ¬ Mut (some u) → b ≠ x := fun b u q nm z => by subst z; rw [q] at mu; exact nm mu
  refine ⟨fun b u q n _ _ => k b u (hb b n) q, fun b u q n _ _ => ⟨u.slots, k b u (hb b n) q⟩, fun b u q n _ => by rw [upd_ne (hx b n)]; exact n, fun b u q _ => ?_,
    fun b xs q => by rw [upd_ne (hm b _ q fun z => z)]; exact q, fun b u xs q => by rw [upd_ne (hm b _ q fun z => z)]; exact q, fun b ps q => ⟨#[], by rw [upd_ne (hm b _ q fun z => z), q]; simp⟩⟩
  by_cases hbe : b = e
  · subst hbe; exact heo
  · exact ⟨u, k b u hbe q⟩
end

/-! ### the heap without what is tracked -/
def trk (h : Heap) (H : Hp) : List Addr := (List.range h.objs.size).filter fun a => (H a).isSome
def hidT (h : Heap) (H : Hp) : Heap := PySem.W.hideAll h (trk h H)
theorem hidT_size (h : Heap) (H : Hp) : (hidT h H).objs.size = h.objs.size := PySem.W.hideAll_size _ _
theorem hidT_get {h : Heap} {H : Hp} {b : Addr} {o : Obj} (e : h.get? b = some o) (n : H b = none) : (hidT h H).get? b = some o :=
  PySem.W.hideAll_get _ e fun hm => by
    have q : (H b).isSome = true := (List.mem_filter.mp hm).2
    rw [n] at q; simp at q
theorem of_hidT {h : Heap} {H : Hp} {b : Addr} {o : Obj} (e : (hidT h H).get? b = some o) : h.get? b = some o ∧ H b = none := by
  have e' : h.get? b = some o := PySem.W.of_hideAll (trk h H) e
  refine ⟨e', ?_⟩
  cases q : H b with
  | none => rfl
  | some x =>
    have hm : b ∈ trk h H := List.mem_filter.mpr ⟨List.mem_range.mpr (Heap.lt_size e'), by simp [q]⟩
    have z : (hidT h H).get? b = none := PySem.W.hideAll_none (trk h H) hm
    rw [z] at e; cases e

/-! ### OpenK's ledger, filled with every new object but one -/
end L2

namespace L2
open PySem PySem.Spec PyProof.Rows

/-- the module's facts, over the base: the heap at the law's entry without what is tracked there -/
structure Mod (K : PySem.W.Frag) (mg : Str → Option Value) (base : Heap) : Prop where
  kin : K.In base
  glob : base.Ns mainGlobals mg
  blt : ∃ mb, base.Ns builtinsNs mb ∧ ∀ x : Str, x ≠ "__name__" → mb x = bootBuiltins x
  nolimit : base.NoLimit

/-- the context: a def's body (or a comprehension's block) running. base: fixed through the whole law; s₀, H₀: the entry; outer: the frames whose slots others may change (a def's callers); stack: all frames that run;
   ex: iterators that were made ahead of the entry and are walked here (a comprehension's); fn: the names whose cells were made at the entry (a def: all; a comprehension's block: its own); calm: not within an except suite; pn: pins that every state bears; xe: what is wanted of an exception that leaves the code -/
structure Cx where
  prog : Program
  w : World
  K : PySem.W.Frag
  mg : Str → Option Value
  base : Heap
  A : Around
  N : List Str
  s_0 : Shared
  H_0 : Hp
  env : Env
  outer : List Env
  stack : List Env
  ex : List Addr
  fn : Str → Bool
  calm : Bool
  pn : List (Addr × Obj)
  xe : Value → Shared → Prop
/-- the callers' frames -/
def frs (l : List Env) : List Addr := l.filterMap (·.frame)
abbrev Cx.fs (X : Cx) : List Addr := frs X.outer

def Vis (sc : Scope) (x : Str) : Prop := sc.names.lookup x = some .local ∨ sc.names.lookup x = some .cell ∨ sc.names.lookup x = some .free
def Loc (sc : Scope) (x : Str) : Prop := sc.names.lookup x = some .local ∨ sc.names.lookup x = some .cell
def Look (env : Env) (h : Heap) (m : Str → Option Value) (x : Str) (u : Value) : Prop :=
  (env.kindOf x = some .local ∧ m x = some u) ∨ ((env.kindOf x = some .cell ∨ env.kindOf x = some .free) ∧ ∃ c, env.cells.lookup x = some c ∧ h.IsCell c (some u))

structure Cx.Ok (X : Cx) : Prop where
  mod : Mod X.K X.mg X.base
  kind : X.env.scope.kind = .function
  glob : X.env.globals = mainGlobals
  blt : X.env.builtins = builtinsNs
  above : X.s_0.heap.objs.size ≤ X.env.locals
  inj : ∀ x y c, X.env.cells.lookup x = some c → X.env.cells.lookup y = some c → x = y
  has : ∀ x, (X.env.kindOf x = some .cell ∨ X.env.kindOf x = some .free) → ∃ c, X.env.cells.lookup x = some c
  cab : ∀ x c, X.fn x = true → X.env.cells.lookup x = some c → X.s_0.heap.objs.size ≤ c
  hd : X.calm = true → X.A.handled = none
  frames : X.A.frames = some X.stack
  stk : X.stack = X.outer ∨ (X.stack = X.env :: X.outer ∧ X.env.frame = some X.env.locals)
  exf : ∀ b ∈ X.ex, b ≠ X.env.locals ∧ ∀ x c, X.env.cells.lookup x = some c → c ≠ b
  bs : ∀ b o, X.base.get? b = some o → X.s_0.heap.get? b = some o ∧ X.H_0 b = none
  bsz : X.base.objs.size ≤ X.s_0.heap.objs.size
  noex : ∀ b o, X.base.get? b = some o → b ∉ X.ex
  exfs : ∀ b ∈ X.ex, b ∉ X.fs
  funs : X.s_0.heap.FunFrames X.base X.outer
  frf : ∀ b ∈ X.fs, X.H_0 b = none

structure Inv (X : Cx) (pins : List (Addr × Obj)) (σ : List (Option V)) (H : Hp) (s : Shared) : Prop where
  ok : X.Ok
  os : s.os = X.s_0.os
  bare : AllBare s.gens
  base : Un X.fs X.ex X.H_0 H X.s_0.heap s.heap
  loc : ∃ m, s.heap.Ns X.env.locals m ∧ ∀ (i : Nat) (x : Str) (v : V), X.N[i]? = some x → σ[i]? = some (some v) → Vis X.env.scope x → ∃ u, RelV v u ∧ Look X.env s.heap m x u
  cell : ∀ x c, X.env.cells.lookup x = some c → ∃ v, s.heap.IsCell c v
  free : H X.env.locals = none
  freeC : ∀ x c, X.env.cells.lookup x = some c → H c = none
  pin : ∀ p ∈ X.pn ++ pins, s.heap.get? p.1 = some p.2 ∧ H p.1 = none ∧ p.1 ≠ X.env.locals ∧ p.1 ∉ X.fs ∧ ∀ v, p.2.data ≠ .cell v
  hok : HOk X.prog X.w H s.heap
  len : σ.length = X.N.length

section
variable {X : Cx} {pins : List (Addr × Obj)} {σ : List (Option V)} {H H' : Hp} {s : Shared} {h' : Heap}

theorem Cx.Ok.nofr (ok : X.Ok) {b : Addr} {o : Obj} (e : X.base.get? b = some o) : b ∉ X.fs := fun hb => by
  have := (ok.funs.mem hb).1
  rw [e] at this; cases this
theorem Inv.bs (I : Inv X pins σ H s) : ∀ b o, X.base.get? b = some o → s.heap.get? b = some o ∧ H b = none := fun b o e =>
  ⟨I.base.keep b o (I.ok.bs b o e).1 (I.ok.bs b o e).2 (I.ok.nofr e) (I.ok.noex b o e), I.base.free b o (I.ok.bs b o e).1 (I.ok.bs b o e).2 (I.ok.noex b o e)⟩
theorem Inv.bk (I : Inv X pins σ H s) : ∀ b o, X.base.get? b = some o → s.heap.get? b = some o := fun b o e => (I.bs b o e).1
theorem Inv.mod (I : Inv X pins σ H s) : Mod X.K X.mg X.base := I.ok.mod
theorem Inv.kIn (I : Inv X pins σ H s) : X.K.In s.heap := I.ok.mod.kin.keeps I.bk
theorem Inv.nolimit (I : Inv X pins σ H s) : s.heap.NoLimit := I.ok.mod.nolimit.keeps I.bk
theorem Inv.lt (I : Inv X pins σ H s) : X.env.locals < s.heap.objs.size := let ⟨_, hn, _⟩ := I.loc; hn.lt
theorem Inv.sz (I : Inv X pins σ H s) : X.s_0.heap.objs.size ≤ s.heap.objs.size := Nat.le_trans I.ok.above (Nat.le_of_lt I.lt)
theorem Inv.nofs (I : Inv X pins σ H s) {a : Addr} (h : s.heap.objs.size ≤ a) : a ∉ X.fs := fun hb => by
  obtain ⟨_, o, ho, _⟩ := I.ok.funs.mem hb
  exact absurd (Nat.lt_of_lt_of_le (Heap.lt_size ho) (Nat.le_trans I.sz h)) (Nat.lt_irrefl _)
theorem Inv.cne (I : Inv X pins σ H s) : ∀ x c, X.env.cells.lookup x = some c → c ≠ X.env.locals := fun x c e z => by
  obtain ⟨v, o, ho, hd⟩ := I.cell x c e
  obtain ⟨m, ⟨o', es, ep, ho', hd', _⟩, _⟩ := I.loc
  rw [z, ho'] at ho; cases ho; rw [hd'] at hd; cases hd
theorem Inv.funs (I : Inv X pins σ H s) : s.heap.FunFrames X.base X.outer := by
  have all : ∀ (l : List Env), (∀ b ∈ frs l, b ∈ X.fs) → X.s_0.heap.FunFrames X.base l → s.heap.FunFrames X.base l := by
    intro l
    induction l with
    | nil => intro _ _; trivial
    | cons env r ih =>
      intro hs hl
      obtain ⟨hk, ⟨L, o, hf, hn, ho, hd⟩, hr⟩ := hl
      have hL : L ∈ X.fs := hs L (by unfold frs; rw [List.filterMap_cons, hf]; exact List.mem_cons_self)
      obtain ⟨sl, e⟩ := I.base.slot L o ho (I.ok.frf L hL) hL fun z => I.ok.exfs L z hL
      exact ⟨hk, ⟨L, _, hf, hn, e, hd⟩, ih (fun b hb => hs b (by unfold frs; rw [List.filterMap_cons, hf]; exact List.mem_cons_of_mem _ hb)) hr⟩
  exact all X.outer (fun _ hb => hb) I.ok.funs

/-- the frames that run, for a call -/
theorem Inv.stack (I : Inv X pins σ H s) : s.heap.FunFrames X.base X.stack := by
  rcases I.ok.stk with e | ⟨e, hf⟩
  · rw [e]; exact I.funs
  · rw [e]
    obtain ⟨m, hn, _⟩ := I.loc
    refine .cons (by rw [I.ok.kind]; decide) hf hn ?_ I.funs
    exact Heap.get?_none_of_le (Nat.le_trans I.ok.bsz I.ok.above)
theorem Inv.stkSub (I : Inv X pins σ H s) : ∀ b ∈ frs X.stack, b ∈ X.env.locals :: X.fs := fun b hb => by
  rcases I.ok.stk with e | ⟨e, hf⟩
  · rw [e] at hb; exact List.mem_cons_of_mem _ hb
  · rw [e] at hb
    unfold frs at hb
    rw [List.filterMap_cons, hf] at hb
    exact hb
theorem Inv.stkFree (I : Inv X pins σ H s) : ∀ b ∈ frs X.stack, H b = none := fun b hb => by
  rcases List.mem_cons.mp (I.stkSub b hb) with e | hb
  · rw [e]; exact I.free
  · obtain ⟨_, o, ho, _⟩ := I.ok.funs.mem hb
    exact I.base.free b o ho (I.ok.frf b hb) fun z => I.ok.exfs b z hb

/-- THE STEP: the untracked objects but the frame and the records at ch are kept (the callers' frames up to slots), the frame's map is kept, the new abstract heap is held -/
theorem Inv.step {g' : Array GenState} {t' : Nat} {d' : Drawn} {ch : List Addr} (I : Inv X pins σ H s)
    (hch : ∀ b ∈ ch, (b ∈ X.ex ∨ X.s_0.heap.objs.size ≤ b) ∧ b ≠ X.env.locals ∧ (∀ x c, X.env.cells.lookup x = some c → c ≠ b) ∧ ∀ p ∈ X.pn ++ pins, p.1 ≠ b)
    (keep : ∀ b o, b ≠ X.env.locals → b ∉ X.fs → b ∉ ch → s.heap.get? b = some o → H b = none → h'.get? b = some o)
    (slot : ∀ b o, b ≠ X.env.locals → b ∈ X.fs → b ∉ ch → s.heap.get? b = some o → H b = none → ∃ sl, h'.get? b = some { o with slots := sl }) (free : ∀ b o, b ∉ ch → s.heap.get? b = some o → H b = none → H' b = none)
    (there : ∀ b o, b ∉ ch → s.heap.get? b = some o → ∃ o', h'.get? b = some o')
    (tups : ∀ b xs, H b = some (.tup xs) → H' b = some (.tup xs)) (frzs : ∀ b o u, H b = some (.frz o u) → H' b = some (.frz o u)) (tbls : ∀ b ps, H b = some (.tbl ps) → ∃ more, H' b = some (.tbl (ps ++ more)))
    (ns : ∀ m, s.heap.Ns X.env.locals m → h'.Ns X.env.locals m) (hok : HOk X.prog X.w H' h') (hg : AllBare g') :
    Inv X pins σ H' { s with heap := h', gens := g', drawn := d', toks := t' } := by
  have neL : ∀ b o, X.s_0.heap.get? b = some o → b ≠ X.env.locals := fun b o e => Nat.ne_of_lt (Nat.lt_of_lt_of_le (Heap.lt_size e) I.ok.above)
  have neC : ∀ b o, X.s_0.heap.get? b = some o → b ∉ X.ex → b ∉ ch := fun b o e hx hb => by
    rcases (hch b hb).1 with z | z
    · exact hx z
    · exact absurd (Nat.lt_of_lt_of_le (Heap.lt_size e) z) (Nat.lt_irrefl _)
  have cellK : ∀ x c, X.env.cells.lookup x = some c → ∀ v, s.heap.IsCell c v → h'.IsCell c v := fun x c e v ⟨o, ho, hd⟩ => by
    have nch : c ∉ ch := fun z => (hch c z).2.2.1 x c e rfl
    by_cases hc : c ∈ X.fs
    · obtain ⟨sl, q⟩ := slot c o (I.cne x c e) hc nch ho (I.freeC x c e)
      exact ⟨_, q, hd⟩
    · exact ⟨o, keep c o (I.cne x c e) hc nch ho (I.freeC x c e), hd⟩
  refine ⟨I.ok, I.os, hg, ⟨fun b o e n hb hx => ?_, fun b o e n hb hx => ?_, fun b o e n hx => ?_, fun b o e hx => ?_, fun b xs e => tups b xs (I.base.tups b xs e), fun b o xs e => frzs b o xs (I.base.frzs b o xs e), fun b ps e => ?_⟩, ?_, fun x c e => ?_, ?_, fun x c e => ?_, fun p hp => ?_, hok, I.len⟩
  · exact keep b o (neL b o e) hb (neC b o e hx) (I.base.keep b o e n hb hx) (I.base.free b o e n hx)
  · obtain ⟨sl, e1⟩ := I.base.slot b o e n hb hx
    obtain ⟨sl', e2⟩ := slot b _ (neL b o e) hb (neC b o e hx) e1 (I.base.free b o e n hx)
    exact ⟨sl', e2⟩
  · obtain ⟨o', e1⟩ := I.base.there b o e hx
    exact free b o' (neC b o e hx) e1 (I.base.free b o e n hx)
  · obtain ⟨o', e1⟩ := I.base.there b o e hx
    exact there b o' (neC b o e hx) e1
  · obtain ⟨m1, e1⟩ := I.base.tbls b ps e
    obtain ⟨m2, e2⟩ := tbls b _ e1
    exact ⟨m1 ++ m2, by rw [e2, Array.append_assoc]⟩
  · obtain ⟨m, hn, hl⟩ := I.loc
    refine ⟨m, ns m hn, fun i x v e1 e2 e3 => ?_⟩
    obtain ⟨u, r, l⟩ := hl i x v e1 e2 e3
    refine ⟨u, r, ?_⟩
    rcases l with l | ⟨k, c, e, z⟩
    · exact .inl l
    · exact .inr ⟨k, c, e, cellK x c e _ z⟩
  · obtain ⟨v, z⟩ := I.cell x c e
    exact ⟨v, cellK x c e v z⟩
  · obtain ⟨m, ⟨o, _, _, ho, _⟩, _⟩ := I.loc
    exact free _ o (fun z => (hch _ z).2.1 rfl) ho I.free
  · obtain ⟨v, o, ho, hd⟩ := I.cell x c e
    exact free c o (fun z => (hch c z).2.2.1 x c e rfl) ho (I.freeC x c e)
  · obtain ⟨e, n, ne, nf, d⟩ := I.pin p hp
    have nch : p.1 ∉ ch := fun z => (hch p.1 z).2.2.2 p hp rfl
    exact ⟨keep p.1 p.2 ne nf nch e n, free p.1 p.2 nch e n, ne, nf, d⟩
/-- .. where the frame's own object is kept too -/
theorem Inv.un {t' : Nat} (I : Inv X pins σ H s) (u : Un X.fs [] H H' s.heap h') (hok : HOk X.prog X.w H' h') : Inv X pins σ H' { s with heap := h', toks := t' } := by
  obtain ⟨m, ⟨o, es, ep, ho, r⟩, _⟩ := id I.loc
  obtain ⟨sl, hL⟩ := u.any ho I.free (by simp)
  exact I.step (g' := s.gens) (d' := s.drawn) (ch := []) (fun _ z => nomatch z) (fun b o _ hb _ e n => u.keep b o e n hb (by simp)) (fun b o _ hb _ e n => u.slot b o e n hb (by simp)) (fun b o _ e n => u.free b o e n (by simp)) (fun b o _ e => u.there b o e (by simp)) u.tups u.frzs u.tbls (fun m' hm => by
    obtain ⟨o', es', ep', ho', r'⟩ := hm
    rw [ho] at ho'; cases ho'
    exact ⟨_, es', ep', hL, r'⟩) hok I.bare
/-- behind a call (or a comprehension's block): the slots of this frame may have changed too, the records at ch may have turned -/
theorem Inv.call {g' : Array GenState} {t' : Nat} {d' : Drawn} {ch : List Addr} (I : Inv X pins σ H s) (u : Un (frs X.stack) ch H H' s.heap h') (hok : HOk X.prog X.w H' h') (hg : AllBare g')
    (hch : ∀ b ∈ ch, (b ∈ X.ex ∨ X.s_0.heap.objs.size ≤ b) ∧ b ≠ X.env.locals ∧ (∀ x c, X.env.cells.lookup x = some c → c ≠ b) ∧ ∀ p ∈ X.pn ++ pins, p.1 ≠ b) :
    Inv X pins σ H' { s with heap := h', gens := g', drawn := d', toks := t' } := by
  obtain ⟨m, ⟨o, es, ep, ho, r⟩, _⟩ := id I.loc
  obtain ⟨sl, hL⟩ := u.any ho I.free fun z => (hch _ z).2.1 rfl
  exact I.step (ch := ch) hch (fun b o hL hb hc e n => u.keep b o e n (fun z => (List.mem_cons.mp (I.stkSub b z)).elim hL hb) hc) (fun b o _ _ hc e n => u.any e n hc) (fun b o hc e n => u.free b o e n hc) (fun b o hc e => u.there b o e hc) u.tups u.frzs u.tbls (fun m' hm => by
    obtain ⟨o', es', ep', ho', r'⟩ := hm
    rw [ho] at ho'; cases ho'
    exact ⟨_, es', ep', hL, r'⟩) hok hg
/-- an untracked record of ours (an iterator) has turned -/
theorem Inv.turned {t' : Nat} {it : Addr} (I : Inv X pins σ H s) (k : ∀ b o, b ≠ it → s.heap.get? b = some o → h'.get? b = some o) (hn : H it = none) (hL : it ≠ X.env.locals)
    (h1 : it ∈ X.ex ∨ X.s_0.heap.objs.size ≤ it) (h2 : ∀ x c, X.env.cells.lookup x = some c → c ≠ it) (h3 : ∀ p ∈ X.pn ++ pins, p.1 ≠ it) : Inv X pins σ H { s with heap := h', toks := t' } := by
  have nit : ∀ b u, H b = some u → b ≠ it := fun b u e z => by rw [z, hn] at e; cases e
  refine I.step (g' := s.gens) (d' := s.drawn) (ch := [it]) (fun b hb => ?_) (fun b o _ _ hc e _ => k b o (fun z => hc (by simp [z])) e) (fun b o _ _ hc e _ => ⟨o.slots, k b o (fun z => hc (by simp [z])) e⟩) (fun _ _ _ _ n => n)
    (fun b o hc e => ⟨o, k b o (fun z => hc (by simp [z])) e⟩) (fun _ _ e => e) (fun _ _ _ e => e) (fun b ps e => ⟨#[], by rw [e]; simp⟩) (fun m hm => ?_) (fun b u e => ?_) I.bare
  · have e : b = it := by simpa using hb
    subst e
    exact ⟨h1, hL, h2, h3⟩
  · obtain ⟨o, es, ep, ho, r⟩ := hm
    exact ⟨o, es, ep, k _ o (Ne.symm hL) ho, r⟩
  · refine (I.hok b u e).stay (fun c v hc q => k c v ?_ q) (fun _ q => q) fun _ _ q => q
    rcases hc with z | z
    · rw [z]; exact nit b u e
    · exact nit c _ z
theorem Inv.tok (I : Inv X pins σ H s) (t : Nat) : Inv X pins σ H { s with toks := t } := I.un (h' := s.heap) (t' := t) Un.refl I.hok
/-- all objects kept -/
theorem Inv.kept {t' : Nat} (I : Inv X pins σ H s) (k : ∀ b u, s.heap.get? b = some u → h'.get? b = some u) : Inv X pins σ H { s with heap := h', toks := t' } := I.un (Un.kept k) (I.hok.kept k)
/-- a new object laid and tracked -/
theorem Inv.laid {a : Addr} {o : HO} {t' : Nat} (I : Inv X pins σ H s) (k : ∀ b u, s.heap.get? b = some u → h'.get? b = some u) (hp : s.heap.objs.size ≤ a) (new : ObjOk X.prog X.w (upd H a o) h' a o) :
    Inv X pins σ (upd H a o) { s with heap := h', toks := t' } := I.un (Un.laid k hp (I.hok.fresh hp)) (I.hok.laid k hp new)
/-- an object written -/
theorem Inv.write {x e : Addr} {o : HO} {t' : Nat} (I : Inv X pins σ H s) (mu : Mut (H x)) (he : e = x ∨ H e = some (.own x)) (k : ∀ b u, b ≠ e → s.heap.get? b = some u → h'.get? b = some u) (heo : ∃ u, h'.get? e = some u)
    (new : ObjOk X.prog X.w (upd H x o) h' x o) : Inv X pins σ (upd H x o) { s with heap := h', toks := t' } := I.un (Un.write mu he k heo) (I.hok.write mu he k heo new)
/-- forgetting slots, pins -/
theorem Inv.weak {σ' : List (Option V)} (I : Inv X pins σ H s) (hl : σ'.length = σ.length) (w : ∀ (i : Nat) v, σ'[i]? = some (some v) → σ[i]? = some (some v)) : Inv X pins σ' H s :=
  ⟨I.ok, I.os, I.bare, I.base, let ⟨m, hn, hl'⟩ := I.loc; ⟨m, hn, fun i x v e1 e2 e3 => hl' i x v e1 (w i v e2) e3⟩, I.cell, I.free, I.freeC, I.pin, I.hok, hl.trans I.len⟩
theorem Inv.pins_of {pins' : List (Addr × Obj)} (I : Inv X pins σ H s) (h : ∀ p ∈ pins', s.heap.get? p.1 = some p.2 ∧ H p.1 = none ∧ p.1 ≠ X.env.locals ∧ p.1 ∉ X.fs ∧ ∀ v, p.2.data ≠ .cell v) : Inv X pins' σ H s :=
  ⟨I.ok, I.os, I.bare, I.base, I.loc, I.cell, I.free, I.freeC, fun p hp => (List.mem_append.mp hp).elim (fun z => I.pin p (List.mem_append_left _ z)) (h p), I.hok, I.len⟩

theorem nodup_ix {N : List Str} (hN : N.Nodup) {i j : Nat} {x : Str} (a : N[i]? = some x) (b : N[j]? = some x) : i = j := by
  obtain ⟨h1, e1⟩ := List.getElem?_eq_some_iff.mp a
  obtain ⟨h2, e2⟩ := List.getElem?_eq_some_iff.mp b
  exact (List.getElem_inj hN).mp (e1.trans e2.symm)

/-- a name is stored; what changed -/
theorem store_ok2 {M : Model} {A : Around} {E : Value → Shared → Prop} {i : Nat} {x : Str} {v : V} {u : Value} {Q : Unit → Shared → Prop} (I : Inv X pins σ H s) (hN : X.N.Nodup) (hi : X.N[i]? = some x) (hx : Loc X.env.scope x) (r : RelV v u)
    (h : ∀ s', Inv X pins (σ.set i (some v)) H s' → (∃ a, Heap.SameBut a s.heap s'.heap ∧ (a = X.env.locals ∨ X.env.cells.lookup x = some a)) → Q () s') (hf : X.fn x = true ∨ X.env.scope.names.lookup x = some .local := by first | exact .inl rfl | exact .inr rfl | assumption) : wpAny M A (storeName X.env x u) Q E s := by
  obtain ⟨m, hn, hl⟩ := id I.loc
  have hcls : (X.env.scope.kind == .class || (X.env.scope.kind == .module && X.env.locals != X.env.globals)) = false := by rw [I.ok.kind]; rfl
  have hiσ : i < σ.length := by rw [I.len]; exact (List.getElem?_eq_some_iff.mp hi).1
  have cne := I.cne
  have tracked : ∀ {a : Addr} {h' : Heap}, (∃ o, s.heap.get? a = some o ∧ H a = none) → Heap.SameBut a s.heap h' → HOk X.prog X.w H h' := fun {a h'} ha hs b ob e => by
    obtain ⟨_, _, hfree⟩ := ha
    refine (I.hok b ob e).stay (fun c w' hc q => (hs.2 c ?_).trans q) (fun _ q => q) fun _ _ q => q
    rintro rfl
    rcases hc with rfl | hc
    · rw [hfree] at e; cases e
    · rw [hfree] at hc; cases hc
  rcases hx with hk | hk
  · refine wpAny_storeName_local hk hn (fun h' hn' hs => ?_) hcls
    obtain ⟨oL, _, _, hoL, _⟩ := id hn
    refine h _ ⟨I.ok, I.os, I.bare, ⟨fun b o e n hb hx => ?_, fun b o e n hb hx => ?_, I.base.free, fun b o e hx => ?_, I.base.tups, I.base.frzs, I.base.tbls⟩, ⟨_, hn', fun j y v' e1 e2 e3 => ?_⟩, fun y c e => ?_, I.free, I.freeC, fun p hp => ?_, tracked ⟨oL, hoL, I.free⟩ hs, by simpa using I.len⟩ ⟨_, hs, .inl rfl⟩
    · exact (hs.2 b (Nat.ne_of_lt (Nat.lt_of_lt_of_le (Heap.lt_size e) I.ok.above))).trans (I.base.keep b o e n hb hx)
    · obtain ⟨sl, e1⟩ := I.base.slot b o e n hb hx
      exact ⟨sl, (hs.2 b (Nat.ne_of_lt (Nat.lt_of_lt_of_le (Heap.lt_size e) I.ok.above))).trans e1⟩
    · obtain ⟨o', e1⟩ := I.base.there b o e hx
      exact ⟨o', (hs.2 b (Nat.ne_of_lt (Nat.lt_of_lt_of_le (Heap.lt_size e) I.ok.above))).trans e1⟩
    · by_cases hj : j = i
      · subst hj
        rw [hi] at e1; cases e1
        rw [List.getElem?_set_self hiσ] at e2
        cases e2
        exact ⟨u, r, .inl ⟨hk, by simp⟩⟩
      · rw [List.getElem?_set_ne (Ne.symm hj)] at e2
        obtain ⟨u', r', q⟩ := hl j y v' e1 e2 e3
        refine ⟨u', r', ?_⟩
        rcases q with ⟨k, e⟩ | ⟨k, c, e, z⟩
        · refine .inl ⟨k, ?_⟩
          have : y ≠ x := fun e => hj (nodup_ix hN e1 (e ▸ hi))
          simp [this, e]
        · exact .inr ⟨k, c, e, z.sameBut hs (cne y c e)⟩
    · obtain ⟨w', z⟩ := I.cell y c e
      exact ⟨w', z.sameBut hs (cne y c e)⟩
    · obtain ⟨e, n, ne, nf, d⟩ := I.pin p hp
      exact ⟨(hs.2 p.1 ne).trans e, n, ne, nf, d⟩
  · have hfn : X.fn x = true := by
      rcases hf with z | z
      · exact z
      · rw [z] at hk; cases hk
    obtain ⟨c, hc⟩ := I.ok.has x (.inl hk)
    obtain ⟨w', z⟩ := I.cell x c hc
    refine wpAny_storeName_cell I.ok.kind hk hc z (fun h' hc' hs => ?_)
    obtain ⟨oc, hoc, hocd⟩ := id z
    refine h { s with heap := h' } ⟨I.ok, I.os, I.bare, ⟨fun b o e n hb hx => ?_, fun b o e n hb hx => ?_, I.base.free, fun b o e hx => ?_, I.base.tups, I.base.frzs, I.base.tbls⟩, ⟨m, hn.sameBut hs (Ne.symm (cne x c hc)), fun j y v' e1 e2 e3 => ?_⟩, fun y c' e => ?_, I.free, I.freeC, fun p hp => ?_, tracked ⟨oc, hoc, I.freeC x c hc⟩ hs, by simpa using I.len⟩ ⟨c, hs, .inr hc⟩
    · exact (hs.2 b (Nat.ne_of_lt (Nat.lt_of_lt_of_le (Heap.lt_size e) (I.ok.cab x c hfn hc)))).trans (I.base.keep b o e n hb hx)
    · obtain ⟨sl, e1⟩ := I.base.slot b o e n hb hx
      exact ⟨sl, (hs.2 b (Nat.ne_of_lt (Nat.lt_of_lt_of_le (Heap.lt_size e) (I.ok.cab x c hfn hc)))).trans e1⟩
    · obtain ⟨o', e1⟩ := I.base.there b o e hx
      exact ⟨o', (hs.2 b (Nat.ne_of_lt (Nat.lt_of_lt_of_le (Heap.lt_size e) (I.ok.cab x c hfn hc)))).trans e1⟩
    · by_cases hj : j = i
      · subst hj
        rw [hi] at e1; cases e1
        rw [List.getElem?_set_self hiσ] at e2
        cases e2
        exact ⟨u, r, .inr ⟨.inl hk, c, hc, hc'⟩⟩
      · rw [List.getElem?_set_ne (Ne.symm hj)] at e2
        obtain ⟨u', r', q⟩ := hl j y v' e1 e2 e3
        refine ⟨u', r', ?_⟩
        rcases q with q | ⟨k, c', e, z'⟩
        · exact .inl q
        · refine .inr ⟨k, c', e, z'.sameBut hs ?_⟩
          rintro rfl
          exact hj (nodup_ix hN e1 (I.ok.inj _ _ _ e hc ▸ hi))
    · by_cases hcc : c' = c
      · subst hcc; exact ⟨_, hc'⟩
      · obtain ⟨w2, z2⟩ := I.cell y c' e
        exact ⟨w2, z2.sameBut hs hcc⟩
    · obtain ⟨e, n, ne, nf, d⟩ := I.pin p hp
      refine ⟨(hs.2 p.1 ?_).trans e, n, ne, nf, d⟩
      intro q
      rw [q, hoc] at e
      have q' : oc = p.2 := Option.some.inj e
      exact d w' (by rw [← q']; exact hocd)
theorem store_ok {M : Model} {A : Around} {E : Value → Shared → Prop} {i : Nat} {x : Str} {v : V} {u : Value} {Q : Unit → Shared → Prop} (I : Inv X pins σ H s) (hN : X.N.Nodup) (hi : X.N[i]? = some x) (hx : Loc X.env.scope x) (r : RelV v u)
    (h : ∀ s', Inv X pins (σ.set i (some v)) H s' → Q () s') (hf : X.fn x = true ∨ X.env.scope.names.lookup x = some .local := by first | exact .inl rfl | exact .inr rfl | assumption) : wpAny M A (storeName X.env x u) Q E s :=
  store_ok2 I hN hi hx r (fun s' I' _ => h s' I') hf
/-- behind a call or a block, the state as it is -/
theorem Inv.call' {s' : Shared} {ch : List Addr} (I : Inv X pins σ H s) (ho : s'.os = s.os) (u : Un (frs X.stack) ch H H' s.heap s'.heap) (hok : HOk X.prog X.w H' s'.heap) (hg : AllBare s'.gens)
    (hch : ∀ b ∈ ch, (b ∈ X.ex ∨ X.s_0.heap.objs.size ≤ b) ∧ b ≠ X.env.locals ∧ (∀ x c, X.env.cells.lookup x = some c → c ≠ b) ∧ ∀ p ∈ X.pn ++ pins, p.1 ≠ b) : Inv X pins σ H' s' := by
  obtain ⟨h', g', d', t', o'⟩ := s'
  have e : o' = s.os := ho
  subst e
  exact I.call (g' := g') (t' := t') (d' := d') u hok hg hch
end

/-! ### the judgements -/
/-- an exception: its class, its own dict's address (where it has one), the abstract heap behind it -/
abbrev XK := Value → Option Addr → Hp → Prop
abbrev St := List (Option V)
abbrev VK := V → Hp → Prop
/-- an expression's reading; a test's; an argument list's -/
abbrev TE := St → Hp → VK → Prop
abbrev TT := St → Hp → (Bool → Hp → Prop) → Prop
abbrev TA := St → Hp → (List V → Hp → Prop) → Prop
/-- what is wanted behind a statement -/
structure Ends where
  nx : St → Hp → Prop
  rt : VK
  bk : St → Hp → Prop := fun _ _ => False
  ct : St → Hp → Prop := fun _ _ => False
abbrev TS := Ends → St → Hp → Prop

def EP (X : Cx) (pins : List (Addr × Obj)) (σ : St) (Q : VK) (u : Value) (s' : Shared) : Prop := ∃ v H', Inv X pins σ H' s' ∧ RelV v u ∧ Q v H'
def TP (X : Cx) (pins : List (Addr × Obj)) (σ : St) (Q : Bool → Hp → Prop) (b : Bool) (s' : Shared) : Prop := ∃ H', Inv X pins σ H' s' ∧ Q b H'
def AP (X : Cx) (pins : List (Addr × Obj)) (σ : St) (Q : List V → Hp → Prop) (us : List Value) (s' : Shared) : Prop := ∃ vs H', Inv X pins σ H' s' ∧ Vals vs us ∧ Q vs H'
def SP (X : Cx) (pins : List (Addr × Obj)) (D : Ends) (f : Flow) (s' : Shared) : Prop :=
  match f with
  | .next => ∃ σ' H', Inv X pins σ' H' s' ∧ D.nx σ' H'
  | .brk => ∃ σ' H', Inv X pins σ' H' s' ∧ D.bk σ' H'
  | .cont => ∃ σ' H', Inv X pins σ' H' s' ∧ D.ct σ' H'
  | .ret u => ∃ v σ' H', Inv X pins σ' H' s' ∧ RelV v u ∧ D.rt v H'

def PE (X : Cx) (e : Expr) (t : TE) : Prop :=
  ∀ (pins : List (Addr × Obj)) (s : Shared) (σ : St) (H : Hp) (Q : VK), Inv X pins σ H s → t σ H Q → wpAny (model X.prog X.w) X.A (eval e X.env) (EP X pins σ Q) X.xe s
def PT (X : Cx) (e : Expr) (t : TT) : Prop :=
  ∀ (pins : List (Addr × Obj)) (s : Shared) (σ : St) (H : Hp) (Q : Bool → Hp → Prop), Inv X pins σ H s → t σ H Q → wpAny (model X.prog X.w) X.A (isTrue e X.env (eval e X.env)) (TP X pins σ Q) X.xe s
/-- a test whatever its 'whole' is (and, or) -/
def PW (X : Cx) (e : Expr) (t : TT) : Prop :=
  ∀ (whole : Sem Value) (pins : List (Addr × Obj)) (s : Shared) (σ : St) (H : Hp) (Q : Bool → Hp → Prop), Inv X pins σ H s → t σ H Q → wpAny (model X.prog X.w) X.A (isTrue e X.env whole) (TP X pins σ Q) X.xe s
theorem PW.pt {X : Cx} {e : Expr} {t : TT} (h : PW X e t) : PT X e t := h _
/-- an argument list (no star), from the left -/
def PA (X : Cx) (es : List Expr) (t : TA) : Prop :=
  ∀ (pos : Pos) (pins : List (Addr × Obj)) (s : Shared) (σ : St) (H : Hp) (Q : List V → Hp → Prop), Inv X pins σ H s → t σ H Q → wpAny (model X.prog X.w) X.A (spliced (backTo pos (starEach es X.env))) (AP X pins σ Q) X.xe s
def PS (X : Cx) (st : Stmt) (t : TS) : Prop :=
  ∀ (pins : List (Addr × Obj)) (s : Shared) (σ : St) (H : Hp) (D : Ends), Inv X pins σ H s → t D σ H → wpAny (model X.prog X.w) X.A (exec st X.env) (SP X pins D) X.xe s
def PSs (X : Cx) (st : List Stmt) (t : TS) : Prop :=
  ∀ (pins : List (Addr × Obj)) (s : Shared) (σ : St) (H : Hp) (D : Ends), Inv X pins σ H s → t D σ H → wpAny (model X.prog X.w) X.A (execs st X.env) (SP X pins D) X.xe s
/-- weaken the end -/
theorem thn {α : Type} {t : Sem α} {Q Q' : α → Shared → Prop} {M : Model} {A : Around} {E : Value → Shared → Prop} {s : Shared} (h : wpAny M A t Q E s) (hQ : ∀ a s, Q a s → Q' a s) : wpAny M A t Q' E s := wpAny_mono h hQ fun _ _ x => x
end L2

namespace L2
open PySem PySem.Spec PyProof.Rows
section
variable {X : Cx}


/-! ### names and constants -/
def tVar (i : Nat) : TE := fun σ H Q => ∃ v, σ[i]? = some (some v) ∧ Q v H
def tC (v : V) : TE := fun _ H Q => Q v H
theorem pe_var {i : Nat} {x : Str} {pos : Pos} (hN : X.N[i]? = some x) (hv : Vis X.env.scope x) (hd : (x == ("__debug__" : Str)) = false := by decide) (hcd : (x == ("__classdict__" : Str)) = false := by decide) : PE X (.Name x pos) (tVar i) := by
  intro pins s σ H Q I h
  obtain ⟨v, e, h⟩ := h
  obtain ⟨m, hn, hl⟩ := I.loc
  obtain ⟨u, r, l⟩ := hl i x v hN e hv
  have fin : EP X pins σ Q u s := ⟨v, H, I, r, h⟩
  rcases l with ⟨hk, hm⟩ | ⟨hk, c, hc, hcell⟩
  · exact wpAny_Name (wpAny_loadName_local I.ok.kind hk hn hm fin) hd
  · rcases hk with hk | hk
    · exact wpAny_Name (wpAny_loadName_cell I.ok.kind hk hc hcell fin) hd
    · exact wpAny_Name (wpAny_loadName_free I.ok.kind hk hc hcell fin hcd) hd
theorem pe_int {i j pos} : PE X (.Constant (.int i) j pos) (tC (.int i)) := fun _ _ _ H _ I h => wpAny_Constant_int ⟨.int i, H, I.tok _, ⟨_, rfl⟩, h⟩
theorem pe_bl {b j pos} : PE X (.Constant (.bool b) j pos) (tC (.bl b)) := fun _ _ _ H _ I h => Constant_bool ⟨.bl b, H, I, rfl, h⟩
theorem pe_non {j pos} : PE X (.Constant .none j pos) (tC .non) := fun _ _ _ H _ I h => Constant_none ⟨.non, H, I, rfl, h⟩

/-- a global name of the def -/
def Gl (X : Cx) (x : Str) : Prop := X.env.kindOf x = some .globalImplicit
theorem ld_glob {E : Value → Shared → Prop} {pins : List (Addr × Obj)} {s : Shared} {σ : St} {H : Hp} {x : Str} {u : Value} {pos : Pos} {Q : Value → Shared → Prop} (I : Inv X pins σ H s) (hg : Gl X x) (hm : X.mg x = some u) (h : Q u s)
    (hd : (x == ("__debug__" : Str)) = false := by decide) : wpAny (model X.prog X.w) X.A (eval (.Name x pos) X.env) Q E s :=
  Calls.Name_function_global I.ok.kind hg (Calls.loadGlobal_global (by rw [I.ok.glob]; exact I.mod.glob.keeps I.bk) hm h) hd
theorem ld_blt {E : Value → Shared → Prop} {pins : List (Addr × Obj)} {s : Shared} {σ : St} {H : Hp} {x : Str} {u : Value} {pos : Pos} {Q : Value → Shared → Prop} (I : Inv X pins σ H s) (hg : Gl X x) (hm : X.mg x = none) (hv : bootBuiltins x = some u) (h : Q u s)
    (hn : x ≠ "__name__" := by decide) (hd : (x == ("__debug__" : Str)) = false := by decide) : wpAny (model X.prog X.w) X.A (eval (.Name x pos) X.env) Q E s := by
  obtain ⟨mb, h1, h2⟩ := I.mod.blt
  exact Calls.Name_function_global I.ok.kind hg (Calls.loadGlobal_builtin (by rw [I.ok.glob]; exact I.mod.glob.keeps I.bk) hm (by rw [I.ok.blt]; exact h1.keeps I.bk) ((h2 x hn).trans hv) h) hd
/-- a module's constant, a class, a function, as a value -/
theorem pe_glob {x : Str} {v : V} {u : Value} {pos : Pos} (hg : Gl X x) (hm : X.mg x = some u) (r : RelV v u) (hd : (x == ("__debug__" : Str)) = false := by decide) : PE X (.Name x pos) (tC v) :=
  fun _ _ _ H _ I h => ld_glob I hg hm ⟨v, H, I, r, h⟩ hd

/-! ### arithmetic -/
variable {a b : Expr} {ta tb : TE} {pos : Pos}

/-! ### comparisons -/
def PC (X : Cx) (op : CmpOp) (a b : Expr) (t : TE) : Prop :=
  ∀ (pins : List (Addr × Obj)) (s : Shared) (σ : St) (H : Hp) (Q : VK), Inv X pins σ H s → t σ H Q →
    wpAny (model X.prog X.w) X.A (eval a X.env) (fun v s₁ => wpAny (model X.prog X.w) X.A (eval b X.env) (fun u s₂ => wpAny (model X.prog X.w) X.A (compareOp op v u) (EP X pins σ Q) X.xe s₂) X.xe s₁) X.xe s
theorem nobehind (b : Expr) {op : CmpOp} (h : op ≠ .In) (h2 : op ≠ .NotIn) : behindInMarks op b = false := by
  have e1 : (op == CmpOp.In) = false := by cases op <;> first | rfl | exact absurd rfl h
  have e2 : (op == CmpOp.NotIn) = false := by cases op <;> first | rfl | exact absurd rfl h2
  cases b <;> simp [behindInMarks, e1, e2]
def tNotN (ta : TE) : TE := fun σ H Q => ta σ H fun x H1 => Q (.bl (!decide (x = .non))) H1
theorem RelV.none_iff {x : V} {v : Value} (r : RelV x v) : (v == Value.none) = decide (x = .non) := by
  cases x with
  | non => cases r; rfl
  | bl _ => cases r; rfl
  | int _ => obtain ⟨t, rfl⟩ := r; rfl
  | str _ => obtain ⟨t, rfl⟩ := r; rfl
  | byt _ => obtain ⟨t, rfl⟩ := r; rfl
  | flt _ => obtain ⟨t, rfl⟩ := r; rfl
  | ref _ => cases r; rfl
  | ty _ => cases r; rfl
theorem pc_notN {j pos'} (ha : PE X a ta) : PC X .IsNot a (.Constant .none j pos') (tNotN ta) := by
  intro pins s σ H Q I h
  refine thn (ha pins s σ H _ I h) fun v s1 ⟨x, H1, I1, r1, q1⟩ => ?_
  exact Constant_none (isnot_none_gen ⟨.bl _, H1, I1, by rw [r1.none_iff]; rfl, q1⟩)
/-- a comparison as a value, as a test -/
def tB (t : TE) : TT := fun σ H Q => t σ H fun x H1 => ∃ c, x = .bl c ∧ Q c H1
theorem pt_cmp {op : CmpOp} {t : TE} (h : PC X op a b t) (h1 : behindInMarks op b = false := by first | exact nobehind _ (by decide) (by decide) | rfl) : PT X (.Compare a [op] [b] pos) (tB t) := by
  intro pins s σ H Q I hw
  refine wpAny_isTrue_Compare1 (thn (h pins s σ H _ I hw) fun v s1 h1 => thn h1 fun u s2 h2 => thn h2 fun c s3 ⟨x, H1, I1, r1, q1⟩ => ?_) h1
  obtain ⟨d, rfl, q⟩ := q1
  cases r1
  exact wpAny_truthy_bool ⟨H1, I1, q⟩
/-- an expression whose value is a bool, as a test -/
theorem pt_val {e : Expr} {t : TE} (h : PE X e t) (he : ∀ whole, isTrue e X.env whole = (do let v ← whole; standAt e.pos; holding [v] (truthy v)) := by intro _; rfl) : PT X e (tB t) := by
  intro pins s σ H Q I hw
  refine isTrue_plain (thn (h pins s σ H _ I hw) fun v s1 ⟨x, H1, I1, r1, q1⟩ => ?_) (he _)
  obtain ⟨d, rfl, q⟩ := q1
  cases r1
  exact wpAny_truthy_bool ⟨H1, I1, q⟩

/-! ### and, or, not -/
variable {tA tB' : TT} {rest : List Expr}
def tAnd (t u : TT) : TT := fun σ H Q => t σ H fun c H1 => if c = true then u σ H1 Q else Q false H1
def tOr (t u : TT) : TT := fun σ H Q => t σ H fun c H1 => if c = true then Q true H1 else u σ H1 Q
def tNot (t : TT) : TT := fun σ H Q => t σ H fun c H1 => Q (!c) H1
theorem pw_and1 (ha : PT X a tA) : PW X (.BoolOp .And [a] pos) tA := by
  intro wh pins s σ H Q I h
  refine isTrue_and (thn (ha pins s σ H Q I h) fun c s1 e => ?_)
  cases c with
  | true => exact isTrue_and_nil e
  | false => exact e
theorem pw_or1 (ha : PT X a tA) : PW X (.BoolOp .Or [a] pos) tA := by
  intro wh pins s σ H Q I h
  refine isTrue_or (thn (ha pins s σ H Q I h) fun c s1 e => ?_)
  cases c with
  | false => exact isTrue_or_nil e
  | true => exact e
theorem pw_and (ha : PT X a tA) (hb : PW X (.BoolOp .And (b :: rest) pos) tB') : PW X (.BoolOp .And (a :: b :: rest) pos) (tAnd tA tB') := by
  intro wh pins s σ H Q I h
  refine isTrue_and (thn (ha pins s σ H _ I h) fun c s1 ⟨H1, I1, q1⟩ => ?_)
  cases c with
  | true => exact hb wh pins s1 σ H1 Q I1 q1
  | false => exact ⟨H1, I1, q1⟩
theorem pw_or (ha : PT X a tA) (hb : PW X (.BoolOp .Or (b :: rest) pos) tB') : PW X (.BoolOp .Or (a :: b :: rest) pos) (tOr tA tB') := by
  intro wh pins s σ H Q I h
  refine isTrue_or (thn (ha pins s σ H _ I h) fun c s1 ⟨H1, I1, q1⟩ => ?_)
  cases c with
  | true => exact ⟨H1, I1, q1⟩
  | false => exact hb wh pins s1 σ H1 Q I1 q1
theorem pt_not (ha : PT X a tA) : PT X (.UnaryOp .Not a pos) (tNot tA) := by
  intro pins s σ H Q I h
  exact isTrue_not (ha pins s σ H (fun c H1 => Q (!c) H1) I h)
/-- .. as values (bools) -/
def tAndV (ta tb : TE) : TE := fun σ H Q => ta σ H fun x H1 => ∃ c, x = .bl c ∧ if c = true then tb σ H1 Q else Q (.bl false) H1
theorem pe_one {op} {t : TE} (h : PE X a t) : PE X (.BoolOp op [a] pos) t := fun pins s σ H Q I hw => BoolOp_one (h pins s σ H Q I hw)
theorem pe_and (ha : PE X a ta) (hb : PE X (.BoolOp .And (b :: rest) pos) tb) : PE X (.BoolOp .And (a :: b :: rest) pos) (tAndV ta tb) := by
  intro pins s σ H Q I h
  refine BoolOp_and (thn (ha pins s σ H _ I h) fun v s1 ⟨x, H1, I1, r1, q1⟩ => ?_)
  obtain ⟨c, rfl, q1⟩ := q1
  cases r1
  refine wpAny_truthy_bool ?_
  cases c with
  | true => exact hb pins s1 σ H1 Q I1 q1
  | false => exact ⟨.bl false, H1, I1, rfl, q1⟩
/-- a if t else b -/
def tIf (t : TT) (ta tb : TE) : TE := fun σ H Q => t σ H fun c H1 => if c = true then ta σ H1 Q else tb σ H1 Q
theorem pe_ifExp {c : Expr} (hc : PT X c tA) (ha : PE X a ta) (hb : PE X b tb) : PE X (.IfExp c a b pos) (tIf tA ta tb) := by
  intro pins s σ H Q I h
  refine wpAny_IfExp (thn (hc pins s σ H _ I h) fun d s1 ⟨H1, I1, q1⟩ => ?_)
  cases d with
  | true => exact ha pins s1 σ H1 Q I1 q1
  | false => exact hb pins s1 σ H1 Q I1 q1
end
end L2

namespace L2
open PySem PySem.Spec PyProof.Rows

/-! ### a list, a tuple that is read: tracked, frozen, or an object of the module -/
def SqL (K : PySem.W.Frag) (H : Hp) (a : Addr) (xs : List V) : Prop :=
  Rd H a (.lst xs) ∨
    ∃ (o : Obj) (its : Array Value) (n : Nat), K.lookup a = some o ∧ o.cls = .type "list" ∧ o.dict = none ∧ o.data = .seq its n ∧ its.size ≤ sizeLine ∧ Vals xs its.toList
def SqT (K : PySem.W.Frag) (H : Hp) (a : Addr) (xs : List V) : Prop :=
  Rd H a (.tup xs) ∨
    ∃ (o : Obj) (its : Array Value) (n : Nat), K.lookup a = some o ∧ o.cls = .type "tuple" ∧ o.data = .seq its n ∧ its.size ≤ sizeLine ∧ Vals xs its.toList
def absV : Value → Option V
  | .none => some .non
  | .bool b => some (.bl b)
  | .int i _ => some (.int i)
  | .str x _ => some (.str x)
  | .bytes b _ => some (.byt b)
  | .float b _ => some (.flt b)
  | .ref a => some (.ref a)
  | .type n => some (.ty n)
  | _ => none
theorem RelV.abs {x : V} {u : Value} (r : RelV x u) : absV u = some x := by
  cases x with
  | non => cases r; rfl
  | bl _ => cases r; rfl
  | int _ => obtain ⟨t, rfl⟩ := r; rfl
  | str _ => obtain ⟨t, rfl⟩ := r; rfl
  | byt _ => obtain ⟨t, rfl⟩ := r; rfl
  | flt _ => obtain ⟨t, rfl⟩ := r; rfl
  | ref _ => cases r; rfl
  | ty _ => cases r; rfl
theorem RelV.inj {x y : V} {u : Value} (r : RelV x u) (q : RelV y u) : x = y := Option.some.inj (r.abs.symm.trans q.abs)
theorem Vals.inj : ∀ {xs ys : List V} {us : List Value}, Vals xs us → Vals ys us → xs = ys
  | _, _, _, .nil, .nil => rfl
  | _, _, _, .cons r t, .cons r' t' => by rw [r.inj r', Vals.inj t t']
section
variable {X : Cx} {pins : List (Addr × Obj)} {σ : St} {H : Hp} {s : Shared} {a : Addr} {xs ys : List V}
theorem SqL.of {K : PySem.W.Frag} (h : H a = some (.lst xs)) : SqL K H a xs := .inl (.inl h)
theorem Inv.list (I : Inv X pins σ H s) (h : SqL X.K H a xs) : ∃ its : List Value, Vals xs its ∧ PlainL s.heap a its.toArray ∧ xs.length ≤ sizeLine := by
  rcases h with h | ⟨o, its, n, hk, hc, hd, hs, hz, r⟩
  · obtain ⟨z, its, n, r, e⟩ := h.ok I.hok
    exact ⟨its, r, ⟨_, n, e, rfl, rfl, rfl⟩, z⟩
  · refine ⟨its.toList, r, ⟨o, n, I.kIn a o hk, hc, hd, by simpa using hs⟩, ?_⟩
    have e := r.length
    simp only [Array.length_toList] at e
    omega
theorem Inv.tuple (I : Inv X pins σ H s) (h : SqT X.K H a xs) : ∃ its : List Value, Vals xs its ∧ IsTup s.heap a its.toArray ∧ xs.length ≤ sizeLine := by
  rcases h with h | ⟨o, its, n, hk, hc, hs, hz, r⟩
  · obtain ⟨z, its, r, p⟩ := h.ok I.hok
    exact ⟨its, r, p, z⟩
  · refine ⟨its.toList, r, ⟨o, I.kIn a o hk, hc, n, by simpa using hs⟩, ?_⟩
    have e := r.length
    simp only [Array.length_toList] at e
    omega
theorem Inv.list_inj (I : Inv X pins σ H s) (h : SqL X.K H a xs) (h' : SqL X.K H a ys) : xs = ys := by
  obtain ⟨its, r, ⟨o, n, e, _, _, d⟩, _⟩ := I.list h
  obtain ⟨its', r', ⟨o', n', e', _, _, d'⟩, _⟩ := I.list h'
  rw [e] at e'; cases e'
  rw [d] at d'
  injection d' with d1 _
  have : its = its' := by simpa using congrArg Array.toList d1
  subst this
  exact r.inj r'
end

/-! ### another wish about exceptions -/
abbrev Cx.wish (X : Cx) (E : Value → Shared → Prop) : Cx := { X with xe := E }
/-- no exception leaves -/
abbrev Cx.nox (X : Cx) : Cx := X.wish fun _ _ => False
theorem Cx.Ok.wish {X : Cx} (ok : X.Ok) (E : Value → Shared → Prop) : (X.wish E).Ok :=
  ⟨ok.mod, ok.kind, ok.glob, ok.blt, ok.above, ok.inj, ok.has, ok.cab, ok.hd, ok.frames, ok.stk, ok.exf, ok.bs, ok.bsz, ok.noex, ok.exfs, ok.funs, ok.frf⟩
theorem Cx.Ok.unwish {X : Cx} {E : Value → Shared → Prop} (ok : (X.wish E).Ok) : X.Ok :=
  ⟨ok.mod, ok.kind, ok.glob, ok.blt, ok.above, ok.inj, ok.has, ok.cab, ok.hd, ok.frames, ok.stk, ok.exf, ok.bs, ok.bsz, ok.noex, ok.exfs, ok.funs, ok.frf⟩
section
variable {X : Cx} {pins : List (Addr × Obj)} {σ : St} {H : Hp} {s : Shared} {E : Value → Shared → Prop}
theorem Inv.wish (I : Inv X pins σ H s) (E : Value → Shared → Prop) : Inv (X.wish E) pins σ H s := ⟨I.ok.wish E, I.os, I.bare, I.base, I.loc, I.cell, I.free, I.freeC, I.pin, I.hok, I.len⟩
theorem Inv.unwish (I : Inv (X.wish E) pins σ H s) : Inv X pins σ H s := ⟨I.ok.unwish, I.os, I.bare, I.base, I.loc, I.cell, I.free, I.freeC, I.pin, I.hok, I.len⟩
theorem SP.unwish {D : Ends} {f : Flow} {s' : Shared} (h : SP (X.wish E) pins D f s') : SP X pins D f s' := by
  cases f with
  | next => obtain ⟨σ', H', I, q⟩ := h; exact ⟨σ', H', I.unwish, q⟩
  | brk => obtain ⟨σ', H', I, q⟩ := h; exact ⟨σ', H', I.unwish, q⟩
  | cont => obtain ⟨σ', H', I, q⟩ := h; exact ⟨σ', H', I.unwish, q⟩
  | ret u => obtain ⟨v, σ', H', I, r, q⟩ := h; exact ⟨v, σ', H', I.unwish, r, q⟩
theorem PSs.nox {st : List Stmt} {t : TS} (h : PSs X.nox st t) : PSs X st t := fun pins s σ H D I hw =>
  wpAny_mono (h pins s σ H D (I.wish _) hw) (fun _ _ q => q.unwish) fun _ _ z => False.elim z
end

/-! ### blocks and small statements -/
section
variable {X : Cx} {st : Stmt} {rest : List Stmt} {t u : TS} {e : Expr} {te : TE} {pos : Pos}
def tNext : TS := fun D σ H => D.nx σ H
def tSeq (t u : TS) : TS := fun D σ H => t { D with nx := u D } σ H
theorem pss_nil : PSs X [] tNext := fun _ _ σ H _ I h => wpAny_execs_nil ⟨σ, H, I, h⟩
theorem pss_cons (h1 : PS X st t) (h2 : PSs X rest u) : PSs X (st :: rest) (tSeq t u) := by
  intro pins s σ H D I h
  refine wpAny_execs_cons (thn (h1 pins s σ H { D with nx := u D } I h) fun f s1 q => ?_)
  cases f with
  | next =>
    obtain ⟨σ', H', I', q⟩ := q
    exact h2 pins s1 σ' H' D I' q
  | ret v => exact q
  | brk => exact q
  | cont => exact q
theorem pss_one (h1 : PS X st t) : PSs X [st] t := by
  intro pins s σ H D I h
  refine wpAny_execs_cons (thn (h1 pins s σ H D I h) fun f s1 q => ?_)
  cases f with
  | next => exact wpAny_execs_nil q
  | ret v => exact q
  | brk => exact q
  | cont => exact q
/-- in a def's body nothing is shown -/
theorem Inv.quiet {pins : List (Addr × Obj)} {σ : St} {H : Hp} {s : Shared} (I : Inv X pins σ H s) : interactive X.env = false := by simp [interactive, I.ok.kind]
/-- an expression whose value is dropped -/
def tDrop (te : TE) : TS := fun D σ H => te σ H fun _ H1 => D.nx σ H1
theorem ps_expr (he : PE X e te) (hs : swapsWith e none pos.line X.env = pure false := by rfl) : PS X (.Expr e pos) (tDrop te) := by
  intro pins s σ H D I h
  exact wpAny_Expr_any (thn (he pins s σ H _ I h) fun v s1 ⟨x, H1, I1, r1, q1⟩ => ⟨σ, H1, I1, q1⟩) I.quiet hs
def tRet (te : TE) : TS := fun D σ H => te σ H D.rt
theorem ps_ret (he : PE X e te) : PS X (.Return (some e) pos) (tRet te) := by
  intro pins s σ H D I h
  exact wpAny_Return_some (thn (he pins s σ H _ I h) fun v s1 ⟨x, H1, I1, r1, q1⟩ => ⟨x, σ, H1, I1, r1, q1⟩)
def tIfS (c : TT) (t u : TS) : TS := fun D σ H => c σ H fun b H1 => if b = true then t D σ H1 else u D σ H1
theorem ps_if {c : Expr} {a b : List Stmt} {tc : TT} (hc : PT X c tc) (ha : PSs X a t) (hb : PSs X b u) : PS X (.If c a b pos) (tIfS tc t u) := by
  intro pins s σ H D I h
  refine wpAny_If (thn (hc pins s σ H _ I h) fun d s1 ⟨H1, I1, q1⟩ => ?_)
  cases d with
  | true => exact ha pins s1 σ H1 D I1 q1
  | false => exact hb pins s1 σ H1 D I1 q1
end

/-! ### targets -/
abbrev TG := V → St → Hp → (St → Hp → Prop) → Prop
def PG (X : Cx) (target : Expr) (t : TG) : Prop :=
  ∀ (pins : List (Addr × Obj)) (s : Shared) (σ : St) (H : Hp) (v : V) (u : Value) (Q : St → Hp → Prop), Inv X pins σ H s → RelV v u → t v σ H Q →
    wpAny (model X.prog X.w) X.A (assign target X.env u) (fun _ s' => ∃ σ' H', Inv X pins σ' H' s' ∧ Q σ' H') X.xe s
section
variable {X : Cx} {pos : Pos}
def gName (i : Nat) : TG := fun v σ H Q => Q (σ.set i (some v)) H
theorem pg_name {i : Nat} {x : Str} (hN : X.N.Nodup) (hi : X.N[i]? = some x) (hx : Loc X.env.scope x) (hf : X.fn x = true ∨ X.env.scope.names.lookup x = some .local := by first | exact .inl rfl | exact .inr rfl | assumption) : PG X (.Name x pos) (gName i) := by
  intro pins s σ H v u Q I r h
  exact wpAny_assign_Name (store_ok I hN hi hx r (fun s' I' => ⟨_, H, I', h⟩) hf)
/-- target = value -/
def tAsg (te : TE) (g : TG) : TS := fun D σ H => te σ H fun x H1 => g x σ H1 D.nx
/-- name = value -/
theorem ps_set {i : Nat} {x : Str} {e : Expr} {te : TE} {pos' : Pos} (hN : X.N.Nodup) (hi : X.N[i]? = some x) (hx : Loc X.env.scope x) (he : PE X e te) (hs : swapsWith e (some (.Name x pos')) pos.line X.env = pure false := by rfl) (hf : X.fn x = true ∨ X.env.scope.names.lookup x = some .local := by first | exact .inl rfl | exact .inr rfl | assumption) :
    PS X (.Assign [.Name x pos'] e pos) (tAsg te (gName i)) := by
  intro pins s σ H D I h
  refine wpAny_Assign_Name (thn (he pins s σ H _ I h) fun v s1 ⟨y, H1, I1, r1, q1⟩ => ?_) hs
  exact store_ok I1 hN hi hx r1 (fun s2 I2 => ⟨_, H1, I2, q1⟩) hf
end

/-! ### while -/
section
variable {X : Cx} {pos : Pos}
/-- the invariant W with its measure -/
def tWhile (c : TT) (tb : TS) : TS := fun D σ H => ∃ W : Nat → St → Hp → Prop, (∃ m, W m σ H) ∧ ∀ m σ H, W m σ H →
  c σ H fun b H1 => if b = true then ∃ N : St → Hp → Prop, (∀ σ' H', N σ' H' → ∃ m', m' < m ∧ W m' σ' H') ∧ tb { D with nx := N, ct := N, bk := D.nx } σ H1 else D.nx σ H1
theorem ps_while {c : Expr} {body : List Stmt} {tc : TT} {tb : TS} (hp : PassesOwn (model X.prog X.w) X.A X.env X.xe) (hc : PT X c tc) (hb : PSs X body tb) : PS X (.While c body [] pos) (tWhile tc tb) := by
  intro pins s σ H D I h
  obtain ⟨W, ⟨m0, w0⟩, turn⟩ := h
  refine wpAny_While (codeAny_whileLoop (fun n s' => ∃ σ' H', Inv X pins σ' H' s' ∧ W n σ' H') ?_ m0 ⟨σ, H, I, w0⟩)
  rintro n s1 ⟨σ1, H1, I1, w1⟩
  refine wpAny_passesOwn hp (thn (hc pins s1 σ1 H1 _ I1 (turn n σ1 H1 w1)) fun b s2 ⟨H2, I2, q2⟩ => ?_)
  cases b with
  | true =>
    obtain ⟨N, hN, q2⟩ := q2
    rw [if_pos rfl]
    refine wpAny_passesOwn hp (thn (hb pins s2 σ1 H2 _ I2 q2) fun f s3 q3 => ?_)
    cases f with
    | next =>
      obtain ⟨σ3, H3, I3, n3⟩ := q3
      obtain ⟨m', hm, w3⟩ := hN σ3 H3 n3
      exact ⟨m', hm, σ3, H3, I3, w3⟩
    | cont =>
      obtain ⟨σ3, H3, I3, n3⟩ := q3
      obtain ⟨m', hm, w3⟩ := hN σ3 H3 n3
      exact ⟨m', hm, σ3, H3, I3, w3⟩
    | brk => exact q3
    | ret v => exact q3
  | false =>
    rw [if_neg Bool.false_ne_true]
    exact wpAny_execs_nil ⟨σ1, H2, I2, q2⟩
end

/-! ### what a loop or a comprehension walks -/
/-- at turn i: it yields x (the heap may grow), or it stops -/
structure It where
  go : Nat → Hp → Prop
  yld : Nat → Hp → V → Hp → Prop
  stop : Nat → Hp → Prop
/-- the iterator's own objects may turn: they are not the frame's, not pinned, younger than the entry (or a comprehension's own) -/
def FpOk (X : Cx) (pins : List (Addr × Obj)) (H : Hp) (b : Addr) : Prop :=
  H b = none ∧ b ≠ X.env.locals ∧ b ∉ X.fs ∧ (b ∈ X.ex ∨ X.s_0.heap.objs.size ≤ b) ∧ (∀ x c, X.env.cells.lookup x = some c → c ≠ b) ∧ ∀ p ∈ X.pn ++ pins, p.1 ≠ b
theorem Inv.fpOk {X : Cx} {pins : List (Addr × Obj)} {σ : St} {H H' : Hp} {s : Shared} {b : Addr} (I : Inv X pins σ H s) (hb : s.heap.objs.size ≤ b) (hn : H' b = none) : FpOk X pins H' b := by
  refine ⟨hn, Nat.ne_of_gt (Nat.lt_of_lt_of_le I.lt hb), I.nofs hb, .inr (Nat.le_trans I.sz hb), fun x c e z => ?_, fun p hp z => ?_⟩
  · obtain ⟨v, q⟩ := I.cell x c e
    exact absurd (Nat.lt_of_lt_of_le q.lt (by rw [z]; exact hb)) (Nat.lt_irrefl _)
  · exact absurd (Nat.lt_of_lt_of_le (Heap.lt_size (I.pin p hp).1) (by rw [z]; exact hb)) (Nat.lt_irrefl _)
structure Turn (P : Program) (w : World) (K : PySem.W.Frag) (tg : Expr) (J : It) (fp : List Addr) (it : Addr) (tn : Nat → Heap → Prop) : Prop where
  mem : it ∈ fp
  obj : ∀ i h, tn i h → ∀ b ∈ fp, ∃ o, h.get? b = some o ∧ ∀ v, o.data ≠ .cell v
  keep : ∀ i h h', tn i h → (∀ b ∈ fp, ∀ o, h.get? b = some o → h'.get? b = some o) → tn i h'
  item : ∀ (X : Cx), X.prog = P → X.w = w → X.K = K → X.calm = true → ∀ (i : Nat) (pins : List (Addr × Obj)) (s : Shared) (σ : St) (H : Hp) (E : Value → Shared → Prop), Inv X pins σ H s → (∀ b ∈ fp, FpOk X pins H b) → tn i s.heap → J.go i H →
    wpAny (model P w) X.A (pyNext (.ref it)) (fun r s1 => ∃ u, r = some u ∧
      wpAny (model P w) X.A (letOwnedTupleGo tg (.ref it) u) (fun _ s2 => ∃ x H', Inv X pins σ H' s2 ∧ RelV x u ∧ J.yld i H x H' ∧ tn (i + 1) s2.heap ∧ ∀ b ∈ fp, H' b = none) E s1) E s
  done : ∀ (X : Cx), X.prog = P → X.w = w → X.K = K → X.calm = true → ∀ (i : Nat) (pins : List (Addr × Obj)) (s : Shared) (σ : St) (H : Hp) (E : Value → Shared → Prop), Inv X pins σ H s → (∀ b ∈ fp, FpOk X pins H b) → tn i s.heap → J.stop i H →
    wpAny (model P w) X.A (pyNext (.ref it)) (fun r s1 => r = none ∧ Inv X pins σ H s1) E s
  self : ∀ (A : Around) (i : Nat) (s : Shared) (Q : Value → Shared → Prop) (E : Value → Shared → Prop), tn i s.heap → Q (.ref it) s → wpAny (model P w) A (pyIter (.ref it)) Q E s
abbrev TI := St → Hp → (It → Hp → Prop) → Prop
/-- an iterator has come -/
def PIE (X : Cx) (pins : List (Addr × Obj)) (σ : St) (tg : Expr) (R : It → Hp → Prop) (itv : Value) (s2 : Shared) : Prop :=
  ∃ (it : Addr) (fp : List Addr) (tn : Nat → Heap → Prop) (J : It) (H' : Hp), itv = .ref it ∧ Inv X pins σ H' s2 ∧ Turn X.prog X.w X.K tg J fp it tn ∧ tn 0 s2.heap ∧ (∀ b ∈ fp, FpOk X pins H' b) ∧ R J H'
def PI (X : Cx) (tg iter : Expr) (wi : TI) : Prop :=
  ∀ (pins : List (Addr × Obj)) (s : Shared) (σ : St) (H : Hp) (R : It → Hp → Prop), Inv X pins σ H s → wi σ H R →
    wpAny (model X.prog X.w) X.A (eval iter X.env) (fun v s1 => wpAny (model X.prog X.w) X.A (pyIter v) (PIE X pins σ tg R) X.xe s1) X.xe s

/-- the step ahead of the store is nothing for an iterator that keeps no tuple -/
theorem go_of {M : Model} {A : Around} {E : Value → Shared → Prop} {s : Shared} {tg : Expr} {it : Addr} {u : Value} {o : Obj} {n : String} {vs : Array Value} {Q : Unit → Shared → Prop} (ho : s.heap.get? it = some o) (hc : o.cls = .type n) (hd : o.data = .fields vs)
    (hn : ["enumerate", "zip", "dict_itemiterator", "dict_reverseitemiterator", "odict_iterator", "itertools.zip_longest", "itertools.pairwise"].contains n = false) (hQ : Q () s) : wpAny M A (letOwnedTupleGo tg (.ref it) u) Q E s := by
  unfold letOwnedTupleGo
  cases tg <;> first
    | exact wpAny_pure hQ
    | (cases u <;> first
        | exact wpAny_pure hQ
        | (refine wpAny_bind (wpAny_load ho ?_)
           rw [hc, hd]
           show wpAny M A (if (["enumerate", "zip", "dict_itemiterator", "dict_reverseitemiterator", "odict_iterator", "itertools.zip_longest", "itertools.pairwise"].contains n && vs[0]? == some (rawInt _)) = true then _ else _) Q E s
           rw [if_neg (by intro h; rw [hn, Bool.false_and] at h; cases h)]
           exact wpAny_pure hQ))

/-- the list at a, as it stands at each turn (a loop may append to it) -/
def Itl (K : PySem.W.Frag) (a : Addr) : It :=
  ⟨fun i H => ∃ xs x, SqL K H a xs ∧ xs[i]? = some x, fun i H x H' => H' = H ∧ ∀ xs, SqL K H a xs → xs[i]? = some x, fun i H => ∃ xs, SqL K H a xs ∧ xs.length ≤ i⟩
/-- lo, lo + 1, .. (n of them) -/
def Itr (lo : Int) (n : Nat) : It := ⟨fun i _ => i < n, fun i H x H' => H' = H ∧ x = .int (lo + i), fun i _ => n ≤ i⟩
theorem turn_list {P : Program} {w : World} {K : PySem.W.Frag} {tg : Expr} (a it : Addr) : Turn P w K tg (Itl K a) [it] it (fun i h => h.IsListIter it a i) where
  mem := by simp
  obj := fun i h st b hb => by
    have e : b = it := by simpa using hb
    subst e
    obtain ⟨o, e, c, d⟩ := st
    exact ⟨o, e, fun v z => by rw [d] at z; cases z⟩
  keep := fun i h h' st k => st.at fun o e => k it (by simp) o e
  item := by
    intro X hP hw hK hc i pins s σ H E I hf st hg
    subst hP hw hK
    obtain ⟨xs, x, hq, hx⟩ := hg
    obtain ⟨its, rv, p, hz⟩ := I.list hq
    obtain ⟨u, hu, ru⟩ := rv.get hx
    obtain ⟨f0, f1, f2, f3, f4, f5⟩ := hf it (by simp)
    refine wpAny_pyNext_list_item st p.isList (x := u) (by simpa using hu) fun h' st' sb => ?_
    have I1 : Inv X pins σ H { s with heap := h' } := I.turned (t' := s.toks) (fun b o hb e => (sb.2 b hb).trans e) f0 f1 f3 f4 f5
    obtain ⟨o, e, c, d⟩ := id st'
    exact ⟨u, rfl, go_of (s := { s with heap := h' }) e c d (by decide) ⟨x, H, I1, ru, ⟨rfl, fun ys hy => by rw [I.list_inj hy hq]; exact hx⟩, st', fun b hb => (hf b hb).1⟩⟩
  done := by
    intro X hP hw hK hc i pins s σ H E I hf st hg
    subst hP hw hK
    obtain ⟨xs, hq, hx⟩ := hg
    obtain ⟨its, rv, p, hz⟩ := I.list hq
    obtain ⟨f0, f1, f2, f3, f4, f5⟩ := hf it (by simp)
    have hl := rv.length
    exact wpAny_pyNext_list_end (I.ok.hd hc) st p.isList (by simp; omega) fun h' eb => ⟨rfl, I.turned (t' := s.toks) (fun b o hb e => eb b o hb e) f0 f1 f3 f4 f5⟩
  self := fun _ _ _ _ _ st h => wpAny_pyIter_listiter st h
theorem turn_range {P : Program} {w : World} {K : PySem.W.Frag} {tg : Expr} (it : Addr) (lo : Int) (n : Nat) : Turn P w K tg (Itr lo n) [it] it (fun i h => IsRangeIter h it (lo + (i : Nat) * 1) ((n : Int) - (i : Nat)) 1) where
  mem := by simp
  obj := fun i h st b hb => by
    have e : b = it := by simpa using hb
    subst e
    exact ⟨_, st, fun v z => by
      have z' : Data.fields _ = Data.cell v := z
      cases z'⟩
  keep := fun i h h' st k => k it (by simp) _ st
  item := by
    intro X hP hw hK hc i pins s σ H E I hf st hg
    subst hP hw hK
    obtain ⟨f0, f1, f2, f3, f4, f5⟩ := hf it (by simp)
    have W := Walks.range (prog := X.prog) (w := X.w) (I.ok.hd hc) it lo 1 n
    refine W.item i s _ _ hg st fun v h' tk hv st' kk => ?_
    obtain ⟨t, rfl⟩ := hv
    have I1 : Inv X pins σ H { s with heap := h', toks := tk } := I.turned (fun b o hb e => kk b o (by simpa using hb) e) f0 f1 f3 f4 f5
    refine ⟨_, rfl, go_of (s := { s with heap := h', toks := tk }) (n := "range_iterator") st' rfl rfl (by decide) ⟨.int (lo + i), H, I1, ⟨t, ?_⟩, ⟨rfl, rfl⟩, st', fun b hb => (hf b hb).1⟩⟩
    rw [Int.mul_one]
  done := by
    intro X hP hw hK hc i pins s σ H E I hf st hg
    subst hP hw hK
    obtain ⟨f0, f1, f2, f3, f4, f5⟩ := hf it (by simp)
    exact wpAny_pyNext_range_end (I.ok.hd hc) st (by have : n ≤ i := hg; omega) fun h' eb => ⟨rfl, I.turned (t' := s.toks) (fun b o hb e => eb b o hb e) f0 f1 f3 f4 f5⟩
  self := fun _ _ _ _ _ st h => wpAny_pyIter_rangeiter st h
end L2

namespace L2
open PySem PySem.Spec PyProof.Rows
section
variable {X : Cx} {tg : Expr}
def iList (K : PySem.W.Frag) (tl : TE) : TI := fun σ H R => tl σ H fun x H1 => ∃ a, x = .ref a ∧ (∃ xs, SqL K H1 a xs) ∧ R (Itl K a) H1
theorem pi_list {l : Expr} {tl : TE} (hl : PE X l tl) : PI X tg l (iList X.K tl) := by
  intro pins s σ H R I h
  refine thn (hl pins s σ H _ I h) fun v s1 ⟨x, H1, I1, r1, q1⟩ => ?_
  obtain ⟨a, e, ⟨xs, hq⟩, q⟩ := q1
  subst e
  cases r1
  obtain ⟨its, rv, p, hz⟩ := I1.list hq
  refine wpAny_pyIter_list p.isList ?_
  refine ⟨s1.heap.objs.size, [s1.heap.objs.size], _, _, H1, rfl, I1.kept (t' := s1.toks) fun b o e => Heap.get?_push_of_some _ e, turn_list a _, ⟨_, Heap.get?_push_size _ rfl, rfl, rfl⟩, fun b hb => ?_, q⟩
  have e : b = s1.heap.objs.size := by simpa using hb
  subst e
  exact I1.fpOk (Nat.le_refl _) (I1.hok.fresh (Nat.le_refl _))
/-- a range object just made, walked -/
theorem range_it {pins : List (Addr × Obj)} {σ : St} {H : Hp} {s : Shared} {R : It → Hp → Prop} {E : Value → Shared → Prop} {lo hi : Int} {t u v : Tok} {tk : Nat} (I : Inv X pins σ H s) (h1 : -(2 ^ 62) ≤ lo) (h2 : lo < 2 ^ 62) (h3 : -(2 ^ 62) ≤ hi) (h4 : hi < 2 ^ 62)
    (q : R (Itr lo (hi - lo).toNat) H) : wpAny (model X.prog X.w) X.A (pyIter (.ref s.heap.objs.size)) (PIE X pins σ tg R) E { s with heap := s.heap.push { cls := .type "range", data := .fields #[.int lo t, .int hi u, .int 1 v] }, toks := tk } := by
  refine wpAny_pyIter_range (IsRange.new ..) (small_one h1 h2 h3 h4) ?_
  have I1 : Inv X pins σ H { s with heap := s.heap.push { cls := .type "range", data := .fields #[.int lo t, .int hi u, .int 1 v] }, toks := tk } := I.kept fun b o e => Heap.get?_push_of_some _ e
  refine ⟨(s.heap.push { cls := .type "range", data := .fields #[.int lo t, .int hi u, .int 1 v] }).objs.size, [(s.heap.push { cls := .type "range", data := .fields #[.int lo t, .int hi u, .int 1 v] }).objs.size], _, _, H, rfl,
    I1.kept (t' := tk) fun b o e => Heap.get?_push_of_some _ e, turn_range _ lo (hi - lo).toNat, ?_, fun b hb => ?_, q⟩
  · have e1 : lo + ((0 : Nat) : Int) * 1 = lo := by simp
    have e2 : (((hi - lo).toNat : Nat) : Int) - ((0 : Nat) : Int) = Builtin.Range.rangeSize lo hi 1 := by rw [rangeSize_one]; split <;> omega
    show IsRangeIter _ _ (lo + ((0 : Nat) : Int) * 1) ((((hi - lo).toNat : Nat) : Int) - ((0 : Nat) : Int)) 1
    rw [e1, e2]
    exact Heap.get?_push_size _ rfl
  · have e : b = (s.heap.push { cls := .type "range", data := .fields #[.int lo t, .int hi u, .int 1 v] }).objs.size := by simpa using hb
    subst e
    exact I1.fpOk (Nat.le_refl _) (I1.hok.fresh (Nat.le_refl _))
def iRng2 (ta : TA) : TI := fun σ H R => ta σ H fun vs H1 => ∃ i j : Int, vs = [.int i, .int j] ∧ (-(2 ^ 62) ≤ i ∧ i < 2 ^ 62 ∧ -(2 ^ 62) ≤ j ∧ j < 2 ^ 62) ∧ R (Itr i (j - i).toNat) H1
theorem pi_range2 {a b : Expr} {ta : TA} {p pos : Pos} (hg : Gl X "range") (hm : X.mg "range" = none) (ha : PA X [a, b] ta) (hs : starEach [a, b] X.env = [(false, eval a X.env), (false, eval b X.env)] := by rfl) (hs2 : starEach [b] X.env = [(false, eval b X.env)] := by rfl) :
    PI X tg (.Call (.Name "range" p) [a, b] [] pos) (iRng2 ta) := by
  intro pins s σ H R I h
  refine Call_ (ld_blt I hg hm boot_range (PyProof.Rows.callWith_type1 (thn (ha pos pins s σ H _ I h) fun us s1 ⟨vs, H1, I1, r1, q1⟩ => ?_) (by rw [hs, hs2]) (by rw [hs2]; rfl)))
  obtain ⟨i, j, e, ⟨q1, q2, q3, q4⟩, q⟩ := q1
  subst e
  cases r1 with
  | cons r rr =>
    cases rr with
    | cons r' rr =>
      cases rr
      obtain ⟨t, rfl⟩ := r
      obtain ⟨t', rfl⟩ := r'
      exact call_range_2 (range_it I1 q1 q2 q3 q4 q)

/-! ### for -/
/-- W: the invariant by the turn and a measure; N: what the body is to reach -/
def tFor (wi : TI) (g : TG) (tb : TS) : TS := fun D σ H => wi σ H fun J H1 => ∃ W : Nat → Nat → St → Hp → Prop, (∃ m, W 0 m σ H1) ∧ ∀ i m σ H, W i m σ H →
  (J.stop i H ∧ D.nx σ H) ∨ (J.go i H ∧ ∃ N : St → Hp → Prop, (∀ σ' H', N σ' H' → ∃ m', m' < m ∧ W (i + 1) m' σ' H') ∧ ∀ x H', J.yld i H x H' → g x σ H' fun σ2 H2 => tb { D with nx := N, ct := N, bk := D.nx } σ2 H2)
/-- the records at fp as they stand -/
def pinsAt (fp : List Addr) (h : Heap) : List (Addr × Obj) := fp.filterMap fun b => (h.get? b).map fun o => (b, o)
theorem mem_pinsAt {fp : List Addr} {h : Heap} {b : Addr} {o : Obj} (hb : b ∈ fp) (e : h.get? b = some o) : (b, o) ∈ pinsAt fp h := List.mem_filterMap.mpr ⟨b, hb, by rw [e]; rfl⟩
theorem of_pinsAt {fp : List Addr} {h : Heap} {p : Addr × Obj} (hp : p ∈ pinsAt fp h) : p.1 ∈ fp ∧ h.get? p.1 = some p.2 := by
  obtain ⟨b, hb, e⟩ := List.mem_filterMap.mp hp
  cases q : h.get? b with
  | none => rw [q] at e; cases e
  | some o =>
    rw [q] at e
    have e' : (b, o) = p := Option.some.inj e
    subst e'
    exact ⟨hb, q⟩
theorem Inv.pinned {pins : List (Addr × Obj)} {σ : St} {H : Hp} {s : Shared} {fp : List Addr} (I : Inv X pins σ H s) (hf : ∀ b ∈ fp, FpOk X pins H b) (ho : ∀ b ∈ fp, ∃ o, s.heap.get? b = some o ∧ ∀ v, o.data ≠ .cell v) : Inv X (pins ++ pinsAt fp s.heap) σ H s :=
  I.pins_of fun p hp => (List.mem_append.mp hp).elim (fun z => I.pin p (List.mem_append_right _ z)) fun z => by
    obtain ⟨hb, e⟩ := of_pinsAt z
    obtain ⟨f0, f1, f2, _⟩ := hf p.1 hb
    obtain ⟨o, e', d⟩ := ho p.1 hb
    rw [e] at e'; cases e'
    exact ⟨e, f0, f1, f2, d⟩
theorem Inv.unpinned {pins pl : List (Addr × Obj)} {σ : St} {H : Hp} {s : Shared} (I : Inv X (pins ++ pl) σ H s) : Inv X pins σ H s := I.pins_of fun p hp => I.pin p (List.mem_append_right _ (List.mem_append_left _ hp))
theorem ps_for {iter : Expr} {body : List Stmt} {wi : TI} {g : TG} {tb : TS} {pos : Pos} (hp : PassesOwn (model X.prog X.w) X.A X.env X.xe) (hc : X.calm = true) (hi : PI X tg iter wi) (hg : PG X tg g) (hb : PSs X body tb)
    (hs : ∀ x, foldedSetIterable iter X.env x = pure x := by intro _; rfl) : PS X (.For tg iter body [] pos) (tFor wi g tb) := by
  intro pins s σ H D I h
  refine wpAny_For (thn (hi pins s σ H _ I h) fun v s1 h1 => thn h1 fun itv s2 h2 => ?_) hs
  obtain ⟨it, fp, tn, J, H2, e, I2, T, st2, f2, W, ⟨m0, w0⟩, turn⟩ := h2
  subst e
  -- what stays true of the iterator's objects through the loop
  have stat : ∀ {H' : Hp}, (∀ b ∈ fp, H' b = none) → ∀ b ∈ fp, FpOk X pins H' b := fun hn b hb => ⟨hn b hb, (f2 b hb).2⟩
  refine codeAny_forLoop_any (fun n s' => ∃ i σ' H', Inv X pins σ' H' s' ∧ tn i s'.heap ∧ (∀ b ∈ fp, H' b = none) ∧ W i n σ' H') ?_ m0 ⟨0, σ, H2, I2, st2, fun b hb => (f2 b hb).1, w0⟩
  rintro n s3 ⟨i, σ3, H3, I3, st3, fr3, w3⟩
  rcases turn i n σ3 H3 w3 with ⟨stop, qn⟩ | ⟨go, N, hN, step⟩
  · refine wpAny_passesOwn hp (thn (T.done X rfl rfl rfl hc i pins s3 σ3 H3 X.xe I3 (stat fr3) st3 stop) fun r s4 ⟨hr, I4⟩ => ?_)
    subst hr
    exact wpAny_execs_nil ⟨σ3, H3, I4, qn⟩
  · refine wpAny_passesOwn hp (thn (T.item X rfl rfl rfl hc i pins s3 σ3 H3 X.xe I3 (stat fr3) st3 go) fun r s4 ⟨u, hr, h4⟩ => ?_)
    subst hr
    refine wpAny_passesOwn hp (thn h4 fun _ s5 ⟨x, H5, I5, r5, y5, st5, fr5⟩ => ?_)
    have I5' := I5.pinned (stat fr5) (T.obj _ _ st5)
    refine wpAny_passesOwn hp (thn (hg _ s5 σ3 H5 x u _ I5' r5 (step x H5 y5)) fun _ s6 ⟨σ6, H6, I6, q6⟩ => ?_)
    refine wpAny_passesOwn hp (thn (hb _ s6 σ6 H6 _ I6 q6) fun f s7 q7 => ?_)
    have again : ∀ {σ7 : St} {H7 : Hp}, Inv X (pins ++ pinsAt fp s5.heap) σ7 H7 s7 → N σ7 H7 → ∃ m, m < n ∧ ∃ i σ' H', Inv X pins σ' H' s7 ∧ tn i s7.heap ∧ (∀ b ∈ fp, H' b = none) ∧ W i m σ' H' := fun {σ7 H7} I7 n7 => by
      obtain ⟨m', hm, w7⟩ := hN σ7 H7 n7
      refine ⟨m', hm, i + 1, σ7, H7, I7.unpinned, T.keep _ _ _ st5 fun b hb o e => (I7.pin (b, o) (List.mem_append_right _ (List.mem_append_right _ (mem_pinsAt hb e)))).1, fun b hb => ?_, w7⟩
      obtain ⟨o, e, d⟩ := T.obj _ _ st5 b hb
      exact (I7.pin (b, o) (List.mem_append_right _ (List.mem_append_right _ (mem_pinsAt hb e)))).2.1
    cases f with
    | next => obtain ⟨σ7, H7, I7, n7⟩ := q7; exact again I7 n7
    | cont => obtain ⟨σ7, H7, I7, n7⟩ := q7; exact again I7 n7
    | brk => obtain ⟨σ7, H7, I7, q7⟩ := q7; exact ⟨σ7, H7, I7.unpinned, q7⟩
    | ret v => obtain ⟨x7, σ7, H7, I7, r7, q7⟩ := q7; exact ⟨x7, σ7, H7, I7.unpinned, r7, q7⟩
end

/-! ### the forms one uses -/
/-- over a list that the body leaves as it is -/
theorem for_list {K : PySem.W.Frag} {a : Addr} {xs : List V} {g : TG} {tb : TS} {D : Ends} {σ : St} {H : Hp} (Pv : Nat → St → Hp → Prop) (h0 : Pv 0 σ H) (hl : ∀ i σ H, i ≤ xs.length → Pv i σ H → SqL K H a xs)
    (hs : ∀ i x σ H, xs[i]? = some x → Pv i σ H → g x σ H fun σ2 H2 => tb { D with nx := Pv (i + 1), ct := Pv (i + 1), bk := D.nx } σ2 H2) (hd : ∀ σ H, Pv xs.length σ H → D.nx σ H) :
    ∃ W : Nat → Nat → St → Hp → Prop, (∃ m, W 0 m σ H) ∧ ∀ i m σ H, W i m σ H →
      ((Itl K a).stop i H ∧ D.nx σ H) ∨ ((Itl K a).go i H ∧ ∃ N : St → Hp → Prop, (∀ σ' H', N σ' H' → ∃ m', m' < m ∧ W (i + 1) m' σ' H') ∧ ∀ x H', (Itl K a).yld i H x H' → g x σ H' fun σ2 H2 => tb { D with nx := N, ct := N, bk := D.nx } σ2 H2) := by
  refine ⟨fun i m σ H => m = xs.length - i ∧ i ≤ xs.length ∧ Pv i σ H, ⟨xs.length, by simp, Nat.zero_le _, h0⟩, ?_⟩
  rintro i m σ H ⟨rfl, hi, p⟩
  have q := hl i σ H hi p
  by_cases hlt : i < xs.length
  · refine .inr ⟨⟨xs, xs[i], q, by simp [hlt]⟩, Pv (i + 1), fun σ' H' p' => ⟨xs.length - (i + 1), by omega, rfl, hlt, p'⟩, fun x H' y => ?_⟩
    obtain ⟨e, y⟩ := y
    subst e
    exact hs i x σ _ (y xs q) p
  · have e : i = xs.length := by omega
    subst e
    exact .inl ⟨⟨xs, q, Nat.le_refl _⟩, hd σ H p⟩
theorem for_range {lo : Int} {n : Nat} {g : TG} {tb : TS} {D : Ends} {σ : St} {H : Hp} (Pv : Nat → St → Hp → Prop) (h0 : Pv 0 σ H)
    (hs : ∀ i σ H, i < n → Pv i σ H → g (.int (lo + i)) σ H fun σ2 H2 => tb { D with nx := Pv (i + 1), ct := Pv (i + 1), bk := D.nx } σ2 H2) (hd : ∀ σ H, Pv n σ H → D.nx σ H) :
    ∃ W : Nat → Nat → St → Hp → Prop, (∃ m, W 0 m σ H) ∧ ∀ i m σ H, W i m σ H →
      ((Itr lo n).stop i H ∧ D.nx σ H) ∨ ((Itr lo n).go i H ∧ ∃ N : St → Hp → Prop, (∀ σ' H', N σ' H' → ∃ m', m' < m ∧ W (i + 1) m' σ' H') ∧ ∀ x H', (Itr lo n).yld i H x H' → g x σ H' fun σ2 H2 => tb { D with nx := N, ct := N, bk := D.nx } σ2 H2) := by
  refine ⟨fun i m σ H => m = n - i ∧ i ≤ n ∧ Pv i σ H, ⟨n, by simp, Nat.zero_le _, h0⟩, ?_⟩
  rintro i m σ H ⟨rfl, hi, p⟩
  by_cases hlt : i < n
  · refine .inr ⟨hlt, Pv (i + 1), fun σ' H' p' => ⟨n - (i + 1), by omega, rfl, hlt, p'⟩, fun x H' y => ?_⟩
    obtain ⟨e, y⟩ := y
    subst e y
    exact hs i σ _ hlt p
  · have e : i = n := by omega
    subst e
    exact .inl ⟨Nat.le_refl _, hd σ H p⟩
end L2

namespace L2
open PySem PySem.Spec PyProof.Rows

abbrev R2 := V → V → Hp → VK → Prop
/-- a two-place operation on values: f is binaryOp op, inplaceOp op or compareOp op -/
def OpR (X : Cx) (f : Value → Value → Sem Value) (r : R2) : Prop :=
  ∀ (pins : List (Addr × Obj)) (s : Shared) (σ : St) (H : Hp) (x y : V) (v u : Value) (Q : VK), Inv X pins σ H s → RelV x v → RelV y u → r x y H Q →
    wpAny (model X.prog X.w) X.A (f v u) (EP X pins σ Q) X.xe s
/-- a one-place operation -/
def UnR (X : Cx) (f : Value → Sem Value) (r : V → Hp → VK → Prop) : Prop :=
  ∀ (pins : List (Addr × Obj)) (s : Shared) (σ : St) (H : Hp) (x : V) (v : Value) (Q : VK), Inv X pins σ H s → RelV x v → r x H Q →
    wpAny (model X.prog X.w) X.A (f v) (EP X pins σ Q) X.xe s
/-- a call of a value that is known (a builtin, a type) with values -/
def CallR (X : Cx) (f : Value) (r : List V → Hp → VK → Prop) : Prop :=
  ∀ (pins : List (Addr × Obj)) (s : Shared) (σ : St) (H : Hp) (xs : List V) (us : List Value) (Q : VK), Inv X pins σ H s → Vals xs us → r xs H Q →
    wpAny (model X.prog X.w) X.A (call f us) (EP X pins σ Q) X.xe s

def tOp (r : R2) (ta tb : TE) : TE := fun σ H Q => ta σ H fun x H1 => tb σ H1 fun y H2 => r x y H2 Q
def tUn (r : V → Hp → VK → Prop) (ta : TE) : TE := fun σ H Q => ta σ H fun x H1 => r x H1 Q
def rI0 (g : Int → Int → V) : R2 := fun x y H Q => ∃ i j, x = .int i ∧ y = .int j ∧ Q (g i j) H
def rU (g : Int → V) : V → Hp → VK → Prop := fun x H Q => ∃ i, x = .int i ∧ Q (g i) H

section
variable {X : Cx} {a b c : Expr} {ta tb tc : TE} {pos : Pos}

theorem binT (ha : PE X a ta) (hb : PE X b tb) {pins : List (Addr × Obj)} {s : Shared} {σ : St} {H : Hp} {R : V → V → Hp → Prop} (I : Inv X pins σ H s)
    (h : ta σ H fun x H1 => tb σ H1 fun y H2 => R x y H2) {Q : Value → Shared → Prop} {f : Value → Value → Sem Value}
    (hf : ∀ v u s2 x y H2, Inv X pins σ H2 s2 → RelV x v → RelV y u → R x y H2 → wpAny (model X.prog X.w) X.A (f v u) Q X.xe s2) :
    wpAny (model X.prog X.w) X.A (eval a X.env) (fun v s₁ => wpAny (model X.prog X.w) X.A (eval b X.env) (fun u s₂ => wpAny (model X.prog X.w) X.A (f v u) Q X.xe s₂) X.xe s₁) X.xe s := by
  refine thn (ha pins s σ H _ I h) fun v s1 ⟨x, H1, I1, r1, q1⟩ => ?_
  refine thn (hb pins s1 σ H1 _ I1 q1) fun u s2 ⟨y, H2, I2, r2, q2⟩ => ?_
  exact hf v u s2 x y H2 I2 r1 r2 q2

theorem pe_op {op : Operator} {r : R2} (ho : OpR X (binaryOp op) r) (ha : PE X a ta) (hb : PE X b tb) : PE X (.BinOp a op b pos) (tOp r ta tb) := by
  intro pins s σ H Q I h
  exact wpAny_BinOp (binT ha hb I h fun v u s2 x y H2 I2 rx ry q => ho pins s2 σ H2 x y v u Q I2 rx ry q)
theorem pe_un {op : UnaryOp} {r : V → Hp → VK → Prop} (ho : UnR X (unaryOp op) r) (ha : PE X a ta) : PE X (.UnaryOp op a pos) (tUn r ta) := by
  intro pins s σ H Q I h
  exact UnaryOp_ (thn (ha pins s σ H _ I h) fun v s1 ⟨x, H1, I1, r1, q1⟩ => ho pins s1 σ H1 x v Q I1 r1 q1)

/-! ### ints -/
theorem opI0 {f : Value → Value → Sem Value} {g : Int → Int → Int}
    (rule : ∀ (i j : Int) (t u : Tok) (s : Shared) (Q : Value → Shared → Prop) (E : Value → Shared → Prop), Q (.int (g i j) s.toks) { s with toks := s.toks + 1 } → wpAny (model X.prog X.w) X.A (f (.int i t) (.int j u)) Q E s) :
    OpR X f (rI0 fun i j => .int (g i j)) := by
  intro pins s σ H x y v u Q I rx ry h
  obtain ⟨i, j, rfl, rfl, q⟩ := h
  obtain ⟨t, rfl⟩ := rx
  obtain ⟨t', rfl⟩ := ry
  exact rule i j t t' s _ _ ⟨.int (g i j), H, I.tok _, ⟨_, rfl⟩, q⟩
theorem opB0 {f : Value → Value → Sem Value} {g : Int → Int → Bool}
    (rule : ∀ (i j : Int) (t u : Tok) (s : Shared) (Q : Value → Shared → Prop) (E : Value → Shared → Prop), Q (.bool (g i j)) s → wpAny (model X.prog X.w) X.A (f (.int i t) (.int j u)) Q E s) :
    OpR X f (rI0 fun i j => .bl (g i j)) := by
  intro pins s σ H x y v u Q I rx ry h
  obtain ⟨i, j, rfl, rfl, q⟩ := h
  obtain ⟨t, rfl⟩ := rx
  obtain ⟨t', rfl⟩ := ry
  exact rule i j t t' s _ _ ⟨.bl (g i j), H, I, rfl, q⟩


theorem op_add : OpR X (binaryOp .Add) (rI0 fun i j => .int (i + j)) := opI0 fun _ _ _ _ _ _ _ q => add_int q
theorem op_sub : OpR X (binaryOp .Sub) (rI0 fun i j => .int (i - j)) := opI0 fun _ _ _ _ _ _ _ q => sub_int q


theorem unI {f : Value → Sem Value} {g : Int → Int}
    (rule : ∀ (i : Int) (t : Tok) (s : Shared) (Q : Value → Shared → Prop) (E : Value → Shared → Prop), Q (.int (g i) s.toks) { s with toks := s.toks + 1 } → wpAny (model X.prog X.w) X.A (f (.int i t)) Q E s) :
    UnR X f (rU fun i => .int (g i)) := by
  intro pins s σ H x v Q I rx h
  obtain ⟨i, rfl, q⟩ := h
  obtain ⟨t, rfl⟩ := rx
  exact rule i t s _ _ ⟨.int (g i), H, I.tok _, ⟨_, rfl⟩, q⟩
theorem un_neg : UnR X (unaryOp .USub) (rU fun i => .int (-i)) := unI fun _ _ _ _ _ q => neg_int q

/-! ### bools among ints: n += (a < b) -/
end

/-! ### comparisons -/
/-- the scalars that == tells apart as data does -/
def scal : V → V → Bool
  | .non, .non => true | .non, .int _ => true | .int _, .non => true | .non, .bl _ => true | .bl _, .non => true | .non, .str _ => true | .str _, .non => true
  | .int _, .int _ => true | .bl _, .bl _ => true | .str _, .str _ => true | .byt _, .byt _ => true
  | .int _, .str _ => true | .str _, .int _ => true | .bl _, .str _ => true | .str _, .bl _ => true
  | _, _ => false
def rEq : R2 := fun x y H Q => scal x y = true ∧ Q (.bl (decide (x = y))) H
def rNe : R2 := fun x y H Q => scal x y = true ∧ Q (.bl (!decide (x = y))) H

theorem dec_int {i j : Int} : decide (V.int i = V.int j) = (i == j) := by
  rw [Bool.eq_iff_iff]
  simp
theorem dec_bl {i j : Bool} : decide (V.bl i = V.bl j) = (i == j) := by
  rw [Bool.eq_iff_iff]
  simp
theorem dec_str {i j : Str} : decide (V.str i = V.str j) = (i == j) := by
  rw [Bool.eq_iff_iff]
  simp
theorem dec_byt {i j : Array UInt8} : decide (V.byt i = V.byt j) = (i.toList == j.toList) := by
  rw [Bool.eq_iff_iff]
  cases i
  cases j
  simp

section
variable {X : Cx} {a b c : Expr} {ta tb tc : TE} {pos : Pos}
theorem fin_bl {pins : List (Addr × Obj)} {σ : St} {H : Hp} {s : Shared} {Q : VK} {k k' : Bool} (I : Inv X pins σ H s) (q : Q (.bl k) H) (e : k = k') : EP X pins σ Q (.bool k') s := by
  subst e
  exact ⟨.bl k, H, I, rfl, q⟩
theorem op_eq : OpR X (compareOp .Eq) rEq := by
  intro pins s σ H x y v u Q I rx ry h
  obtain ⟨hs, q⟩ := h
  cases x with
  | non =>
    cases rx
    cases y with
    | non => cases ry; exact PySem.EqNone.eq_none_none (fin_bl I q (by simp))
    | bl j => cases ry; exact PySem.EqNone.eq_none_bool (fin_bl I q (by simp))
    | int j => obtain ⟨t', rfl⟩ := ry; exact PySem.EqNone.eq_none_int (fin_bl I q (by simp))
    | str j => obtain ⟨t', rfl⟩ := ry; exact PySem.EqNone.eq_none_str (fin_bl I q (by simp))
    | _ => exact absurd (show false = true from hs) Bool.false_ne_true
  | bl i =>
    cases rx
    cases y with
    | non => cases ry; exact PySem.EqNone.eq_bool_none (fin_bl I q (by simp))
    | bl j => cases ry; exact eq_bool (fin_bl I q dec_bl)
    | str j => obtain ⟨t', rfl⟩ := ry; exact PySem.EqMixed.eq_bool_str (fin_bl I q (by simp))
    | _ => exact absurd (show false = true from hs) Bool.false_ne_true
  | int i =>
    obtain ⟨t, rfl⟩ := rx
    cases y with
    | non => cases ry; exact PySem.EqNone.eq_int_none (fin_bl I q (by simp))
    | int j => obtain ⟨t', rfl⟩ := ry; exact eq_int (fin_bl I q dec_int)
    | str j => obtain ⟨t', rfl⟩ := ry; exact PySem.EqMixed.eq_int_str (fin_bl I q (by simp))
    | _ => exact absurd (show false = true from hs) Bool.false_ne_true
  | str i =>
    obtain ⟨t, rfl⟩ := rx
    cases y with
    | non => cases ry; exact PySem.EqNone.eq_str_none (fin_bl I q (by simp))
    | bl j => cases ry; exact PySem.EqMixed.eq_str_bool (fin_bl I q (by simp))
    | int j => obtain ⟨t', rfl⟩ := ry; exact PySem.EqMixed.eq_str_int (fin_bl I q (by simp))
    | str j => obtain ⟨t', rfl⟩ := ry; exact eq_str (fin_bl I q dec_str)
    | _ => exact absurd (show false = true from hs) Bool.false_ne_true
  | byt i =>
    obtain ⟨t, rfl⟩ := rx
    cases y with
    | byt j => obtain ⟨t', rfl⟩ := ry; exact PySem.W.eq_bytes (fin_bl I q dec_byt)
    | _ => exact absurd (show false = true from hs) Bool.false_ne_true
  | _ => cases y <;> exact absurd (show false = true from hs) Bool.false_ne_true
theorem op_ne : OpR X (compareOp .NotEq) rNe := by
  intro pins s σ H x y v u Q I rx ry h
  obtain ⟨hs, q⟩ := h
  cases x with
  | non =>
    cases rx
    cases y with
    | non => cases ry; exact PySem.EqNone.ne_none_none (fin_bl I q (by simp))
    | bl j => cases ry; exact PySem.EqNone.ne_none_bool (fin_bl I q (by simp))
    | int j => obtain ⟨t', rfl⟩ := ry; exact PySem.EqNone.ne_none_int (fin_bl I q (by simp))
    | str j => obtain ⟨t', rfl⟩ := ry; exact PySem.EqNone.ne_none_str (fin_bl I q (by simp))
    | _ => exact absurd (show false = true from hs) Bool.false_ne_true
  | bl i =>
    cases rx
    cases y with
    | non => cases ry; exact PySem.EqNone.ne_bool_none (fin_bl I q (by simp))
    | bl j => cases ry; exact ne_bool (fin_bl I q (congrArg not dec_bl))
    | str j => obtain ⟨t', rfl⟩ := ry; exact PySem.EqMixed.ne_bool_str (fin_bl I q (by simp))
    | _ => exact absurd (show false = true from hs) Bool.false_ne_true
  | int i =>
    obtain ⟨t, rfl⟩ := rx
    cases y with
    | non => cases ry; exact PySem.EqNone.ne_int_none (fin_bl I q (by simp))
    | int j => obtain ⟨t', rfl⟩ := ry; exact ne_int (fin_bl I q (congrArg not dec_int))
    | str j => obtain ⟨t', rfl⟩ := ry; exact PySem.EqMixed.ne_int_str (fin_bl I q (by simp))
    | _ => exact absurd (show false = true from hs) Bool.false_ne_true
  | str i =>
    obtain ⟨t, rfl⟩ := rx
    cases y with
    | non => cases ry; exact PySem.EqNone.ne_str_none (fin_bl I q (by simp))
    | bl j => cases ry; exact PySem.EqMixed.ne_str_bool (fin_bl I q (by simp))
    | int j => obtain ⟨t', rfl⟩ := ry; exact PySem.EqMixed.ne_str_int (fin_bl I q (by simp))
    | str j => obtain ⟨t', rfl⟩ := ry; exact ne_str (fin_bl I q (congrArg not dec_str))
    | _ => exact absurd (show false = true from hs) Bool.false_ne_true
  | byt i =>
    obtain ⟨t, rfl⟩ := rx
    cases y with
    | byt j => obtain ⟨t', rfl⟩ := ry; exact PySem.W.ne_bytes (fin_bl I q (congrArg not dec_byt))
    | _ => exact absurd (show false = true from hs) Bool.false_ne_true
  | _ => cases y <;> exact absurd (show false = true from hs) Bool.false_ne_true

theorem op_lt : OpR X (compareOp .Lt) (rI0 fun i j => .bl (decide (i < j))) := opB0 fun _ _ _ _ _ _ _ q => lt_int q
theorem op_le : OpR X (compareOp .LtE) (rI0 fun i j => .bl (decide (i ≤ j))) := opB0 fun _ _ _ _ _ _ _ q => le_int q
theorem op_gt : OpR X (compareOp .Gt) (rI0 fun i j => .bl (decide (j < i))) := opB0 fun _ _ _ _ _ _ _ q => gt_int q




theorem nomark (b : Expr) {op : CmpOp} (h : op ≠ .In := by decide) (h2 : op ≠ .NotIn := by decide) : behindInMarks op b = false := by
  have e1 : (op == CmpOp.In) = false := by cases op <;> first | rfl | exact absurd rfl h
  have e2 : (op == CmpOp.NotIn) = false := by cases op <;> first | rfl | exact absurd rfl h2
  cases b <;> simp [behindInMarks, e1, e2]
/-- a comparison as a value; hm: nomark b, or (for in, not in) by with_unfolding_all rfl -/
theorem pe_cmpR {op : CmpOp} {r : R2} (ho : OpR X (compareOp op) r) (ha : PE X a ta) (hb : PE X b tb) (hm : behindInMarks op b = false) : PE X (.Compare a [op] [b] pos) (tOp r ta tb) := by
  intro pins s σ H Q I h
  exact wpAny_Compare1 (binT ha hb I h fun v u s2 x y H2 I2 rx ry q => ho pins s2 σ H2 x y v u Q I2 rx ry q) hm
/-- a reading of a value as a test -/
def tTest (t : TE) : TT := fun σ H Q => t σ H fun x H' => ∃ k, x = .bl k ∧ Q k H'
theorem pt_cmpR {op : CmpOp} {r : R2} (ho : OpR X (compareOp op) r) (ha : PE X a ta) (hb : PE X b tb) (hm : behindInMarks op b = false) : PT X (.Compare a [op] [b] pos) (tTest (tOp r ta tb)) := by
  intro pins s σ H Q I h
  refine wpAny_isTrue_Compare1 (thn (ha pins s σ H _ I h) fun v s1 ⟨x, H1, I1, r1, q1⟩ => thn (hb pins s1 σ H1 _ I1 q1) fun u s2 ⟨y, H2, I2, r2, q2⟩ =>
    thn (ho pins s2 σ H2 x y v u _ I2 r1 r2 q2) fun c s3 ⟨z, H3, I3, r3, k, e, q3⟩ => ?_) hm
  subst e
  cases r3
  exact wpAny_truthy_bool ⟨H3, I3, q3⟩
/-- a op1 b op2 c -/
def tChain (r r' : R2) (ta tb tc : TE) : TE := fun σ H Q => ta σ H fun x H1 => tb σ H1 fun y H2 => r x y H2 fun z H3 => ∃ k, z = .bl k ∧
  (if k = true then tc σ H3 fun w' H4 => r' y w' H4 Q else Q (.bl false) H3)
theorem pe_chain {op op' : CmpOp} {r r' : R2} (ho : OpR X (compareOp op) r) (ho' : OpR X (compareOp op') r') (ha : PE X a ta) (hb : PE X b tb) (hc : PE X c tc)
    (hm : lastMarks [op, op'] [b, c] = false := by with_unfolding_all rfl) : PE X (.Compare a [op, op'] [b, c] pos) (tChain r r' ta tb tc) := by
  intro pins s σ H Q I h
  refine Compare_chain (thn (ha pins s σ H _ I h) fun v s1 ⟨x, H1, I1, r1, q1⟩ => chain_link (thn (hb pins s1 σ H1 _ I1 q1) fun u s2 ⟨y, H2, I2, r2, q2⟩ =>
    thn (ho pins s2 σ H2 x y v u _ I2 r1 r2 q2) fun d s3 ⟨z, H3, I3, r3, k, e, q3⟩ => ?_)) hm
  subst e
  cases r3
  refine wpAny_truthy_bool ?_
  cases k with
  | false => exact ite_ff ⟨.bl false, H3, I3, rfl, q3⟩
  | true => exact ite_tt (chain_last (thn (hc pins s3 σ H3 _ I3 q3) fun w' s4 ⟨z', H4, I4, r4, q4⟩ => ho' pins s4 σ H4 y z' u w' Q I4 r2 r4 q4))

/-! ### truth -/
theorem line63 : (sizeLine : Nat) < 2 ^ 63 := by rw [sizeLine_eq]; decide

/-! ### strs and bytes -/


/-! ### scalar builtins, by CallR -/
theorem vals1 {x : V} {us : List Value} (r : Vals [x] us) : ∃ u, us = [u] ∧ RelV x u := by
  cases r with
  | cons r1 r2 => cases r2; exact ⟨_, rfl, r1⟩
end
end L2

namespace L2
open PySem PySem.Spec PyProof.Rows

/-! ### an instance, its attributes a map -/
structure ObjM (h : Heap) (x dx C : Addr) (mA : Str → Option Value) : Prop where
  obj : h.get? x = some (PySem.W.instObj C dx)
  ns : h.Ns1 dx mA
  ne : dx ≠ x

theorem lookIn_ns {h : Heap} {dx : Addr} {mA : Str → Option Value} (n : h.Ns1 dx mA) : ∃ od, h.get? dx = some od ∧ ∀ name, PySem.W.lookIn name od = some (mA name) := by
  obtain ⟨o, es, ep, ho, hd, hk, _, hm⟩ := n
  refine ⟨o, ho, fun name => ?_⟩
  have e := hm name
  unfold nsFind findBy at e
  rw [← Array.find?_toList] at e
  unfold PySem.W.lookIn
  rw [hd]
  dsimp only
  split
  · rename_i y q
    rw [q] at e
    exact congrArg some e
  · rename_i q
    rw [q] at e
    have a : es.toList.any (·.refKey) = false := by
      rw [List.any_eq_false]
      intro y hy
      obtain ⟨z, t, hkey⟩ := hk y (Array.mem_toList_iff.mp hy)
      simp [DictEntry.refKey, hkey]
    have a' : ¬ es.toList.any (·.refKey) = true := by rw [a]; exact Bool.false_ne_true
    rw [if_neg a']
    exact congrArg some e

theorem ObjM.look {h : Heap} {x dx C : Addr} {mA : Str → Option Value} (I : ObjM h x dx C mA) : ∃ od, PySem.W.InstAt h x (PySem.W.instObj C dx) C (some od) ∧ ∀ name, PySem.W.lookIn name od = some (mA name) :=
  let ⟨od, ho, hl⟩ := lookIn_ns I.ns
  ⟨od, ⟨I.obj, rfl, rfl, ho⟩, hl⟩

section
variable {prog : Program} {w : World} {A : Around} {E : Value → Shared → Prop} {s : Shared} {K : PySem.W.Frag} {x dx C f : Addr} {mA : Str → Option Value} {name : Str} {v : Value}

theorem get_map {expr : Bool} {Q : Value → Shared → Prop} (X : K.In s.heap) (I : ObjM s.heap x dx C mA) (hg : PySem.W.plainGet K C name = true) (hh : PySem.W.hasDictIn K C = true)
    (ha : PySem.W.findIn K (.ref C) name = some none) (hv : mA name = some v) (hv' : PySem.W.handedIn v = true) (h : Q v { s with toks := s.toks + 1 }) :
    wpAny (model prog w) A (getAttr (.ref x) name expr) Q E s := by
  obtain ⟨od, J, hl⟩ := I.look
  exact PySem.W.get_value X J (PySem.W.plainGet_of hg).1 (PySem.W.findObj_own hh ha rfl (by rw [hl, hv])) hv' h



theorem set_map {ns : List Str} {Q : Unit → Shared → Prop} (X : K.In s.heap) (I : ObjM s.heap x dx C mA)
    (hs : PySem.W.findIn K (.ref C) "__setattr__" = some (some (.builtin "object.__setattr__"))) (hp : PySem.W.plainOver K C = true) (ht : PySem.W.takerIn K C name = some none) (hh : PySem.W.hasDictIn K C = true)
    (hw : PySem.Within mA ns) (hsz : ns.length ≤ sizeLine)
    (h : ∀ h', ObjM h' x dx C (fun y => if y = name then some v else mA y) → Heap.SameBut dx s.heap h' → Q () { s with heap := h', toks := s.toks + 2 }) :
    wpAny (model prog w) A (setAttr (.ref x) name v) Q E s := by
  obtain ⟨od, J, hl⟩ := I.look
  refine PySem.W.set_plain X J hs (PySem.W.osa_open (s := { s with toks := s.toks + 1 }) (r := none) X J hp ht fun b => ?_)
  obtain ⟨cd, hc, hd'⟩ := PySem.W.any_some hh
  have hx : s.heap.get? x = some ⟨.ref C, some dx, .plain, #[]⟩ := I.obj
  refine wpAny_bind (wpAny_pure (wpAny_bind (wpAny_bind (wpAny_loadPart hx (wpAny_bind (PySem.W.Looks.here (s := { s with toks := s.toks + 1 }) (PySem.W.looks_clsIn X hc) ?_))))))
  rw [hd']
  refine wpAny_pure (a := some dx) (wpAny_bind (wpAny_pure (wpAny_bind ?_)))
  refine wpAny_nsSet1 (s := { s with toks := s.toks + 1 }) I.ns fun h' hn2 hs2 => ?_
  obtain ⟨oD, esD, epD, hoD, hdD, hcD⟩ := hn2.count (PySem.Within.cons name v hw)
  refine wpAny_bind (wpAny_lookBehind hoD (by rw [hdD]; exact pastItsLine_dict (Nat.le_trans hcD (by rw [List.length_cons]; omega))) ?_)
  exact wpAny_pure (h _ ⟨(hs2.2 _ (Ne.symm I.ne)).trans I.obj, hn2, I.ne⟩ hs2)

/-- C(..): the dict at the heap's end, the instance behind it; then its __init__ -/
theorem make_map {R : Result → Shared → Prop} {vs : List Value} {kw : List (Str × Value)} (X : K.In s.heap) (hm : PySem.W.makesIn K C = true)
    (hi : PySem.W.findIn K (.ref C) "__init__" = some (some (.ref f))) (hf : PySem.W.typeIn K (.ref f) = some (.type "function"))
    (h : codeAny (model prog w) (A.under (.builtin "type.__call__" ⟨.ref C :: vs, kw⟩)) (.call (.ref f) ⟨.ref (s.heap.objs.size + 1) :: vs, kw⟩) (PySem.W.InitBack (s.heap.objs.size + 1) R)
      { s with heap := (s.heap.push PySem.W.emptyDict).push (PySem.W.instObj C s.heap.objs.size) }) :
    codeAny (model prog w) A (.call (.ref C) ⟨vs, kw⟩) R s := by
  obtain ⟨hh, g, d, t, os⟩ := s
  exact PySem.W.make_core (PySem.W.makes_of X hm) (PySem.W.looks_findIn X hi) (fun self => PySem.W.bind_fn X self hf) (.inl rfl) h
end

/-! ### the attributes as a list of pairs -/
def putF (f : Str) (v : V) : List (Str × V) → List (Str × V)
  | [] => [(f, v)]
  | (g, x) :: r => if g = f then (g, v) :: r else (g, x) :: putF f v r
theorem lookup_putF (f g : Str) (v : V) : ∀ fs : List (Str × V), (putF f v fs).lookup g = if g = f then some v else fs.lookup g
  | [] => by
    show List.lookup g [(f, v)] = _
    by_cases h : g = f
    · have hb : (g == f) = true := beq_iff_eq.mpr h
      simp only [List.lookup, hb, if_pos h]
    · have hb : (g == f) = false := beq_eq_false_iff_ne.mpr h
      simp only [List.lookup, hb, if_neg h]
  | (k, x) :: r => by
    have ih := lookup_putF f g v r
    rw [show putF f v ((k, x) :: r) = (if k = f then (k, v) :: r else (k, x) :: putF f v r) from rfl]
    by_cases hk : k = f
    · rw [if_pos hk]
      by_cases h : g = k
      · have hb : (g == k) = true := beq_iff_eq.mpr h
        simp only [List.lookup, hb, if_pos (h.trans hk)]
      · have hb : (g == k) = false := beq_eq_false_iff_ne.mpr h
        simp only [List.lookup, hb, if_neg (fun e : g = f => h (e.trans hk.symm))]
    · rw [if_neg hk]
      by_cases h : g = k
      · have hb : (g == k) = true := beq_iff_eq.mpr h
        simp only [List.lookup, hb, if_neg (fun e : g = f => hk (h.symm.trans e))]
      · have hb : (g == k) = false := beq_eq_false_iff_ne.mpr h
        simp only [List.lookup, hb]
        exact ih
theorem keys_putF (f : Str) (v : V) : ∀ fs : List (Str × V), f ∈ (putF f v fs).map (·.1) ∧ ∀ g, g ∈ fs.map (·.1) → g ∈ (putF f v fs).map (·.1)
  | [] => ⟨by simp [putF], fun g h => by simp at h⟩
  | (k, x) :: r => by
    obtain ⟨i1, i2⟩ := keys_putF f v r
    rw [show putF f v ((k, x) :: r) = (if k = f then (k, v) :: r else (k, x) :: putF f v r) from rfl]
    by_cases hk : k = f
    · rw [if_pos hk]
      subst hk
      exact ⟨by simp, fun g h => by simpa using h⟩
    · rw [if_neg hk]
      refine ⟨?_, fun g h => ?_⟩
      · rw [List.map_cons]
        exact List.mem_cons_of_mem _ i1
      · rw [List.map_cons] at h ⊢
        rcases List.mem_cons.mp h with e | e
        · exact List.mem_cons.mpr (.inl e)
        · exact List.mem_cons_of_mem _ (i2 g e)
theorem length_putF (f : Str) (v : V) : ∀ fs : List (Str × V), (putF f v fs).length ≤ fs.length + 1
  | [] => by simp [putF]
  | (k, x) :: r => by
    have ih := length_putF f v r
    rw [show putF f v ((k, x) :: r) = (if k = f then (k, v) :: r else (k, x) :: putF f v r) from rfl]
    by_cases hk : k = f
    · rw [if_pos hk, List.length_cons, List.length_cons]; omega
    · rw [if_neg hk, List.length_cons, List.length_cons]; omega

theorem RelO.some_of {v : V} {o : Option Value} (r : RelO (some v) o) : ∃ u, o = some u ∧ RelV v u := by
  cases o with
  | none => exact (show False from r).elim
  | some u => exact ⟨u, rfl, r⟩
theorem handed_of {v : V} {u : Value} (r : RelV v u) : PySem.W.handedIn u = true := by
  cases v with
  | non => cases (show u = Value.none from r); rfl
  | bl b => cases (show u = Value.bool b from r); rfl
  | int i => obtain ⟨t, e⟩ := (show ∃ t, u = Value.int i t from r); cases e; rfl
  | str x => obtain ⟨t, e⟩ := (show ∃ t, u = Value.str x t from r); cases e; rfl
  | byt b => obtain ⟨t, e⟩ := (show ∃ t, u = Value.bytes b t from r); cases e; rfl
  | flt b => obtain ⟨t, e⟩ := (show ∃ t, u = Value.float b t from r); cases e; rfl
  | ref a => cases (show u = Value.ref a from r); rfl
  | ty n => cases (show u = Value.type n from r); rfl

section
variable {P : Program} {w : World} {H H' : Hp} {h h' : Heap} {a C dx : Addr} {fs fs' : List (Str × V)}
theorem ins_get (hok : HOk P w H h) (e : H a = some (.ins C dx fs)) : ∃ mA, ObjM h a dx C mA ∧ (∀ f, RelO (fs.lookup f) (mA f)) ∧ PySem.Within mA (fs.map (·.1)) ∧ fs.length ≤ 1000 ∧ H dx = some (.own a) := by
  obtain ⟨d, z, ne, ob, mA, n, r, q⟩ := (show ObjOk P w H h a (.ins C dx fs) from hok a _ e)
  exact ⟨mA, ⟨ob, n, ne⟩, r, q, z, d⟩
end

/-! ### what of the text a class must have -/
structure Cls (K : PySem.W.Frag) (C : Addr) : Prop where
  pg : PySem.W.plainGet K C Str.empty = true
  hd : PySem.W.hasDictIn K C = true
  po : PySem.W.plainOver K C = true
  sa : PySem.W.findIn K (.ref C) "__setattr__" = some (some (.builtin "object.__setattr__"))
theorem Cls.get {K : PySem.W.Frag} {C : Addr} (c : Cls K C) (f : Str) : PySem.W.plainGet K C f = true := c.pg
/-- no class of it has the name -/
def NoAttr (K : PySem.W.Frag) (C : Addr) (f : Str) : Prop := PySem.W.findIn K (.ref C) f = some none
theorem NoAttr.taker {K : PySem.W.Frag} {C : Addr} {f : Str} (n : NoAttr K C f) : PySem.W.takerIn K C f = some none := by
  unfold PySem.W.takerIn
  rw [show PySem.W.findIn K (.ref C) f = some none from n]
  rfl

section
variable {X : Cx} {pins : List (Addr × Obj)} {σ : St} {H : Hp} {s : Shared} {a C dx : Addr} {fs : List (Str × V)} {f : Str} {v : V} {A : Around} {E : Value → Shared → Prop}

theorem getattr_ok {b : Bool} {Q : Value → Shared → Prop} (I : Inv X pins σ H s) (e : H a = some (.ins C dx fs)) (c : Cls X.K C) (n : NoAttr X.K C f) (l : fs.lookup f = some v)
    (h : ∀ u s', Inv X pins σ H s' → RelV v u → Q u s') : wpAny (model X.prog X.w) A (getAttr (.ref a) f b) Q E s := by
  obtain ⟨mA, O, r, _, _, _⟩ := ins_get I.hok e
  obtain ⟨u, hu, ru⟩ := RelO.some_of (v := v) (o := mA f) (by rw [← l]; exact r f)
  exact get_map I.kIn O (c.get f) c.hd n hu (handed_of ru) (h u _ (I.tok _) ru)



theorem setattr_ok {y : V} {u : Value} {Q : Unit → Shared → Prop} (I : Inv X pins σ H s) (e : H a = some (.ins C dx fs)) (c : Cls X.K C) (n : NoAttr X.K C f) (hl : fs.length < 1000) (ry : RelV y u)
    (h : ∀ s', Inv X pins σ (upd H a (.ins C dx (putF f y fs))) s' → Q () s') : wpAny (model X.prog X.w) A (setAttr (.ref a) f u) Q E s := by
  obtain ⟨mA, O, r, wi, _, ho⟩ := ins_get I.hok e
  have hz : (fs.map (·.1)).length ≤ sizeLine := by rw [List.length_map, sizeLine_eq]; omega
  refine set_map I.kIn O c.sa c.po n.taker c.hd wi hz fun h' O' sb => h _ ?_
  have hd : ∃ o, h'.get? dx = some o := let ⟨o, _, _, e', _⟩ := O'.ns; ⟨o, e'⟩
  refine I.write (x := a) (e := dx) (by rw [e]; exact True.intro) (.inr ho) (fun b q hb z => (sb.2 b hb).trans z) hd ?_
  refine ⟨by rw [upd_ne O.ne]; exact ho, ?_, O.ne, O'.obj, _, O'.ns, fun g => ?_, fun g hg => ?_⟩
  · have := length_putF f y fs; omega
  · show RelO ((putF f y fs).lookup g) (if g = f then some u else mA g)
    rw [lookup_putF]
    by_cases q : g = f
    · rw [if_pos q, if_pos q]; exact ry
    · rw [if_neg q, if_neg q]; exact r g
  · by_cases q : g = f
    · rw [q]; exact (keys_putF f y fs).1
    · refine (keys_putF f y fs).2 g (wi g fun z => hg ?_)
      show (if g = f then some u else mA g) = none
      rw [if_neg q]; exact z

/-- a new instance, tracked, without attributes -/
theorem Inv.made (I : Inv X pins σ H s) : Inv X pins σ (upd (upd H s.heap.objs.size (.own (s.heap.objs.size + 1))) (s.heap.objs.size + 1) (.ins C s.heap.objs.size []))
    { s with heap := (s.heap.push PySem.W.emptyDict).push (PySem.W.instObj C s.heap.objs.size) } := by
  have e1 : (s.heap.push PySem.W.emptyDict).get? s.heap.objs.size = some PySem.W.emptyDict := Heap.get?_push_size s.heap rfl
  have e2 : ((s.heap.push PySem.W.emptyDict).push (PySem.W.instObj C s.heap.objs.size)).get? (s.heap.objs.size + 1) = some (PySem.W.instObj C s.heap.objs.size) := by
    have := Heap.get?_push_size (s.heap.push PySem.W.emptyDict) (o := PySem.W.instObj C s.heap.objs.size) rfl
    rwa [Heap.size_push] at this
  have e3 : (s.heap.push PySem.W.emptyDict).Ns s.heap.objs.size (fun _ => none) := ⟨PySem.W.emptyDict, #[], _, e1, rfl, (fun e he => absurd he (by simp)), fun _ => rfl⟩
  have I1 := I.laid (a := s.heap.objs.size) (o := .own (s.heap.objs.size + 1)) (h' := s.heap.push PySem.W.emptyDict) (t' := s.toks) (fun b u q => Heap.get?_push_of_some _ q) (Nat.le_refl _) ⟨_, e1⟩
  refine I1.laid (a := s.heap.objs.size + 1) (o := .ins C s.heap.objs.size []) (t' := s.toks) (fun b u q => Heap.get?_push_of_some _ q) (Nat.le_of_eq (Heap.size_push _ _)) ?_
  have ne : s.heap.objs.size ≠ s.heap.objs.size + 1 := Nat.ne_of_lt (Nat.lt_succ_self _)
  refine ⟨by rw [upd_ne ne, upd_same], Nat.zero_le _, ne, e2, fun _ => none, (Heap.Ns1.of_empty e3).at fun o q => Heap.get?_push_of_some _ q, fun _ => True.intro, fun y hy => absurd rfl hy⟩

/-- e.f where nothing but the object is asked: through attributeBase (super) and the last hold -/
theorem attr_of {prog : Program} {w : World} {env : Env} {e : Expr} {f : Str} {pos : Pos} {s : Shared} {Q : Value → Shared → Prop} (hb : attributeBase e f env (eval e env) = eval e env)
    (h : wpAny (model prog w) A (eval e env) (fun o s₁ => wpAny (model prog w) A (getAttr o f true) Q E s₁) E s) : wpAny (model prog w) A (eval (.Attribute e f pos) env) Q E s :=
  Attribute_any_ h (by rw [arm_eval_Attribute, hb])
end

/-! ### readings and rules -/
/-- e.f, an attribute of the instance -/
def tFld (K : PySem.W.Frag) (ta : TE) (f : Str) : TE := fun σ H Q => ta σ H fun x H1 => ∃ a C dx fs v, x = .ref a ∧ H1 a = some (.ins C dx fs) ∧ Cls K C ∧ NoAttr K C f ∧ fs.lookup f = some v ∧ Q v H1
/-- e.f = value -/
def sFld (K : PySem.W.Frag) (ta tv : TE) (f : Str) : TS := fun D σ H => tv σ H fun y H1 => ta σ H1 fun x H2 => ∃ a C dx fs, x = .ref a ∧ H2 a = some (.ins C dx fs) ∧ Cls K C ∧ NoAttr K C f ∧ fs.length < 1000 ∧
  D.nx σ (upd H2 a (.ins C dx (putF f y fs)))

section
variable {X : Cx} {o e value : Expr} {f : Str} {pos pos' tpos : Pos} {ta tv : TE}
theorem pe_fld (he : PE X e ta) (hb : attributeBase e f X.env (eval e X.env) = eval e X.env) : PE X (.Attribute e f pos) (tFld X.K ta f) := by
  intro pins s σ H Q I h
  refine attr_of hb (thn (he pins s σ H _ I h) fun u s1 ⟨x, H1, I1, rx, a, C, dx, fs, v, ex, ea, c, n, l, q⟩ => ?_)
  subst ex
  obtain rfl : u = Value.ref a := rx
  exact getattr_ok I1 ea c n l fun u' s2 I2 ru => ⟨v, H1, I2, ru, q⟩
theorem ps_fld (ha : PE X o ta) (hv : PE X value tv) (hs : swapsWith value (some (.Attribute o f pos')) pos.line X.env = pure false) : PS X (.Assign [.Attribute o f pos'] value pos) (sFld X.K ta tv f) := by
  intro pins s σ H D I h
  refine plainObj_wpAny_Assign_Attribute (thn (hv pins s σ H _ I h) fun u s1 ⟨y, H1, I1, ry, q⟩ => thn (ha pins s1 σ H1 _ I1 q) fun ov s2 ⟨x, H2, I2, rx, a, C, dx, fs, ex, ea, c, n, l, q2⟩ => ?_) hs
  subst ex
  obtain rfl : ov = Value.ref a := rx
  exact setattr_ok I2 ea c n l ry fun s3 I3 => ⟨σ, _, I3, q2⟩

end

/-! ### isinstance -/
section
variable {X : Cx} {pins : List (Addr × Obj)} {σ : St} {H : Hp} {s : Shared} {A : Around} {E : Value → Shared → Prop} {Q : Value → Shared → Prop} {c : Value} {b : Bool}
end
end L2

namespace L2
open PySem PySem.Spec PyProof.Rows

/-! ### room -/
structure Room (k : Nat) (A : Around) : Prop where
  hd : A.handled = none
  dp : A.depth + 3 * k + 5 < recursionLimit
  un : A.units + 16 * k + 200 < cLine
theorem Room.mono {j k : Nat} {A : Around} (r : Room k A) (h : j ≤ k) : Room j A := ⟨r.hd, by have := r.dp; omega, by have := r.un; omega⟩
theorem Room.deeper {k : Nat} {A : Around} (r : Room (k + 1) A) (env : Env) : Room k (A.deeper env) :=
  ⟨r.hd, by have := r.dp; show A.depth + 1 + 3 * k + 5 < _; omega, by have := r.un; show A.units + 3 + 16 * k + 200 < _; omega⟩
theorem make_depth {A : Around} {C : Addr} {us : List Value} {kw : List (Str × Value)} : (A.under (.builtin "type.__call__" ⟨.ref C :: us, kw⟩)).depth = A.depth + 1 := by
  first | rfl | simp [Around.under, Code.weight, Code.isCreation, Code.isGuard, Code.isCaller, Code.frames, Code.isFrame, guardIds]
theorem make_units {A : Around} {C : Addr} {us : List Value} {kw : List (Str × Value)} : (A.under (.builtin "type.__call__" ⟨.ref C :: us, kw⟩)).units = A.units + 1 := by
  first | rfl | simp [Around.under, Code.cUnits, Code.frames, Code.isFrame]
theorem Room.make {k : Nat} {A : Around} (r : Room (k + 1) A) (C : Addr) (us : List Value) (kw : List (Str × Value)) : Room k (A.under (.builtin "type.__call__" ⟨.ref C :: us, kw⟩)) :=
  ⟨r.hd, by have := r.dp; rw [make_depth]; omega, by have := r.un; rw [make_units]; omega⟩
theorem Room.depth {k : Nat} {A : Around} (r : Room k A) : A.depth < recursionLimit := by have := r.dp; omega
theorem Room.units {k : Nat} {A : Around} (r : Room k A) : A.units + 64 < cLine := by have := r.un; omega

/-! ### argument lists and displays -/
def tNil : TA := fun _ H Q => Q [] H
def tCons (ta : TE) (tr : TA) : TA := fun σ H Q => ta σ H fun x H1 => tr σ H1 fun xs H2 => Q (x :: xs) H2
section
variable {X : Cx} {e : Expr} {es : List Expr} {te : TE} {t : TA} {pos : Pos}
theorem pa_nil : PA X [] tNil := fun _ _ _ _ H Q I h => Calls.spliced_nil ⟨[], H, I, .nil, h⟩
theorem pa_cons (ha : PE X e te) (hr : PA X es t) (hs : starEach (e :: es) X.env = (false, eval e X.env) :: starEach es X.env := by rfl) : PA X (e :: es) (tCons te t) := by
  intro pos pins s σ H Q I h
  rw [hs]
  show wpAny _ _ (spliced ((false, eval e X.env) :: backTo pos (starEach es X.env))) _ _ s
  refine Calls.spliced_cons (thn (ha pins s σ H _ I h) fun u s1 ⟨x, H1, I1, r1, q1⟩ => ?_)
  exact thn (hr pos pins s1 σ H1 _ I1 q1) fun us s2 ⟨xs, H2, I2, r2, q2⟩ => ⟨x :: xs, H2, I2, .cons r1 r2, q2⟩

/-- a tuple, a list of written items -/
def tTup (t : TA) : TE := fun σ H Q => t σ H fun xs H1 => xs.length ≤ sizeLine ∧ ∀ p, H1 p = none → Q (.ref p) (upd H1 p (.tup xs))
def tLst (t : TA) : TE := fun σ H Q => t σ H fun xs H1 => xs.length ≤ sizeLine ∧ ∀ p, H1 p = none → Q (.ref p) (upd H1 p (.lst xs))
theorem pe_tup {x1} (h : PA X es t) : PE X (.Tuple es x1 pos) (tTup t) := by
  intro pins s σ H Q I hq
  refine wpAny_Tuple_spliced (thn (h pos pins s σ H _ I hq) fun us s1 ⟨xs, H1, I1, r, z, q⟩ => ⟨by rw [← r.length]; exact z, ?_⟩)
  have hf : H1 s1.heap.objs.size = none := I1.hok.fresh (Nat.le_refl _)
  refine ⟨.ref s1.heap.objs.size, upd H1 s1.heap.objs.size (.tup xs), I1.laid (t' := s1.toks) (fun b u e => Heap.get?_push_of_some _ e) (Nat.le_refl _) ?_, rfl, q _ hf⟩
  exact ⟨z, us, r, ⟨_, Heap.get?_push_size _ rfl, rfl, _, rfl⟩⟩
theorem pe_lst (h : PA X es t) : PE X (.List es pos) (tLst t) := by
  intro pins s σ H Q I hq
  refine wpAny_List_spliced (thn (h pos pins s σ H _ I hq) fun us s1 ⟨xs, H1, I1, r, z, q⟩ => ⟨by rw [← r.length]; exact z, ?_⟩)
  have hf : H1 s1.heap.objs.size = none := I1.hok.fresh (Nat.le_refl _)
  refine ⟨.ref s1.heap.objs.size, upd H1 s1.heap.objs.size (.lst xs), I1.laid (t' := s1.toks) (fun b u e => Heap.get?_push_of_some _ e) (Nat.le_refl _) ?_, rfl, q _ hf⟩
  exact ⟨z, us, 0, r, Heap.get?_push_size _ rfl⟩
end

/-! ### what a def promises -/
/-- a def's promise: the bound arguments in the parameters' order, the heap, the wanted end, the wanted exception -/
abbrev Sp := List V → Hp → VK → XK → Prop
/-- how an exception lies behind a call (file 08 gives it): the callers' frames, abstract heap and state ahead of the call, the wish, the exception, the state -/
abbrev CXT := List Env → Hp → Shared → XK → Value → Shared → Prop

/-- the state at a call -/
structure Env0 (P : Program) (w : World) (K : PySem.W.Frag) (mg : Str → Option Value) (base : Heap) (A : Around) (outer : List Env) (s : Shared) (H : Hp) : Prop where
  frames : A.frames = some outer
  mod : Mod K mg base
  bs : ∀ b o, base.get? b = some o → s.heap.get? b = some o ∧ H b = none
  bsz : base.objs.size ≤ s.heap.objs.size
  funs : s.heap.FunFrames base outer
  frf : ∀ b ∈ frs outer, H b = none
  hok : HOk P w H s.heap
  bare : AllBare s.gens
/-- a call's end -/
def CE (outer : List Env) (P : Program) (w : World) (H : Hp) (s : Shared) (Q : VK) (u : Value) (s' : Shared) : Prop :=
  ∃ v H', s'.os = s.os ∧ AllBare s'.gens ∧ Un (frs outer) [] H H' s.heap s'.heap ∧ HOk P w H' s'.heap ∧ RelV v u ∧ Q v H'
def CR (CX : CXT) (outer : List Env) (P : Program) (w : World) (H : Hp) (s : Shared) (Q : VK) (E : XK) (r : Result) (s' : Shared) : Prop :=
  match r with
  | .ok (.ret u) => CE outer P w H s Q u s'
  | .ok _ => False
  | .error e => CX outer H s E e s'
structure FnOk (P : Program) (w : World) (K : PySem.W.Frag) (mg : Str → Option Value) (base : Heap) (CX : CXT) (k : Nat) (f : Addr) (fd : FuncData) (ps : List Str) (sp : Sp) : Prop where
  len : ∀ vs H Q E, sp vs H Q E → vs.length = ps.length
  run : ∀ (A : Around) (outer : List Env) (s : Shared) (H : Hp) (args : Args) (us : List Value) (vs : List V) (Q : VK) (E : XK), Room k A → Env0 P w K mg base A outer s H → BindsTo s fd args (ps.zip us) → Vals vs us → sp vs H Q E →
    codeAny (model P w) A (.call (.ref f) args) (CR CX outer P w H s Q E) s

theorem Env0.make {P : Program} {w : World} {K : PySem.W.Frag} {mg : Str → Option Value} {base : Heap} {A : Around} {outer : List Env} {s : Shared} {H : Hp} (e : Env0 P w K mg base A outer s H) (C : Addr) (us : List Value) (kw : List (Str × Value)) :
    Env0 P w K mg base (A.under (.builtin "type.__call__" ⟨.ref C :: us, kw⟩)) outer s H := ⟨by first | exact e.frames | (simpa [Around.under, Code.envs, Code.isFrame, pushEnvs] using e.frames), e.mod, e.bs, e.bsz, e.funs, e.frf, e.hok, e.bare⟩

section
variable {X : Cx} {pins : List (Addr × Obj)} {σ : St} {H : Hp} {s s' : Shared}
/-- from a body: what a callee wants -/
theorem Inv.env0 (I : Inv X pins σ H s) : Env0 X.prog X.w X.K X.mg X.base X.A X.stack s H :=
  ⟨I.ok.frames, I.ok.mod, I.bs, Nat.le_trans I.ok.bsz I.sz, I.stack, I.stkFree, I.hok, I.bare⟩
/-- behind a call -/
theorem Inv.after {Q : VK} {u : Value} (I : Inv X pins σ H s) (h : CE X.stack X.prog X.w H s Q u s') : EP X pins σ Q u s' := by
  obtain ⟨v, H', os, bare, un, hok, r, q⟩ := h
  obtain ⟨hh, g, d, t, os'⟩ := s'
  obtain rfl : os' = s.os := os
  exact ⟨v, H', I.call (h' := hh) (g' := g) (d' := d) (t' := t) (ch := []) un hok bare (fun b z => absurd z (by simp)), r, q⟩
end

/-! ### calls -/
/-- f(..): the written arguments, then the defaults dvs; E: what is wanted of an exception -/
def tCall (sp : Sp) (dvs : List V) (E : XK) (t : TA) : TE := fun σ H Q => t σ H fun vs H1 => sp (vs ++ dvs) H1 Q E
/-- C(..): a new instance and its dict, then __init__ -/
def tMake (C : Addr) (sp : Sp) (dvs : List V) (E : XK) (t : TA) : TE := fun σ H Q => t σ H fun vs H1 => ∀ x dx, H1 x = none → H1 dx = none → dx ≠ x →
  sp (.ref x :: (vs ++ dvs)) (upd (upd H1 dx (.own x)) x (.ins C dx [])) (fun v H2 => v = .non ∧ Q (.ref x) H2) E

/-- how the parameters are bound: us the positional arguments, kw the keywords' values by name, ds the defaults that fill up -/
def Binds (K : PySem.W.Frag) (fd : FuncData) (ps : List Str) (ds : List Value) : Prop :=
  ∀ (s : Shared) (us : List Value), K.In s.heap → (us ++ ds).length = ps.length → BindsTo s fd ⟨us, []⟩ (ps.zip (us ++ ds))
/-- every parameter is given -/
theorem Binds.all {K : PySem.W.Frag} {fd : FuncData} {ps : List Str} (h : ∀ us : List Value, us.length = ps.length → bindArgs fd ⟨us, []⟩ = pure (ps.zip us)) : Binds K fd ps [] := fun s us _ hl => by
  rw [List.append_nil] at hl ⊢
  exact .of_eq (h us hl)

/-- an exception of a callee reaches what this body wants of exceptions -/
def Passes (CX : CXT) (X : Cx) (E : XK) : Prop := ∀ (pins : List (Addr × Obj)) (σ : St) (H : Hp) (s : Shared) (e : Value) (s' : Shared), Inv X pins σ H s → CX X.stack H s E e s' → X.xe e s'

section
variable {X : Cx} {CX : CXT} {k : Nat} {f C : Addr} {fd : FuncData} {ps : List Str} {sp : Sp} {dvs : List V} {ds : List Value} {E : XK} {x m : Str} {p pos apos : Pos} {e o : Expr} {es : List Expr} {ta : TE} {t : TA}

/-- the callee runs -/
theorem run_fn {pins : List (Addr × Obj)} {σ : St} {H : Hp} {s : Shared} {Q : VK} {us : List Value} {vs : List V} (F : FnOk X.prog X.w X.K X.mg X.base CX k f fd ps sp) (hr : Room k X.A) (hb : Binds X.K fd ps ds) (hd : Vals dvs ds) (hx : Passes CX X E)
    (I : Inv X pins σ H s) (r : Vals vs us) (h : sp (vs ++ dvs) H Q E) : wpAny (model X.prog X.w) X.A (call (.ref f) us) (EP X pins σ Q) X.xe s := by
  have r2 : Vals (vs ++ dvs) (us ++ ds) := r.append hd
  have hl : (us ++ ds).length = ps.length := by rw [← r2.length]; exact F.len _ _ _ _ h
  refine wpAny_call (codeAny_mono (F.run X.A X.stack s H ⟨us, []⟩ (us ++ ds) (vs ++ dvs) Q E hr I.env0 (hb s us I.kIn hl) r2 h) fun r s' hq => ?_)
  cases r with
  | error e => exact hx pins σ H s e s' I hq
  | ok fl =>
    cases fl with
    | ret u => exact I.after hq
    | next => exact False.elim hq
    | brk => exact False.elim hq
    | cont => exact False.elim hq

theorem pe_call (F : FnOk X.prog X.w X.K X.mg X.base CX k f fd ps sp) (hr : Room k X.A) (hg : Gl X x) (hm : X.mg x = some (.ref f)) (hk : PySem.W.keepIn X.K (.ref f) = true) (hb : Binds X.K fd ps ds) (hd : Vals dvs ds) (hx : Passes CX X E)
    (ha : PA X (e :: es) t) (hdb : (x == ("__debug__" : Str)) = false := by decide) (he : starEach (e :: es) X.env = (false, eval e X.env) :: starEach es X.env := by rfl) (hpl : (backTo pos (starEach es X.env)).any (·.1) = false := by rfl) :
    PE X (.Call (.Name x p) (e :: es) [] pos) (tCall sp dvs E t) := by
  intro pins s σ H Q I h
  refine wpAny_Call_Name_kw (ld_glob I hg hm ?_ hdb)
  refine PySem.W.callWith_K (h₀ := X.base) I.ok.mod.kin hk (thn (ha pos pins s σ H _ I h) fun us s1 ⟨vs, H1, I1, r, q⟩ => ⟨I1.kIn, ?_⟩) he hpl
  exact run_fn F hr hb hd hx I1 r q


/-- what a class must have to be made -/
structure Mk (K : PySem.W.Frag) (C f : Addr) : Prop where
  makes : PySem.W.makesIn K C = true
  init : PySem.W.findIn K (.ref C) "__init__" = some (some (.ref f))
  fn : PySem.W.isFn K (.ref f) = true
  kp : PySem.W.keepIn K (.ref C) = true

theorem run_make {pins : List (Addr × Obj)} {σ : St} {H : Hp} {s : Shared} {Q : VK} {us : List Value} {vs : List V} (M : Mk X.K C f) (F : FnOk X.prog X.w X.K X.mg X.base CX k f fd ps sp) (hr : Room (k + 1) X.A) (hb : Binds X.K fd ps ds) (hd : Vals dvs ds)
    (hx : Passes CX X E) (I : Inv X pins σ H s) (r : Vals vs us)
    (h : ∀ x dx, H x = none → H dx = none → dx ≠ x → sp (.ref x :: (vs ++ dvs)) (upd (upd H dx (.own x)) x (.ins C dx [])) (fun v H2 => v = .non ∧ Q (.ref x) H2) E) :
    wpAny (model X.prog X.w) X.A (call (.ref C) us) (EP X pins σ Q) X.xe s := by
  have hq := h (s.heap.objs.size + 1) s.heap.objs.size (I.hok.fresh (Nat.le_succ _)) (I.hok.fresh (Nat.le_refl _)) (Nat.ne_of_lt (Nat.lt_succ_self _))
  have I2 := Inv.made (C := C) I
  have r2 : Vals (V.ref (s.heap.objs.size + 1) :: (vs ++ dvs)) (Value.ref (s.heap.objs.size + 1) :: (us ++ ds)) := .cons rfl (r.append hd)
  have hl : (Value.ref (s.heap.objs.size + 1) :: us ++ ds).length = ps.length := by
    have e := r2.length
    rw [F.len _ _ _ _ hq] at e
    exact e.symm
  refine wpAny_call (make_map (f := f) I.kIn M.makes M.init (beq_iff_eq.mp M.fn) (codeAny_mono (F.run _ X.stack _ _ ⟨Value.ref (s.heap.objs.size + 1) :: us, []⟩ (Value.ref (s.heap.objs.size + 1) :: (us ++ ds)) _ _ E (hr.make C us [])
    (I2.env0.make C us []) (hb _ (Value.ref (s.heap.objs.size + 1) :: us) I2.kIn hl) r2 hq) fun r s' hq' => ?_))
  cases r with
  | error e => exact hx pins σ _ _ e s' I2 hq'
  | ok fl =>
    cases fl with
    | ret u =>
      obtain ⟨v, H', I3, rv, ev, q3⟩ := I2.after hq'
      subst ev
      exact ⟨rv, ⟨V.ref (s.heap.objs.size + 1), H', I3, rfl, q3⟩⟩
    | next => exact False.elim hq'
    | brk => exact False.elim hq'
    | cont => exact False.elim hq'
theorem pe_make (M : Mk X.K C f) (F : FnOk X.prog X.w X.K X.mg X.base CX k f fd ps sp) (hr : Room (k + 1) X.A) (hg : Gl X x) (hm : X.mg x = some (.ref C)) (hb : Binds X.K fd ps ds) (hd : Vals dvs ds) (hx : Passes CX X E)
    (ha : PA X (e :: es) t) (hdb : (x == ("__debug__" : Str)) = false := by decide) (he : starEach (e :: es) X.env = (false, eval e X.env) :: starEach es X.env := by rfl) (hpl : (backTo pos (starEach es X.env)).any (·.1) = false := by rfl) :
    PE X (.Call (.Name x p) (e :: es) [] pos) (tMake C sp dvs E t) := by
  intro pins s σ H Q I h
  refine wpAny_Call_Name_kw (ld_glob I hg hm ?_ hdb)
  refine PySem.W.callWith_K (h₀ := X.base) I.ok.mod.kin M.kp (thn (ha pos pins s σ H _ I h) fun us s1 ⟨vs, H1, I1, r, q⟩ => ⟨I1.kIn, ?_⟩) he hpl
  exact run_make M F hr hb hd hx I1 r q
end

/-! ### keywords -/
section
variable {X : Cx} {CX : CXT} {k : Nat} {f C : Addr} {fd : FuncData} {ps ks : List Str} {sp : Sp} {E : XK} {x m : Str} {p pos apos kpos : Pos} {e o : Expr} {es : List Expr} {kws : List Keyword} {te ta : TE} {t tk : TA} {nm : Option Str}

variable {g : List Value → List Value → List Value} {gV : List V → List V → List V}
end

/-! ### a def's body keeps its promise -/
/-- names: the parameters first -/
structure FnScope (N P : List Str) (sc : Scope) : Prop where
  kind : sc.kind = .function
  co : sc.isCoroutine = false
  gen : sc.isGenerator = false
  nd : N.Nodup
  pre : N.take P.length = P
  par : ∀ x ∈ P, sc.names.lookup x = some .local ∨ sc.names.lookup x = some .cell
  nofree : ∀ y ∈ sc.names, y.2 ≠ .free

theorem bindL_out {kindOf : Str → Option NameKind} {x : Str} : ∀ {binds : List (Str × Value)} {m : Str → Option Value}, (∀ v, (x, v) ∉ binds) → bindL kindOf binds m x = m x
  | [], _, _ => rfl
  | (n, v) :: r, m, h => by
    unfold bindL
    rw [bindL_out fun w hw => h w (List.mem_cons_of_mem _ hw)]
    split
    · have : x ≠ n := by rintro rfl; exact h v List.mem_cons_self
      simp [this]
    · rfl
theorem bindC_out {kindOf : Str → Option NameKind} {x : Str} : ∀ {binds : List (Str × Value)} {m : Str → Option Value}, (∀ v, (x, v) ∉ binds) → bindC kindOf binds m x = m x
  | [], _, _ => rfl
  | (n, v) :: r, m, h => by
    unfold bindC
    rw [bindC_out fun w hw => h w (List.mem_cons_of_mem _ hw)]
    split
    · rfl
    · have : x ≠ n := by rintro rfl; exact h v List.mem_cons_self
      simp [this]
theorem bindL_get {kindOf : Str → Option NameKind} {x : Str} {v : Value} : ∀ {P : List Str} {vs : List Value} {i : Nat} {m : Str → Option Value}, P.Nodup → P[i]? = some x → vs[i]? = some v → kindOf x = some .local →
    bindL kindOf (P.zip vs) m x = some v
  | [], _, _, _, _, h, _, _ => by simp at h
  | _ :: _, [], _, _, _, _, h, _ => by simp at h
  | p :: P, w :: vs, 0, m, nd, h1, h2, hk => by
    simp at h1 h2; subst h1; subst h2
    show bindL kindOf ((p, w) :: P.zip vs) m p = _
    unfold bindL
    rw [bindL_out fun v hv => (List.nodup_cons.mp nd).1 (List.of_mem_zip hv).1, if_pos hk]
    simp
  | p :: P, w :: vs, i + 1, m, nd, h1, h2, hk => by
    show bindL kindOf ((p, w) :: P.zip vs) m x = _
    unfold bindL
    exact bindL_get (i := i) (List.nodup_cons.mp nd).2 (by simpa using h1) (by simpa using h2) hk
theorem bindC_get {kindOf : Str → Option NameKind} {x : Str} {v : Value} : ∀ {P : List Str} {vs : List Value} {i : Nat} {m : Str → Option Value}, P.Nodup → P[i]? = some x → vs[i]? = some v → kindOf x ≠ some .local →
    bindC kindOf (P.zip vs) m x = some v
  | [], _, _, _, _, h, _, _ => by simp at h
  | _ :: _, [], _, _, _, _, h, _ => by simp at h
  | p :: P, w :: vs, 0, m, nd, h1, h2, hk => by
    simp at h1 h2; subst h1; subst h2
    show bindC kindOf ((p, w) :: P.zip vs) m p = _
    unfold bindC
    rw [bindC_out fun v hv => (List.nodup_cons.mp nd).1 (List.of_mem_zip hv).1, if_neg hk]
    simp
  | p :: P, w :: vs, i + 1, m, nd, h1, h2, hk => by
    show bindC kindOf ((p, w) :: P.zip vs) m x = _
    unfold bindC
    exact bindC_get (i := i) (List.nodup_cons.mp nd).2 (by simpa using h1) (by simpa using h2) hk

/-- the names' values at the entry -/
def start (N : List Str) (vs : List V) : St := vs.map some ++ List.replicate (N.length - vs.length) none

/-- the context of a def's body, at its entry; an exception leaves the frame, then lies as CX says -/
def cxOf (CX : CXT) (P : Program) (w : World) (K : PySem.W.Frag) (mg : Str → Option Value) (base : Heap) (N : List Str) (qual : Str) (scope : Scope) (f : Addr) (cd : Value) (A : Around) (outer : List Env) (s : Shared) (H : Hp) (E : XK) : Cx where
  prog := P
  w := w
  K := K
  mg := mg
  base := base
  A := A.deeper (envOfC qual scope s.heap.objs.size f cd)
  N := N
  s_0 := s
  H_0 := H
  env := envOfC qual scope s.heap.objs.size f cd
  outer := outer
  stack := envOfC qual scope s.heap.objs.size f cd :: outer
  ex := []
  calm := true
  fn := fun _ => true
  pn := []
  xe := fun e s' => wpAny (model P w) (A.deeper (envOfC qual scope s.heap.objs.size f cd)) (leaving (envOfC qual scope s.heap.objs.size f cd) e) (fun _ s'' => CX outer H s E e s'') (fun e' s'' => CX outer H s E e' s'') s'

theorem cell_has {sc : Scope} {n : Nat} {x : Str} (h : sc.names.lookup x = some .cell) : ∃ c, (cellsFrom n sc.names []).lookup x = some c := by
  have q := PySem.W.cellsFrom_some sc.names n [] (.inl h)
  exact Option.isSome_iff_exists.mp q

theorem inv_start {CX : CXT} {P : Program} {w : World} {K : PySem.W.Frag} {mg : Str → Option Value} {base : Heap} {N ps : List Str} {qual : Str} {scope : Scope} {f : Addr} {cd : Value} {A : Around} {outer : List Env} {s s1 : Shared} {H : Hp} {E : XK} {us : List Value} {vs : List V}
    (S : FnScope N ps scope) (hd : A.handled = none) (e0 : Env0 P w K mg base A outer s H) (hl : vs.length = ps.length) (r : Vals vs us)
    (x : InCallC s s.heap.objs.size (bindL (envOfC qual scope s.heap.objs.size f cd).kindOf (ps.zip us) fun _ => none) (cellsFrom (s.heap.objs.size + 1) scope.names []) (bindC (envOfC qual scope s.heap.objs.size f cd).kindOf (ps.zip us) fun _ => none) s1) :
    Inv (cxOf CX P w K mg base N qual scope f cd A outer s H E) [] (start N vs) H s1 := by
  have hpl : ps.length ≤ N.length := by have := congrArg List.length S.pre; rw [List.length_take] at this; omega
  obtain ⟨h1, tk, rfl, hk⟩ := x.done
  have noA : ∀ b : Addr, b ∉ (cxOf CX P w K mg base N qual scope f cd A outer s H E).ex := fun b z => absurd (show b ∈ ([] : List Addr) from z) (by simp)
  refine ⟨⟨e0.mod, S.kind, rfl, rfl, Nat.le_refl _, fun y z c h1 h2 => ?_, fun y hy => ?_, fun y c _ h => ?_, fun _ => hd, Around.frames_deeper e0.frames, .inr ⟨rfl, rfl⟩, fun b z => absurd z (noA b), e0.bs, e0.bsz, fun b _ _ => noA b, fun b z => absurd z (noA b), e0.funs, e0.frf⟩,
    rfl, e0.bare, Un.kept hk, ⟨_, x.toInCall.ns, fun i y v h1 h2 h3 => ?_⟩, fun y c h => ⟨_, x.cell y c h⟩, e0.hok.fresh (Nat.le_refl _), fun y c h => ?_, fun p hp => absurd (show p ∈ ([] : List (Addr × Obj)) from hp) (by simp), e0.hok.kept hk, ?_⟩
  · exact name_of_addr x.apart (PySem.mem_of_lookup h1) (PySem.mem_of_lookup h2)
  · have hy : scope.names.lookup y = some .cell ∨ scope.names.lookup y = some .free := hy
    rcases hy with hy | hy
    · exact cell_has hy
    · exact absurd rfl (S.nofree _ (PySem.mem_of_lookup hy))
  · exact Nat.le_of_lt (x.above y c (PySem.mem_of_lookup h))
  · have hi : i < vs.length := by
      unfold start at h2
      by_cases hi : i < vs.length
      · exact hi
      · rw [List.getElem?_append_right (by simpa using hi)] at h2
        rw [List.getElem?_replicate] at h2
        split at h2 <;> cases h2
    have ha : vs[i]? = some v := by
      unfold start at h2
      rw [List.getElem?_append_left (by simpa using hi), List.getElem?_map] at h2
      cases e : vs[i]? with
      | none => rw [e] at h2; cases h2
      | some a => rw [e] at h2; cases h2; rfl
    obtain ⟨u, hu, rv⟩ := r.get ha
    have hp : ps[i]? = some y := by
      rw [← S.pre, List.getElem?_take_of_lt (by omega)]; exact h1
    have ndP : ps.Nodup := by rw [← S.pre]; exact S.nd.sublist (List.take_sublist _ _)
    refine ⟨u, rv, ?_⟩
    rcases S.par y (List.mem_of_getElem? hp) with k | k
    · exact .inl ⟨k, bindL_get ndP hp hu k⟩
    · obtain ⟨c, e⟩ := cell_has (n := s.heap.objs.size + 1) k
      refine .inr ⟨.inl k, c, e, ?_⟩
      have q := x.cell y c e
      rw [bindC_get ndP hp hu (by show scope.names.lookup y ≠ _; rw [k]; decide)] at q
      exact q
  · exact e0.hok.fresh (Nat.le_of_lt (x.above y c (PySem.mem_of_lookup h)))
  · unfold start
    show _ = N.length
    rw [List.length_append, List.length_map, List.length_replicate]
    omega

/-- THE RULE: a def (or a method) of the text, by its body. The body's reading t is chosen for each entry; it is run at the parameters' values -/
theorem fn_of {CX : CXT} {P : Program} {w : World} {K : PySem.W.Frag} {mg : Str → Option Value} {base : Heap} {k : Nat} {f : Addr} {name qual : Str} {params : Arguments} {body : List Stmt} {scope : Scope} {dV kV doc pm cdv ct oc : Value} {an od : Option Addr}
    {osl : Array (Option Value)} {N ps : List Str} {sp : Sp} (lk : K.lookup f = some ⟨oc, od, .func (PySem.W.fnOf name qual params body scope dV kV doc pm an cdv ct), osl⟩) (hcd : PySem.W.codeIn K cdv qual = true) (S : FnScope N ps scope)
    (len : ∀ vs H Q E, sp vs H Q E → vs.length = ps.length)
    (hbody : ∀ (A : Around) (outer : List Env) (s : Shared) (H : Hp) (vs : List V) (Q : VK) (E : XK), Room k (A.deeper (envOfC qual scope s.heap.objs.size f cdv)) → sp vs H Q E →
      ∃ t, PSs (cxOf CX P w K mg base N qual scope f cdv A outer s H E) body t ∧ t { nx := fun _ H' => Q .non H', rt := Q } (start N vs) H) :
    FnOk P w K mg base CX (k + 1) f (PySem.W.fnOf name qual params body scope dV kV doc pm an cdv ct) ps sp := by
  refine ⟨len, fun A outer s H args us vs Q E hr e0 hb r hsp => ?_⟩
  have hl := len _ _ _ _ hsp
  have KX : K.In s.heap := e0.mod.kin.keeps fun b o e => (e0.bs b o e).1
  have lim : s.heap.NoLimit := e0.mod.nolimit.keeps fun b o e => (e0.bs b o e).1
  have hkind : ∀ y ∈ ps.zip us, scope.names.lookup y.1 = some .local ∨ (scope.names.lookup y.1 = some .cell ∧ ((cellsFrom (s.heap.objs.size + 1) scope.names []).lookup y.1).isSome = true) := fun ⟨n, v⟩ hy => by
    rcases S.par n (List.of_mem_zip hy).1 with q | q
    · exact .inl q
    · exact .inr ⟨q, PySem.W.cellsFrom_some _ _ _ (.inl q)⟩
  refine codeAny_call_function hr.depth (KX _ _ lk) rfl S.co S.gen rfl (PySem.W.codeRec_of KX hcd) (hb _ _ _ _ ?_)
  refine wpAny_newFunctionEnv_cells S.kind hkind fun env he s1 x => ?_
  subst he
  refine ⟨lim.keeps x.toInCall.keep, codeAny_func ?_⟩
  obtain ⟨t, ht, hq⟩ := hbody A outer s H vs Q E (hr.deeper _) hsp
  have I : Inv (cxOf CX P w K mg base N qual scope f cdv A outer s H E) [] (start N vs) H s1 := inv_start S hr.hd e0 hl r x
  refine wpAny_mono (ht [] s1 (start N vs) H _ I hq) (fun fl s' hs => ?_) fun e s' hs => hs
  have fin : ∀ {σ' : St} {H' : Hp} {v : V} {u : Value}, Inv (cxOf CX P w K mg base N qual scope f cdv A outer s H E) [] σ' H' s' → RelV v u → Q v H' → CE outer P w H s Q u s' :=
    fun {σ' H' v u} J rv q => ⟨v, H', J.os, J.bare, J.base, J.hok, rv, q⟩
  cases fl with
  | ret u =>
    obtain ⟨v, σ', H', J, rv, q⟩ := hs
    exact fin J rv q
  | next =>
    obtain ⟨σ', H', J, q⟩ := hs
    exact fin (v := V.non) (u := Value.none) J rfl q
  | brk =>
    obtain ⟨_, _, _, q⟩ := hs
    exact False.elim q
  | cont =>
    obtain ⟨_, _, _, q⟩ := hs
    exact False.elim q
end L2

namespace L2
open PySem PySem.Spec PyProof.Rows
section
variable {X : Cx} {x : Str} {p pos : Pos} {e : Expr} {es : List Expr} {t : TA} {id T : String} {r : List V → Hp → VK → Prop}

def tCB (r : List V → Hp → VK → Prop) (t : TA) : TE := fun σ H Q => t σ H fun vs H1 => r vs H1 Q
/-- f(e, ..), f a built-in function -/
theorem pe_callB (hc : CallR X (.builtin id) r) (hg : Gl X x) (hm : X.mg x = none) (hv : bootBuiltins x = some (.builtin id)) (ha : PA X (e :: es) t) (hn : x ≠ "__name__" := by decide) (hdb : (x == ("__debug__" : Str)) = false := by decide)
    (he : starEach (e :: es) X.env = (false, eval e X.env) :: starEach es X.env := by rfl) (hpl : (backTo pos (starEach es X.env)).any (·.1) = false := by rfl) : PE X (.Call (.Name x p) (e :: es) [] pos) (tCB r t) := by
  intro pins s σ H Q I h
  refine wpAny_Call_Name_kw (ld_blt I hg hm hv ?_ hn hdb)
  exact PyProof.Rows.callWith_builtin1 (thn (ha pos pins s σ H _ I h) fun us s1 ⟨vs, H1, I1, r1, q1⟩ => hc pins s1 σ H1 vs us Q I1 r1 q1) he hpl
/-- T(e, ..), T a built-in type -/
theorem pe_callTy (hc : CallR X (.type T) r) (hg : Gl X x) (hm : X.mg x = none) (hv : bootBuiltins x = some (.type T)) (ha : PA X (e :: es) t) (hn : x ≠ "__name__" := by decide) (hdb : (x == ("__debug__" : Str)) = false := by decide)
    (he : starEach (e :: es) X.env = (false, eval e X.env) :: starEach es X.env := by rfl) (hpl : (backTo pos (starEach es X.env)).any (·.1) = false := by rfl) : PE X (.Call (.Name x p) (e :: es) [] pos) (tCB r t) := by
  intro pins s σ H Q I h
  refine wpAny_Call_Name_kw (ld_blt I hg hm hv ?_ hn hdb)
  exact PyProof.Rows.callWith_type1 (thn (ha pos pins s σ H _ I h) fun us s1 ⟨vs, H1, I1, r1, q1⟩ => hc pins s1 σ H1 vs us Q I1 r1 q1) he hpl
end
end L2

namespace HT
open PySem PyProof.Rows



section
open PySem.SeqAt
open PySem.AutoSeq1 (wpAny_loadPart')
open PySem.MeetsSeq PySem.MeetsSeq2 PySem.MeetsSeq3

end

section
variable {prog : Program} {w : World} {A : Around} {E : Value → Shared → Prop} {s : Shared}



/-! ### t[a:b], not the whole -/
/-- a slice's bound as a place among n (d where it is left out) -/
def sIx (n d : Nat) : Option Int → Nat
  | none => d
  | some v => if v < 0 then (v + (n : Int)).toNat else min v.toNat n
theorem sIx_nat (n d k : Nat) : sIx n d (some (k : Int)) = min k n := by
  show (if (k : Int) < 0 then ((k : Int) + (n : Int)).toNat else min (k : Int).toNat n) = min k n
  rw [if_neg (by omega), Int.toNat_natCast]

end
end HT

namespace L2
open PySem PySem.Spec PyProof.Rows

/-! ### the parts of a slice -/
abbrev TO := St → Hp → (Option Int → Hp → Prop) → Prop
/-- a slice's part (left out, or an int) -/
def PO (X : Cx) (e : Option Expr) (t : TO) : Prop :=
  ∀ (pins : List (Addr × Obj)) (s : Shared) (σ : St) (H : Hp) (Q : Option Int → Hp → Prop), Inv X pins σ H s → t σ H Q →
    wpAny (model X.prog X.w) X.A (evalPart e X.env) (fun u s' => ∃ o H', Inv X pins σ H' s' ∧ IsPart u o ∧ Q o H') X.xe s
def tPart (t : TE) : TO := fun σ H Q => t σ H fun x H1 => ∃ i, x = .int i ∧ Q (some i) H1


section
variable {X : Cx} {e : Expr} {te : TE} {lo hi : Option Expr} {tl th : TO} {pos p2 : Pos}

theorem po_some (h : PE X e te) : PO X (some e) (tPart te) := by
  intro pins s σ H Q I hw
  rw [evalPart_some]
  refine thn (h pins s σ H _ I hw) fun u s1 ⟨x, H1, I1, r1, q1⟩ => ?_
  obtain ⟨i, rfl, q⟩ := q1
  obtain ⟨t, rfl⟩ := r1
  exact ⟨some i, H1, I1, .int i t, q⟩

/-- what a slice of a value is, by values: the slice object stands at sl -/
def SlR (X : Cx) (r : V → Option Int → Option Int → Hp → VK → Prop) : Prop :=
  ∀ (pins : List (Addr × Obj)) (s : Shared) (σ : St) (H : Hp) (x : V) (v vl vu : Value) (lo hi : Option Int) (sl : Addr) (Q : VK), Inv X pins σ H s → RelV x v → s.heap.IsSliceOf sl vl vu .none → IsPart vl lo → IsPart vu hi → r x lo hi H Q →
    ∃ T id, typeLookup (.type T) "__getitem__" = pure (some (.builtin id)) ∧ s.TypeIs v T ∧ wpAny (model X.prog X.w) X.A (getItem v (.ref sl)) (EP X pins σ Q) X.xe s
def tSl (r : V → Option Int → Option Int → Hp → VK → Prop) (te : TE) (tl th : TO) : TE := fun σ H Q => te σ H fun x H1 => tl σ H1 fun l H2 => th σ H2 fun u H3 => r x l u H3 Q
/-- a[lo:hi], any a -/
theorem pe_slice {r : V → Option Int → Option Int → Hp → VK → Prop} (hr : SlR X r) (he : PE X e te) (hl : PO X lo tl) (hu : PO X hi th) : PE X (.Subscript e (.Slice lo hi none p2) pos) (tSl r te tl th) := by
  intro pins s σ H Q I h
  refine Subscript_ (thn (he pins s σ H _ I h) fun v s1 ⟨x, H1, I1, r1, q1⟩ => ?_)
  refine wpAny_Slice (thn (hl pins s1 σ H1 _ I1 q1) fun vl s2 ⟨l, H2, I2, pl, q2⟩ => thn (hu pins s2 σ H2 _ I2 q2) fun vu s3 ⟨u, H3, I3, pu, q3⟩ => ?_)
  rw [evalPart_none]
  refine wpAny_pure ?_
  have I4 : Inv X pins σ H3 { s3 with heap := s3.heap.push { cls := .type "slice", data := .fields #[vl, vu, .none] } } := I3.kept (t' := s3.toks) fun b ob q => Heap.get?_push_of_some _ q
  obtain ⟨T, id, hT, ht, hg⟩ := hr pins { s3 with heap := s3.heap.push { cls := .type "slice", data := .fields #[vl, vu, .none] } } σ H3 x v vl vu l u s3.heap.objs.size Q I4 r1 (Heap.IsSliceOf.new ..) pl pu q3
  show wpAny (model X.prog X.w) X.A (subscriptTail e (.Slice lo hi none p2) v (.ref s3.heap.objs.size)) (EP X pins σ Q) X.xe { s3 with heap := s3.heap.push { cls := .type "slice", data := .fields #[vl, vu, .none] } }
  exact tail_any (ops := [.ref s3.heap.objs.size, v]) ht hT hg (by with_unfolding_all rfl)

/-- the items of xs[lo:hi] -/
def cutV (xs : List V) (lo hi : Option Int) : List V := (xs.drop (HT.sIx xs.length 0 lo)).take (HT.sIx xs.length xs.length hi - HT.sIx xs.length 0 lo)
theorem cutV_length (xs : List V) (lo hi : Option Int) : (cutV xs lo hi).length ≤ xs.length := by
  unfold cutV
  rw [List.length_take, List.length_drop]
  omega

/-! ### t < u, t + u -/
end
end L2

namespace L2
open PySem PySem.Spec PyProof.Rows

/-! ### places -/
/-- the place that an index of any sign means -/
def ixN (n : Nat) (i : Int) : Option Nat := if 0 ≤ i then (if i < n then some i.toNat else none) else if -(n : Int) ≤ i then some (i + n).toNat else none
def atI {α : Type} (xs : List α) (i : Int) : Option α := (ixN xs.length i).bind fun j => xs[j]?
theorem ixN_seq {n : Nat} {i : Int} {j : Nat} (h : ixN n i = some j) : seqIndex? i n = some j ∧ j < n ∧ -(n : Int) ≤ i ∧ i < n := by
  unfold ixN at h
  by_cases h0 : 0 ≤ i
  · rw [if_pos h0] at h
    by_cases h1 : i < n
    · rw [if_pos h1] at h
      have e : i.toNat = j := Option.some.inj h
      exact ⟨by rw [seqIndex_of h0 h1, e], by omega, by omega, h1⟩
    · rw [if_neg h1] at h; cases h
  · rw [if_neg h0] at h
    by_cases h1 : -(n : Int) ≤ i
    · rw [if_pos h1] at h
      have e : (i + n).toNat = j := Option.some.inj h
      exact ⟨by rw [seqIndex_neg (by omega) h1, e], by omega, h1, by omega⟩
    · rw [if_neg h1] at h; cases h
theorem atI_get {α : Type} {xs : List α} {i : Int} {v : α} (h : atI xs i = some v) : ∃ j, seqIndex? i xs.length = some j ∧ xs[j]? = some v ∧ j < xs.length ∧ -(xs.length : Int) ≤ i ∧ i < xs.length := by
  unfold atI at h
  cases e : ixN xs.length i with
  | none => rw [e] at h; cases h
  | some j =>
    rw [e] at h
    obtain ⟨h1, h2, h3, h4⟩ := ixN_seq e
    exact ⟨j, h1, h, h2, h3, h4⟩
theorem atI_nat {α : Type} {xs : List α} {j : Nat} {v : α} (h : xs[j]? = some v) : atI xs (j : Int) = some v := by
  have hj : j < xs.length := (List.getElem?_eq_some_iff.mp h).1
  have e : ixN xs.length (j : Int) = some j := by
    unfold ixN
    rw [if_pos (by omega), if_pos (by omega)]; simp
  unfold atI; rw [e]; exact h
theorem atI_last {α : Type} (xs : List α) (v : α) : atI (xs ++ [v]) (-1) = some v := by
  have hl : (xs ++ [v]).length = xs.length + 1 := by simp
  have e : ixN (xs ++ [v]).length (-1) = some xs.length := by
    unfold ixN
    rw [hl, if_neg (by decide), if_pos (by omega)]
    congr 1
    omega
  unfold atI
  rw [e]
  show (xs ++ [v])[xs.length]? = some v
  simp

/-! ### what may be subscripted -/
/-- what stands as an index of a plain subscript -/
def PlainIx (b : Expr) : Prop := ∀ o i, subscripted b false o i = operate [o, i] (getItem o i)
/-- a subscript by values -/
def IxR (X : Cx) (r : R2) : Prop :=
  ∀ (value slice : Expr) (pins : List (Addr × Obj)) (s : Shared) (σ : St) (H : Hp) (x y : V) (v u : Value) (Q : VK), Inv X pins σ H s → RelV x v → RelV y u → r x y H Q →
    subscripted slice false v u = operate [v, u] (getItem v u) → wpAny (model X.prog X.w) X.A (subscriptTail value slice v u) (EP X pins σ Q) X.xe s
/-- a call of a builtin's method by values: the receiver, the arguments -/
def MtR (X : Cx) (id : String) (r : V → List V → Hp → VK → Prop) : Prop :=
  ∀ (pins : List (Addr × Obj)) (s : Shared) (σ : St) (H : Hp) (x : V) (xs : List V) (v : Value) (us : List Value) (Q : VK), Inv X pins σ H s → RelV x v → Vals xs us → r x xs H Q →
    wpAny (model X.prog X.w) X.A (call (.builtin id) (v :: us)) (EP X pins σ Q) X.xe s
section
variable {X : Cx} {a b : Expr} {ta tb : TE} {pos : Pos}
/-- a[b] -/
theorem pe_ix {r : R2} (hr : IxR X r) (ha : PE X a ta) (hb : PE X b tb) (hs : PlainIx b) : PE X (.Subscript a b pos) (tOp r ta tb) := by
  intro pins s σ H Q I h
  exact Subscript_ (binT ha hb I h fun v u s2 x y H2 I2 rx ry q => hr a b pins s2 σ H2 x y v u Q I2 rx ry q (hs _ _))

def rIxL (K : PySem.W.Frag) : R2 := fun x y H Q => ∃ p xs i v, x = .ref p ∧ y = .int i ∧ SqL K H p xs ∧ atI xs i = some v ∧ Q v H
theorem ix_list : IxR X (rIxL X.K) := by
  intro value slice pins s σ H x y v u Q I rx ry h hs
  obtain ⟨p, xs, i, z, rfl, rfl, hq, he, q⟩ := h
  cases rx
  obtain ⟨t, rfl⟩ := ry
  obtain ⟨its, r, pl, hz⟩ := I.list hq
  obtain ⟨j, h1, h2, h3, h4, h5⟩ := atI_get he
  obtain ⟨w, ew, rw'⟩ := r.get h2
  have hl := r.length
  have hn := line63
  have fin : EP X pins σ Q w s := ⟨z, H, I, rw', q⟩
  by_cases h0 : 0 ≤ i
  · have hj : i.toNat = j := by
      rw [seqIndex_of h0 h5] at h1
      exact Option.some.inj h1
    exact item_listR pl.isList h0 (by omega) (by rw [hj]; simpa using ew) fin hs
  · have hj : (i + (its.toArray.size : Int)).toNat = j := by
      rw [seqIndex_neg (by omega) h4] at h1
      rw [List.size_toArray, ← hl]
      exact Option.some.inj h1
    exact subscriptTail_builtinR (x := w) pl.isList.typeIs slot_list_getitem.lookup
      (wpAny_getItem_list_neg (Q := fun r s' => r = w ∧ EP X pins σ Q r s') pl.isList (by omega) (by rw [List.size_toArray] <;> omega) (by omega) (by rw [hj]; simpa using ew) ⟨rfl, fin⟩) hs

/-! ### xs[i] = v, any sign -/

/-! ### slices -/
theorem slice_bounds (lo hi : Option Int) (n : Nat) : (sliceBounds lo hi none n).1 = ((HT.sIx n 0 lo : Nat) : Int) ∧ (sliceBounds lo hi none n).2.1 = ((HT.sIx n n hi : Nat) : Int) ∧ (sliceBounds lo hi none n).2.2 = 1 := by
  refine ⟨?_, ?_, rfl⟩
  · cases lo with
    | none => simp [sliceBounds, HT.sIx]
    | some i =>
      simp only [sliceBounds, HT.sIx, Option.getD_none, show (1 : Int) > 0 by decide, if_true]
      by_cases h : i < 0
      · simp only [h, if_true] <;> omega
      · simp only [h, if_false] <;> omega
  · cases hi with
    | none => simp [sliceBounds, HT.sIx]
    | some i =>
      simp only [sliceBounds, HT.sIx, Option.getD_none, show (1 : Int) > 0 by decide, if_true]
      by_cases h : i < 0
      · simp only [h, if_true] <;> omega
      · simp only [h, if_false] <;> omega
theorem slicePick_cut (its : List Value) (lo hi : Option Int) : slicePick its.toArray lo hi none = ((its.drop (HT.sIx its.length 0 lo)).take (HT.sIx its.length its.length hi - HT.sIx its.length 0 lo)).toArray := by
  obtain ⟨h1, h2, h3⟩ := slice_bounds lo hi its.toArray.size
  unfold slicePick
  rw [h1, h2, h3]
  simp only [sliceRange_one, pick_run, List.size_toArray] <;> rfl
/-- xs[lo:hi] of a list: a new list -/
def rSlL (K : PySem.W.Frag) : V → Option Int → Option Int → Hp → VK → Prop := fun x lo hi H Q => ∃ a xs, x = .ref a ∧ SqL K H a xs ∧ ∀ p, H p = none → Q (.ref p) (upd H p (.lst (cutV xs lo hi)))
theorem sl_list : SlR X (rSlL X.K) := by
  intro pins s σ H x v vl vu lo hi sl Q I rx hs pl pu h
  obtain ⟨a, xs, rfl, hx, q⟩ := h
  cases rx
  obtain ⟨its, r, ht, hz⟩ := I.list hx
  have hlen := r.length
  refine ⟨"list", _, slot_list_getitem.lookup, ht.isList.typeIs, ?_⟩
  refine wpAny_getItem_list_slice ht.isList hs pl pu .none (by simp) ?_ (by rw [List.size_toArray] <;> omega)
  rw [slicePick_cut, ← hlen]
  refine ⟨.ref s.heap.objs.size, _, I.laid (t' := s.toks) (o := .lst (cutV xs lo hi)) (fun b ob q => Heap.get?_push_of_some _ q) (Nat.le_refl _) ?_, rfl, q _ (I.hok.fresh (Nat.le_refl _))⟩
  exact ⟨Nat.le_trans (cutV_length xs lo hi) hz, _, 0, (r.drop (HT.sIx xs.length 0 lo)).take (HT.sIx xs.length xs.length hi - HT.sIx xs.length 0 lo), Heap.get?_push_size _ rfl⟩

/-! ### in, not in: flat items -/
def flatV : V → Bool
  | .non => true
  | .bl _ => true
  | .int _ => true
  | .str _ => true
  | _ => false
/-- == of flat values -/
def eqV : V → V → Bool
  | .non, .non => true
  | .bl a, .bl b => a == b
  | .bl a, .int b => (if a then 1 else 0) == b
  | .int a, .bl b => a == (if b then 1 else 0)
  | .int a, .int b => a == b
  | .str a, .str b => a == b
  | _, _ => false
theorem eqAt_V {A : Around} {s : Shared} {y x : V} {u v : Value} (ry : RelV y u) (rx : RelV x v) (fy : flatV y = true) (fx : flatV x = true) : SeqAt.EqAt A s u v (eqV y x) := by
  cases y with
  | non =>
    cases ry
    cases x with
    | non => cases rx; exact SeqAt.EqAt.same _
    | bl b => cases rx; exact SeqAt.EqAt.none_bool b
    | int b => obtain ⟨t, rfl⟩ := rx; exact SeqAt.EqAt.none_int b t
    | str b => obtain ⟨t, rfl⟩ := rx; exact SeqAt.EqAt.none_str b t
    | _ => exact absurd (show false = true from fx) Bool.false_ne_true
  | bl a =>
    cases ry
    cases x with
    | non => cases rx; exact SeqAt.EqAt.bool_none a
    | bl b => cases rx; exact SeqAt.EqAt.bool_bool a b
    | int b => obtain ⟨t, rfl⟩ := rx; exact SeqAt.EqAt.bool_int a b t
    | str b => obtain ⟨t, rfl⟩ := rx; exact SeqAt.EqAt.bool_str a b t
    | _ => exact absurd (show false = true from fx) Bool.false_ne_true
  | int a =>
    obtain ⟨t', rfl⟩ := ry
    cases x with
    | non => cases rx; exact SeqAt.EqAt.int_none a t'
    | bl b => cases rx; exact SeqAt.EqAt.int_bool a t' b
    | int b => obtain ⟨t, rfl⟩ := rx; exact SeqAt.EqAt.int_int a t' b t
    | str b => obtain ⟨t, rfl⟩ := rx; exact SeqAt.EqAt.int_str a t' b t
    | _ => exact absurd (show false = true from fx) Bool.false_ne_true
  | str a =>
    obtain ⟨t', rfl⟩ := ry
    cases x with
    | non => cases rx; exact SeqAt.EqAt.str_none a t'
    | bl b => cases rx; exact SeqAt.EqAt.str_bool a t' b
    | int b => obtain ⟨t, rfl⟩ := rx; exact SeqAt.EqAt.str_int a t' b t
    | str b => obtain ⟨t, rfl⟩ := rx; exact SeqAt.EqAt.str_str a t' b t
    | _ => exact absurd (show false = true from fx) Bool.false_ne_true
  | _ => exact absurd (show false = true from fy) Bool.false_ne_true
/-- the items' answers, read off the values (a value's own answer does not lean on its token) -/
def eqU (x : V) (u : Value) : Bool := match u with
  | .none => eqV .non x
  | .bool b => eqV (.bl b) x
  | .int i _ => eqV (.int i) x
  | .str z _ => eqV (.str z) x
  | _ => false
theorem eqU_of {x y : V} {u : Value} (r : RelV y u) (f : flatV y = true) : eqU x u = eqV y x := by
  cases y with
  | non => cases r; rfl
  | bl b => cases r; rfl
  | int i => obtain ⟨t, rfl⟩ := r; rfl
  | str z => obtain ⟨t, rfl⟩ := r; rfl
  | _ => exact absurd (show false = true from f) Bool.false_ne_true
theorem any_eqU {x : V} : ∀ {xs : List V} {us : List Value}, Vals xs us → xs.all flatV = true → us.any (eqU x) = xs.any fun y => eqV y x
  | _, _, .nil, _ => rfl
  | y :: xs, u :: us, .cons r t, f => by
    rw [List.all_cons, Bool.and_eq_true] at f
    rw [List.any_cons, List.any_cons, eqU_of r f.1, any_eqU t f.2]
theorem mem_eqAt {A : Around} {s : Shared} {x : V} {v : Value} (rx : RelV x v) (fx : flatV x = true) : ∀ {xs : List V} {us : List Value}, Vals xs us → xs.all flatV = true → ∀ u ∈ us, SeqAt.EqAt A s u v (eqU x u)
  | _, _, .nil, _ => fun u hu => by cases hu
  | y :: xs, u :: us, .cons r t, f => fun u' hu => by
    rw [List.all_cons, Bool.and_eq_true] at f
    rcases List.mem_cons.mp hu with rfl | hu
    · rw [eqU_of r f.1]; exact eqAt_V r rx f.1 fx
    · exact mem_eqAt rx fx t f.2 u' hu
def inV (x : V) (xs : List V) : Bool := xs.any fun y => eqV y x
/-- x in a list or tuple of flat items -/
def rIn (K : PySem.W.Frag) (neg : Bool) : R2 := fun x y H Q => ∃ p xs, y = .ref p ∧ (SqL K H p xs ∨ SqT K H p xs) ∧ flatV x = true ∧ xs.all flatV = true ∧ Q (.bl (if neg then !inV x xs else inV x xs)) H
theorem op_in_seq : OpR X (compareOp .In) (rIn X.K false) := by
  intro pins s σ H x y v u Q I rx ry h
  obtain ⟨p, xs, rfl, hq, fx, fs, q⟩ := h
  cases ry
  rcases hq with hq | hq
  · obtain ⟨its, r, pl, hz⟩ := I.list hq
    refine SeqAt.in_listAt (eqU x) pl.isList (fun w hw => mem_eqAt rx fx r fs w (by simpa using hw)) ⟨.bl _, H, I, rfl, ?_⟩
    rw [show its.toArray.any (eqU x) = its.any (eqU x) by simp, any_eqU r fs]
    exact q
  · obtain ⟨its, r, pl, hz⟩ := I.tuple hq
    refine SeqAt.in_tupleAt (eqU x) pl (fun w hw => mem_eqAt rx fx r fs w (by simpa using hw)) ⟨.bl _, H, I, rfl, ?_⟩
    rw [show its.toArray.any (eqU x) = its.any (eqU x) by simp, any_eqU r fs]
    exact q
theorem op_notIn_seq : OpR X (compareOp .NotIn) (rIn X.K true) := by
  intro pins s σ H x y v u Q I rx ry h
  obtain ⟨p, xs, rfl, hq, fx, fs, q⟩ := h
  cases ry
  rcases hq with hq | hq
  · obtain ⟨its, r, pl, hz⟩ := I.list hq
    refine SeqAt.notIn_listAt (eqU x) pl.isList (fun w hw => mem_eqAt rx fx r fs w (by simpa using hw)) ⟨.bl _, H, I, rfl, ?_⟩
    rw [show its.toArray.any (eqU x) = its.any (eqU x) by simp, any_eqU r fs]
    exact q
  · obtain ⟨its, r, pl, hz⟩ := I.tuple hq
    refine SeqAt.notIn_tupleAt (eqU x) pl (fun w hw => mem_eqAt rx fx r fs w (by simpa using hw)) ⟨.bl _, H, I, rfl, ?_⟩
    rw [show its.toArray.any (eqU x) = its.any (eqU x) by simp, any_eqU r fs]
    exact q

/-! ### len, list(x), tuple(x) of any list or tuple that is read -/
theorem call_len_seq : CallR X (.builtin "len") (fun xs H Q => ∃ p ys, xs = [.ref p] ∧ (SqL X.K H p ys ∨ SqT X.K H p ys) ∧ Q (.int ys.length) H) := by
  intro pins s σ H xs us Q I r h
  obtain ⟨p, ys, rfl, hq, q⟩ := h
  obtain ⟨u, rfl, rx⟩ := vals1 r
  cases rx
  have hn := line63
  rcases hq with hq | hq
  · obtain ⟨its, r', pl, hz⟩ := I.list hq
    have hlen := r'.length
    exact Calls.call_len_list pl.isList (by simp only [List.size_toArray] <;> omega) ⟨.int ys.length, H, I.tok _, ⟨s.toks + 1, by rw [List.size_toArray, hlen]⟩, q⟩
  · obtain ⟨its, r', pl, hz⟩ := I.tuple hq
    have hlen := r'.length
    exact len_tuple pl (by simp only [List.size_toArray] <;> omega) ⟨.int ys.length, H, I.tok _, ⟨s.toks + 1, by rw [List.size_toArray, hlen]⟩, q⟩

/-! ### the call of a builtin's method: o.m(..) -/
/-- the value is of that builtin type -/
def tyV (K : PySem.W.Frag) (T : String) (x : V) (H : Hp) : Prop := match x with
  | .str _ => T = "str"
  | .int _ => T = "int"
  | .ref p => (T = "list" ∧ ∃ xs, SqL K H p xs) ∨ (T = "tuple" ∧ ∃ o, K.lookup p = some o ∧ o.cls = .type "tuple" ∧ o.dict = none) ∨
      (T = "dict" ∧ ((∃ kvs, H p = some (.dK kvs)) ∨ ∃ kvs, H p = some (.dT kvs))) ∨ (T = "set" ∧ ∃ S n, H p = some (.set S n))
  | _ => False
theorem tyV_is {pins : List (Addr × Obj)} {σ : St} {H : Hp} {s : Shared} {T : String} {x : V} {v : Value} (I : Inv X pins σ H s) (r : RelV x v) (ty : tyV X.K T x H) :
    s.TypeIs v T ∧ ∀ a, v = .ref a → ∃ ob, s.heap.get? a = some ob ∧ ob.dict = none := by
  cases x with
  | str z =>
    obtain ⟨t, rfl⟩ := r
    cases (show T = "str" from ty)
    exact ⟨typeIs_str s z t, fun _ e => nomatch e⟩
  | int i =>
    obtain ⟨t, rfl⟩ := r
    cases (show T = "int" from ty)
    exact ⟨typeIs_int s i t, fun _ e => nomatch e⟩
  | ref p =>
    cases r
    rcases ty with ⟨rfl, xs, hq⟩ | ⟨rfl, o, hk, hc, hd⟩ | ⟨rfl, hk⟩ | ⟨rfl, S, n, hk⟩
    · obtain ⟨its, _, pl, _⟩ := I.list hq
      refine ⟨pl.isList.typeIs, fun a e => ?_⟩
      cases e
      obtain ⟨o, n, e, c, hd, _⟩ := pl
      exact ⟨o, e, hd⟩
    · refine ⟨⟨o, I.kIn p o hk, hc⟩, fun a e => ?_⟩
      cases e
      exact ⟨o, I.kIn _ o hk, hd⟩
    · have z : ∃ o, s.heap.get? p = some o ∧ o.ExactDict := by
        rcases hk with ⟨kvs, hk⟩ | ⟨kvs, hk⟩
        · obtain ⟨_, _, _, _, o, _, _, e, ex, _⟩ := I.hok p _ hk
          exact ⟨o, e, ex⟩
        · obtain ⟨_, _, _, _, o, _, _, e, ex, _⟩ := I.hok p _ hk
          exact ⟨o, e, ex⟩
      obtain ⟨o, e, ex⟩ := z
      refine ⟨⟨o, e, ex.1⟩, fun a e2 => ?_⟩
      cases e2
      exact ⟨o, e, ex.2.1⟩
    · obtain ⟨o, _, _, _, e, ex, _⟩ := I.hok p _ hk
      refine ⟨⟨o, e, ex.1⟩, fun a e2 => ?_⟩
      cases e2
      exact ⟨o, e, ex.2.1⟩
  | _ => exact False.elim ty
def tBM (K : PySem.W.Frag) (T : String) (r : V → List V → Hp → VK → Prop) (to : TE) (t : TA) : TE := fun σ H Q => to σ H fun x H1 => tyV K T x H1 ∧ t σ H1 fun xs H2 => r x xs H2 Q
variable {o e : Expr} {es : List Expr} {to : TE} {t : TA} {name : Str} {apos cpos : Pos} {T id : String} {r : V → List V → Hp → VK → Prop}
theorem pe_bm (pa : PlainAttrs T) (slot : Slot T name id) (hty : typeOf (.builtin id) = pure (.type "method_descriptor")) (hm : MtR X id r) (ho : PE X o to) (ha : PA X (e :: es) t)
    (hbase : attributeBase o name X.env (eval o X.env) = eval o X.env := by rfl)
    (hfew : ((backTo cpos (starEach (e :: es) X.env)).all (fun x => !x.1) && (backToKw cpos (keywordEach [] X.env)).all (fun x => x.1.isSome)
      && decide ((e :: es).length + ([] : List Keyword).length + (if ([] : List Keyword).isEmpty then 0 else 1) < 30)) = true := by rfl)
    (hline : (apos.endLine == cpos.line) = true := by rfl) (hs : starEach (e :: es) X.env = (false, eval e X.env) :: starEach es X.env := by rfl) (hplain : (backTo cpos (starEach es X.env)).any (·.1) = false := by rfl) :
    PE X (.Call (.Attribute o name apos) (e :: es) [] cpos) (tBM X.K T r to t) := by
  intro pins s σ H Q I h
  refine wpAny_Call_method_late hbase hfew hline rfl (thn (ho pins s σ H _ I h) fun v s1 ⟨x, H1, I1, r1, ty, q1⟩ => ?_)
  obtain ⟨h1, h2⟩ := tyV_is I1 r1 ty
  refine ⟨T, id, pa, slot, hty, h1, h2, ?_⟩
  have hA := ha cpos pins s1 σ H1 _ I1 q1
  rw [hs] at hA ⊢
  refine Calls.callWith_builtin (by show (false || (backTo cpos (starEach es X.env)).any (·.1)) = false; rw [hplain] <;> rfl) (Calls.evalArgs_plain ?_)
  exact thn hA fun us s2 ⟨vs, H2, I2, r2, q2⟩ => hm pins s2 σ H2 x vs v us Q I2 r1 r2 q2
/- xs.append(e), list.index on a module's tuple .. are MtR facts of 06m -/
end
end L2

namespace L2
open PySem PySem.Spec PyProof.Rows

def MtM (X : Cx) (id : String) (r : V → List V → Hp → VK → Prop) : Prop :=
  ∀ (pins : List (Addr × Obj)) (s : Shared) (σ : St) (H : Hp) (x : V) (xs : List V) (v : Value) (us : List Value) (Q : VK), Inv X pins σ H s → RelV x v → Vals xs us → r x xs H Q →
    wpAny (model X.prog X.w) X.A (call (.builtin id) (v :: us)) (EP X pins σ Q) X.xe s

/-! ### lists of values -/
theorem Vals.one : ∀ {x : V} {us : List Value}, Vals [x] us → ∃ u, us = [u] ∧ RelV x u
  | _, _, .cons r .nil => ⟨_, rfl, r⟩

section
variable {X : Cx} {pins : List (Addr × Obj)} {σ : St} {H : Hp} {s : Shared} {l b : Addr} {xs ys zs : List V}

/-! ### the two steps: a tracked list is rewritten, a new list is laid -/
theorem Inv.lset {its its' : List Value} {n : Nat} {f : Array Value → Array Value} {t' : Nat} (I : Inv X pins σ H s) (hH : H l = some (.lst xs))
    (e : s.heap.get? l = some { cls := .type "list", data := .seq its.toArray n }) (hf : f its.toArray = its'.toArray) (hv : Vals ys its') (hz : ys.length ≤ sizeLine) :
    Inv X pins σ (upd H l (.lst ys)) { s with heap := s.heap.update l (Obj.mapSeq f), toks := t' } := by
  have q := PySem.IsL.update e f
  rw [hf] at q
  refine I.write (x := l) (e := l) (by rw [hH]; exact trivial) (.inl rfl) (fun b' u hb hu => (Heap.get?_update_other s.heap (Obj.mapSeq f) (Ne.symm hb)).trans hu) ⟨_, q⟩ ?_
  exact ⟨hz, its', _, hv, q⟩
theorem Inv.lnew {its : List Value} {t' : Nat} (I : Inv X pins σ H s) (hv : Vals ys its) (hz : ys.length ≤ sizeLine) :
    Inv X pins σ (upd H s.heap.objs.size (.lst ys)) { s with heap := s.heap.push { cls := .type "list", data := .seq its.toArray }, toks := t' } :=
  I.laid (fun _ _ q => Heap.get?_push_of_some _ q) (Nat.le_refl _) ⟨hz, its, 0, hv, Heap.get?_push_size _ rfl⟩
theorem Inv.fresh (I : Inv X pins σ H s) : H s.heap.objs.size = none := I.hok.fresh (Nat.le_refl _)
theorem Inv.lstM (I : Inv X pins σ H s) (hH : H l = some (.lst xs)) : xs.length ≤ sizeLine ∧ ∃ (its : List Value) (n : Nat), Vals xs its ∧ xs.length = its.length ∧ s.heap.get? l = some { cls := .type "list", data := .seq its.toArray n } := by
  obtain ⟨z, its, n, r, e⟩ := I.hok l _ hH
  exact ⟨z, its, n, r, r.length, e⟩

end

section
variable {X : Cx}

/-! ### methods -/
def rAppend : V → List V → Hp → VK → Prop := fun x vs H Q => ∃ l xs y, x = .ref l ∧ vs = [y] ∧ H l = some (.lst xs) ∧ xs.length < sizeLine ∧ Q .non (upd H l (.lst (xs ++ [y])))
theorem mt_append : MtM X "list.append" rAppend := by
  intro pins s σ H x vs v us Q I rx rv h
  obtain ⟨l, xs, y, rfl, rfl, hH, hz, q⟩ := h
  cases rx
  obtain ⟨u, rfl, ru⟩ := rv.one
  obtain ⟨z, its, n, r, hl, e⟩ := I.lstM hH
  refine call_meets F.slot_list_append ⟨_, e, rfl⟩ F.entry_list_append (F.args_list_append_2 _ _) (PySem.list_append l its.toArray n u (by rw [List.size_toArray]; omega)) ⟨e, ?_⟩
  refine ⟨.non, _, I.lset (its' := its ++ [u]) hH e (by simp) (r.append (.cons ru .nil)) ?_, rfl, q⟩
  rw [List.length_append, List.length_singleton]
  omega






/-! ### list + list, list += list, list * int -/
def rCat : R2 := fun x y H Q => ∃ l b xs zs, x = .ref l ∧ y = .ref b ∧ H l = some (.lst xs) ∧ H b = some (.lst zs) ∧ xs.length + zs.length ≤ sizeLine ∧ ∀ p, H p = none → Q (.ref p) (upd H p (.lst (xs ++ zs)))
theorem op_cat : OpR X (binaryOp .Add) rCat := by
  intro pins s σ H x y v u Q I rx ry h
  obtain ⟨l, b, xs, zs, rfl, rfl, hH, hB, hz, q⟩ := h
  cases rx
  cases ry
  obtain ⟨z, its, n, r, hl, e⟩ := I.lstM hH
  obtain ⟨z2, its2, n2, r2, hl2, e2⟩ := I.lstM hB
  refine PySem.P.add_list e e2 ?_ (by rw [List.size_toArray, List.size_toArray]; omega)
  have ea : its.toArray ++ its2.toArray = (its ++ its2).toArray := by simp
  rw [ea]
  exact ⟨.ref _, _, I.lnew (t' := s.toks) (r.append r2) (by rw [List.length_append]; omega), rfl, q _ I.fresh⟩

/-! ### del xs[i] -/
end

/-! ### xs[a:b] = ys -/
section
variable {prog : Program} {w : World} {A : Around} {E : Value → Shared → Prop} {s : Shared}
end

section
variable {X : Cx}
end
end L2

namespace L2
open PySem PySem.Spec PyProof.Rows

theorem Vals.ints : ∀ {ns : List Int} {us : List Value}, Vals (ns.map V.int) us → IntsAre us ns
  | [], us, h => by
    rw [List.map_nil] at h
    cases h
    exact IntsAre.nil
  | n :: ns, us, h => by
    rw [List.map_cons] at h
    cases h with
    | cons r t =>
      obtain ⟨k, rfl⟩ := r
      exact IntsAre.cons n k (Vals.ints t)
theorem Vals.bls : ∀ {bs : List Bool} {us : List Value}, Vals (bs.map V.bl) us → us = bs.map Value.bool
  | [], us, h => by
    rw [List.map_nil] at h
    cases h
    rfl
  | b :: bs, us, h => by
    rw [List.map_cons] at h
    cases h with
    | cons r t =>
      cases r
      rw [Vals.bls t, List.map_cons]
theorem Vals.ref1 {a : Addr} {us : List Value} (r : Vals [V.ref a] us) : us = [Value.ref a] := by
  cases r with
  | cons r t =>
    cases t
    cases r
    rfl

/-! ### the library's walks over a list of ints, kept objects alone -/
section
variable {prog : Program} {w : World} {A : Around} {E : Value → Shared → Prop} {s : Shared} {l : Addr} {its : List Value} {ns : List Int} {Q : Value → Shared → Prop}
theorem min_raw (hh : A.handled = none) (hl : s.heap.IsList l its.toArray) (hi : IntsAre its ns) (hne : 0 < ns.length)
    (h : ∀ h' tk M t', (∀ b o, s.heap.get? b = some o → h'.get? b = some o) → M ∈ ns → (∀ a, a ∈ ns → M ≤ a) → Q (.int M t') { s with heap := h', toks := tk }) : wpAny (model prog w) A (call (.builtin "min") [.ref l]) Q E s := by
  obtain ⟨xs, e⟩ := hi.allInts.items
  have hn : numsOf (intItems xs).toList = ns := by rw [← e]; exact hi.numsOf
  rw [nums_intItems] at hn
  subst hn
  rw [e] at hl
  have hsz : 0 < xs.size := by simpa using hne
  refine PySem.min_intList hh hl hsz fun v h' tk hv hk => ?_
  obtain ⟨t, rfl⟩ := intItems_at hv
  obtain ⟨h1, h2⟩ := argBest_lt (numAt xs) (xs.size - 1)
  refine h h' tk _ t hk ?_ fun a ha => ?_
  · rw [numAt_eq]; exact PySem.getD_mem (by rw [List.length_map, Array.length_toList]; omega)
  · obtain ⟨j, hj, rfl⟩ := mem_getD ha
    rw [List.length_map, Array.length_toList] at hj
    rw [← numAt_eq]; exact h2 j (by omega)
end

/-! ### the calls, by values (CallR of 03t; MtR of 06l) -/
section
variable {X : Cx}
def rMin (K : PySem.W.Frag) : List V → Hp → VK → Prop := fun vs H Q => ∃ (a : Addr) (ns : List Int), vs = [V.ref a] ∧ SqL K H a (ns.map V.int) ∧ 0 < ns.length ∧ ∀ m, m ∈ ns → (∀ y, y ∈ ns → m ≤ y) → Q (.int m) H
theorem cr_min (hc : X.calm = true) : CallR X (.builtin "min") (rMin X.K) := by
  intro pins s σ H vs us Q I r h
  obtain ⟨a, ns, rfl, hs, hne, q⟩ := h
  obtain ⟨its, rv, hl, _⟩ := I.list hs
  rw [Vals.ref1 r]
  exact min_raw (I.ok.hd hc) hl.isList rv.ints hne fun h' tk m t' hk h1 h2 => ⟨.int _, H, I.kept hk, ⟨_, rfl⟩, q m h1 h2⟩

/-! sorted, sort (fewer than 64 items: the library's own bound) -/
end

/-! ### list.index, flat items -/
section
variable {X : Cx}
end

/-! ### type(x) of an own instance; is, is not of a module's class -/
section
variable {X : Cx}
end

/-! ### any(xs), all(xs) of a list of bools -/
theorem iter_any {prog : Program} {w : World} {A : Around} {E : Value → Shared → Prop} {s : Shared} {l : Addr} {items : Array Value} {Q : Value → Shared → Prop} (hl : s.heap.IsList l items)
    (h : ∀ s₂ : Shared, s₂ = { s with heap := s.heap.push { cls := .type "list_iterator", data := .fields #[.ref l, .int 0 0] } } →
      (s₂.heap.IsListIter s.heap.objs.size l 0 ∧ s₂.heap.IsList l items) → l ≠ s.heap.objs.size → Q (.ref s.heap.objs.size) s₂) : wpAny (model prog w) A (pyIter (.ref l)) Q E s := by
  have hlt : l < s.heap.objs.size := by obtain ⟨_, e, _⟩ := hl; exact Heap.lt_size e
  exact wpAny_pyIter_list hl (h _ rfl ⟨⟨_, Heap.get?_push_size _ rfl, rfl, rfl⟩, hl.push _⟩ (Nat.ne_of_lt hlt))
theorem truth_bools {prog : Program} {w : World} {A : Around} {bs : List Bool} {its : List Value} (e : its = bs.map Value.bool) :
    TruthOf prog w A (fun i v => its.toArray[i]? = some v) (fun i => bs.getD i false) := fun i v s Q E hv hq => by
  have hv' : its[i]? = some v := by simpa using hv
  rw [e, List.getElem?_map] at hv'
  obtain ⟨b, hb, rfl⟩ := Option.map_eq_some_iff.mp hv'
  have hg : bs.getD i false = b := by rw [List.getD_eq_getElem?_getD, hb] <;> rfl
  have hq' : Q (bs.getD i false) s := hq
  rw [hg] at hq'
  exact wpAny_truthy_bool hq'
theorem all_range : ∀ bs : List Bool, (List.range bs.length).all (fun i => bs.getD i false) = bs.all id
  | [] => rfl
  | b :: bs => by
    rw [List.length_cons, List.range_succ_eq_map, List.all_cons, List.all_map, List.all_cons, ← all_range bs]
    all_goals rfl
section
variable {X : Cx}
def rAll (K : PySem.W.Frag) : List V → Hp → VK → Prop := fun vs H Q => ∃ (a : Addr) (bs : List Bool), vs = [V.ref a] ∧ SqL K H a (bs.map V.bl) ∧ Q (.bl (bs.all id)) H
theorem cr_all (hc : X.calm = true) : CallR X (.builtin "all") (rAll X.K) := by
  intro pins s σ H vs us Q I r h
  obtain ⟨a, bs, rfl, hs, q⟩ := h
  obtain ⟨its, rv, hl, _⟩ := I.list hs
  rw [Vals.ref1 r]
  have hb := rv.bls
  refine call_all_walk (iter_any hl.isList fun s₂ e2 st hne => ?_)
  subst e2
  refine ⟨_, _, _, _, _, _, _, rfl, Walks.list (A := X.A.in1) (I.ok.hd hc) _ a hne its.toArray, st, truth_bools hb, fun h' tk hk => ?_⟩
  refine ⟨.bl _, H, I.kept fun b o eo => hk b o (fun hmem => ?_) (Heap.get?_push_of_some _ eo), ?_, q⟩
  · rcases List.mem_cons.mp hmem with e1 | hmem
    · exact absurd (e1 ▸ Heap.lt_size eo) (Nat.lt_irrefl _)
    · cases hmem
  · show Value.bool _ = Value.bool _
    rw [← all_range, hb, List.size_toArray, List.length_map]
end

/-! ### == and != of data at any depth: none, bools, ints, texts, lists, tuples -/
mutual
inductive Dp (K : PySem.W.Frag) (H : Hp) : V → PyData → Prop
  | non : Dp K H .non .none
  | bl (b : Bool) : Dp K H (.bl b) (.bool b)
  | int (i : Int) : Dp K H (.int i) (.int i)
  | str (x : Str) : Dp K H (.str x) (.str x)
  | lst {a : Addr} {xs : List V} {ds : List PyData} : SqL K H a xs → DpAll K H xs ds → Dp K H (.ref a) (.list ds)
  | tup {a : Addr} {xs : List V} {ds : List PyData} : SqT K H a xs → DpAll K H xs ds → Dp K H (.ref a) (.tuple ds)
inductive DpAll (K : PySem.W.Frag) (H : Hp) : List V → List PyData → Prop
  | nil : DpAll K H [] []
  | cons {v : V} {vs : List V} {d : PyData} {ds : List PyData} : Dp K H v d → DpAll K H vs ds → DpAll K H (v :: vs) (d :: ds)
end
section
variable {X : Cx} {pins : List (Addr × Obj)} {σ : St} {H : Hp} {s : Shared}
mutual
theorem Dp.reads (I : Inv X pins σ H s) : ∀ (d : PyData) (v : V) (u : Value), Dp X.K H v d → RelV v u → ∃ as, Reads s.heap u d as
  | .none, _, _, h, r => by
    cases h
    cases r
    exact ⟨_, Reads.none⟩
  | .bool b, _, _, h, r => by
    cases h
    cases r
    exact ⟨_, Reads.bool b⟩
  | .int i, _, _, h, r => by
    cases h
    obtain ⟨t, rfl⟩ := r
    exact ⟨_, Reads.int i t⟩
  | .str x, _, _, h, r => by
    cases h
    obtain ⟨t, rfl⟩ := r
    exact ⟨_, Reads.str x t⟩
  | .list ds, _, _, h, r => by
    cases h with
    | lst hs ha =>
      cases r
      obtain ⟨its, rv, ⟨o, n, ho, hc, _, hd⟩, _⟩ := I.list hs
      obtain ⟨as, hr⟩ := Dp.readsAll I ds _ its ha rv
      exact ⟨_, Reads.list ho hc hd hr⟩
  | .tuple ds, _, _, h, r => by
    cases h with
    | tup hs ha =>
      cases r
      obtain ⟨its, rv, ⟨o, ho, hc, n, hd⟩, _⟩ := I.tuple hs
      obtain ⟨as, hr⟩ := Dp.readsAll I ds _ its ha rv
      exact ⟨_, Reads.tuple ho hc hd hr⟩
  | .dict _, _, _, h, _ => by cases h
theorem Dp.readsAll (I : Inv X pins σ H s) : ∀ (ds : List PyData) (vs : List V) (us : List Value), DpAll X.K H vs ds → Vals vs us → ∃ as, ReadsAll s.heap us ds as
  | [], _, _, h, r => by
    cases h
    cases r
    exact ⟨_, ReadsAll.nil⟩
  | d :: ds, _, _, h, r => by
    cases h with
    | cons h1 h2 =>
      cases r with
      | cons r1 r2 =>
        obtain ⟨as, q1⟩ := Dp.reads I d _ _ h1 r1
        obtain ⟨bs, q2⟩ := Dp.readsAll I ds _ _ h2 r2
        exact ⟨_, ReadsAll.cons q1 q2⟩
end
end
section
variable {X : Cx}
end
end L2

namespace L2
open PySem PySem.Spec PyProof.Rows
abbrev CellAt (h : Heap) (c : Addr) (v : Option Value) : Prop := h.IsCell c v
def relS (scope sc : Scope) : Scope :=
  { scope with names := scope.names.map fun (n, k) => if (k == .free && sc.kind == .function && sc.names.lookup n == some .cell) then (n, .cell) else (n, k) }

def cloFrom (cells : List (Str × Addr)) : List (Str × NameKind) → List (Str × Addr) → List (Str × Addr)
  | [], acc => acc
  | (n, k) :: r, acc => if k == .free then cloFrom cells r ((n, (cells.lookup n).getD 0) :: acc) else cloFrom cells r acc

theorem closure_loop (env : Env) (f : Str × NameKind → List (Str × Addr) → Sem (ForInStep (List (Str × Addr))))
    (hf : ∀ n k c, f (n, k) c = if k == .free then (do let a ← cellOf env n; pure (.yield ((n, a) :: c))) else pure (.yield c)) :
    ∀ (names : List (Str × NameKind)) (acc : List (Str × Addr)), (∀ y ∈ names, y.2 = .free → ∃ c, env.cells.lookup y.1 = some c) → forIn names acc f = pure (cloFrom env.cells names acc)
  | [], acc, _ => by rw [List.forIn_nil]; rfl
  | (n, k) :: r, acc, h => by
    rw [List.forIn_cons, hf]
    have ih := fun acc => closure_loop env f hf r acc fun y hy => h y (List.mem_cons_of_mem _ hy)
    unfold cloFrom
    by_cases hk : (k == NameKind.free) = true
    · rw [if_pos hk, if_pos hk]
      obtain ⟨c, hc⟩ := h (n, k) List.mem_cons_self (by simpa using hk)
      have e : cellOf env n = pure c := by unfold cellOf; rw [hc]
      rw [e]
      have e2 : (env.cells.lookup n).getD 0 = c := by rw [hc]; rfl
      rw [e2]
      exact ih _
    · rw [if_neg hk, if_neg hk]
      exact ih _
theorem closure_ok {scope : Scope} {env : Env} (h : ∀ y ∈ scope.names, y.2 = .free → ∃ c, env.cells.lookup y.1 = some c) : closureFor scope env = pure (cloFrom env.cells scope.names []) := by
  simp only [closureFor]
  rw [closure_loop env _ (fun n k c => rfl) scope.names [] h]
  rfl

theorem mem_lookup {α : Type} : ∀ {l : List (Str × α)} {n : Str} {c : α}, (n, c) ∈ l → ∃ c', l.lookup n = some c'
  | (k, v) :: r, n, c, h => by
    rw [List.lookup_cons]
    cases hb : n == k with
    | true => exact ⟨_, rfl⟩
    | false =>
      rcases List.mem_cons.mp h with e | h
      · cases e; simp at hb
      · exact mem_lookup h

theorem cloFrom_mem {cells : List (Str × Addr)} : ∀ {names : List (Str × NameKind)} {acc : List (Str × Addr)} {n : Str} {c : Addr}, (n, c) ∈ cloFrom cells names acc → (n, c) ∈ acc ∨ ((n, .free) ∈ names ∧ c = (cells.lookup n).getD 0)
  | [], _, _, _, h => .inl h
  | (m, k) :: r, acc, n, c, h => by
    unfold cloFrom at h
    split at h
    · rename_i hk
      have hk : k = .free := by simpa using hk
      rcases cloFrom_mem h with h | ⟨h1, h2⟩
      · rcases List.mem_cons.mp h with e | h
        · cases e; exact .inr ⟨hk ▸ List.mem_cons_self, rfl⟩
        · exact .inl h
      · exact .inr ⟨List.mem_cons_of_mem _ h1, h2⟩
    · rcases cloFrom_mem h with h | ⟨h1, h2⟩
      · exact .inl h
      · exact .inr ⟨List.mem_cons_of_mem _ h1, h2⟩
theorem cloFrom_acc {cells : List (Str × Addr)} : ∀ {names : List (Str × NameKind)} {acc : List (Str × Addr)} {p : Str × Addr}, p ∈ acc → p ∈ cloFrom cells names acc
  | [], _, _, h => h
  | (m, k) :: r, acc, p, h => by
    unfold cloFrom
    split
    · exact cloFrom_acc (List.mem_cons_of_mem _ h)
    · exact cloFrom_acc h
theorem cloFrom_has {cells : List (Str × Addr)} : ∀ {names : List (Str × NameKind)} {acc : List (Str × Addr)} {n : Str}, (n, .free) ∈ names → (n, (cells.lookup n).getD 0) ∈ cloFrom cells names acc
  | (m, k) :: r, acc, n, h => by
    unfold cloFrom
    rcases List.mem_cons.mp h with e | h
    · cases e
      exact cloFrom_acc List.mem_cons_self
    · split
      · exact cloFrom_has h
      · exact cloFrom_has h

theorem cells_mem : ∀ {names : List (Str × NameKind)} {h : Heap} {acc : List (Str × Addr)} {x : Str} {c : Addr}, (x, c) ∈ cellsFrom h.objs.size names acc →
    (x, c) ∈ acc ∨ ((x, .cell) ∈ names ∧ h.objs.size ≤ c ∧ CellAt (pushCells h names) c none)
  | [], _, _, _, _, h => .inl h
  | (n, k) :: r, h, acc, x, c, hm => by
    unfold cellsFrom at hm
    unfold pushCells
    split at hm
    · rename_i hk
      rw [if_pos hk]
      have hk : k = .cell := by simpa using hk
      rw [← Heap.size_push h { cls := .type "cell", data := .cell none }] at hm
      rcases cells_mem hm with hm | ⟨h1, h2, h3⟩
      · rcases List.mem_cons.mp hm with e | hm
        · cases e
          exact .inr ⟨hk ▸ List.mem_cons_self, Nat.le_refl _, _, pushCells_keeps r _ _ _ (Heap.get?_push_size _ rfl), rfl⟩
        · exact .inl hm
      · rw [Heap.size_push] at h2
        exact .inr ⟨List.mem_cons_of_mem _ h1, Nat.le_of_succ_le h2, h3⟩
    · rename_i hk
      rw [if_neg hk]
      rcases cells_mem hm with hm | ⟨h1, h2, h3⟩
      · exact .inl hm
      · exact .inr ⟨List.mem_cons_of_mem _ h1, h2, h3⟩
theorem cells_acc : ∀ {names : List (Str × NameKind)} {n : Nat} {acc : List (Str × Addr)} {p : Str × Addr}, p ∈ acc → p ∈ cellsFrom n names acc
  | [], _, _, _, h => h
  | (m, k) :: r, n, acc, p, h => by
    unfold cellsFrom
    split
    · exact cells_acc (List.mem_cons_of_mem _ h)
    · exact cells_acc h
theorem cells_has : ∀ {names : List (Str × NameKind)} {n : Nat} {acc : List (Str × Addr)} {x : Str}, (x, .cell) ∈ names → ∃ c, (x, c) ∈ cellsFrom n names acc
  | (m, k) :: r, n, acc, x, h => by
    unfold cellsFrom
    rcases List.mem_cons.mp h with e | h
    · cases e
      exact ⟨n, cells_acc List.mem_cons_self⟩
    · split
      · exact cells_has h
      · exact cells_has h
theorem cells_inj : ∀ {names : List (Str × NameKind)} {h : Heap} {acc : List (Str × Addr)} {x y : Str} {c : Addr}, (∀ p ∈ acc, p.2 < h.objs.size) → (∀ x y c, (x, c) ∈ acc → (y, c) ∈ acc → x = y) →
    (x, c) ∈ cellsFrom h.objs.size names acc → (y, c) ∈ cellsFrom h.objs.size names acc → x = y
  | [], _, _, _, _, _, _, hi, h1, h2 => hi _ _ _ h1 h2
  | (n, k) :: r, h, acc, x, y, c, hl, hi, h1, h2 => by
    unfold cellsFrom at h1 h2
    split at h1
    · rename_i hk
      rw [if_pos hk] at h2
      rw [← Heap.size_push h { cls := .type "cell", data := .cell none }] at h1 h2
      refine cells_inj (h := h.push _) (fun p hp => ?_) (fun x y c a b => ?_) h1 h2
      · rw [Heap.size_push]
        rcases List.mem_cons.mp hp with rfl | hp
        · exact Nat.lt_succ_self _
        · exact Nat.lt_succ_of_lt (hl p hp)
      · rcases List.mem_cons.mp a with e | a <;> rcases List.mem_cons.mp b with e' | b
        · cases e; cases e'; rfl
        · cases e; exact absurd (hl _ b) (Nat.lt_irrefl _)
        · cases e'; exact absurd (hl _ a) (Nat.lt_irrefl _)
        · exact hi _ _ _ a b
    · rename_i hk
      rw [if_neg hk] at h2
      exact cells_inj hl hi h1 h2

theorem newEnv_comp {M : Model} {A : Around} {E : Value → Shared → Prop} {s : Shared} {scope : Scope} {globals : Addr} {closure : List (Str × Addr)} {qual : Str} {func : Option Addr} {code : Value} {around : Env} {builtins : Addr} {Q : Env → Shared → Prop}
    (h : Q (newEnv scope s.heap.objs.size globals (cellsFrom (s.heap.objs.size + 1) scope.names closure) qual func code (some around) builtins)
      { s with heap := pushCells (s.heap.push { cls := .type "dict", data := .dict #[] }) scope.names }) :
    wpAny M A (newFunctionEnv scope globals closure [] qual func code (some around) builtins) Q E s := by
  simp only [newFunctionEnv, Option.isSome_some, if_true]
  refine wpAny_bind (wpAny_alloc ?_)
  refine wpAny_bind (wpAny_layCells _ (fun n k c => rfl) scope.names closure _ _ ?_)
  rw [show ({ s with heap := s.heap.push { cls := .type "dict", data := .dict #[] } } : Shared).heap.objs.size = s.heap.objs.size + 1 from Heap.size_push ..]
  rw [List.forIn_nil]
  exact wpAny_bind (wpAny_pure (wpAny_pure h))

/-- every name of the written scope, in the scope that runs -/
theorem lookup_relS {sc : Scope} : ∀ {names : List (Str × NameKind)} {x : Str} {k : NameKind},
    (names.map fun (n, k) => if (k == NameKind.free && sc.kind == .function && sc.names.lookup n == some .cell) then (n, NameKind.cell) else (n, k)).lookup x = some k →
    ∃ k', names.lookup x = some k' ∧ (k = k' ∨ (k' = .free ∧ k = .cell))
  | [], _, _, h => by simp at h
  | (n, k₀) :: r, x, k, h => by
    have ih := @lookup_relS sc r x k
    have h' : List.lookup x ((if (k₀ == NameKind.free && sc.kind == .function && sc.names.lookup n == some .cell) = true then (n, NameKind.cell) else (n, k₀)) :: (r.map _)) = some k := h
    cases hx : x == n with
    | true =>
      simp only [List.lookup_cons, hx]
      by_cases hc : (k₀ == NameKind.free && sc.kind == .function && sc.names.lookup n == some .cell) = true
      · rw [if_pos hc] at h'
        simp only [List.lookup_cons, hx] at h'
        cases h'
        simp only [Bool.and_eq_true, beq_iff_eq] at hc
        exact ⟨k₀, rfl, .inr ⟨hc.1.1, rfl⟩⟩
      · rw [if_neg hc] at h'
        simp only [List.lookup_cons, hx] at h'
        cases h'
        exact ⟨_, rfl, .inl rfl⟩
    | false =>
      simp only [List.lookup_cons, hx]
      by_cases hc : (k₀ == NameKind.free && sc.kind == .function && sc.names.lookup n == some .cell) = true
      · rw [if_pos hc] at h'
        simp only [List.lookup_cons, hx] at h'
        exact ih h'
      · rw [if_neg hc] at h'
        simp only [List.lookup_cons, hx] at h'
        exact ih h'



/-- the names of a comprehension's block: its own (with their places in N), or captured -/
structure BlkOk (N : List Str) (sc scope : Scope) (own : List (Str × Nat)) : Prop where
  kind : scope.kind = .function
  uniq : ∀ y ∈ scope.names, scope.names.lookup y.1 = some y.2
  ix : ∀ p ∈ own, N[p.2]? = some p.1
  free : ∀ y ∈ scope.names, y.2 = .free → sc.names.lookup y.1 = some .cell ∨ sc.names.lookup y.1 = some .free
  own : ∀ y ∈ scope.names, y.2 = .local ∨ y.2 = .cell → y.1 ∈ own.map (·.1) ∨ y.1 ∉ N
/-- the slots of the block's own names forgotten -/
def wipe (σ : St) : List Nat → St
  | [] => σ
  | v :: vs => (wipe σ vs).set v none
theorem wipe_length (σ : St) : ∀ vs : List Nat, (wipe σ vs).length = σ.length
  | [] => rfl
  | v :: vs => by unfold wipe; rw [List.length_set, wipe_length σ vs]
theorem wipe_some {σ : St} {i : Nat} {x : V} : ∀ {vs : List Nat}, (wipe σ vs)[i]? = some (some x) → σ[i]? = some (some x) ∧ i ∉ vs
  | [], h => ⟨h, by simp⟩
  | v :: vs, h => by
    unfold wipe at h
    by_cases hi : v = i
    · subst hi
      by_cases hv : v < (wipe σ vs).length
      · rw [List.getElem?_set_self hv] at h; cases h
      · rw [List.getElem?_eq_none (by simpa using hv)] at h; cases h
    · rw [List.getElem?_set_ne hi] at h
      obtain ⟨h1, h2⟩ := wipe_some h
      exact ⟨h1, by simp only [List.mem_cons, not_or]; exact ⟨fun e => hi e.symm, h2⟩⟩

/-- the context of a block that starts at s, its iterator's objects at fp -/
abbrev Cx.blk (X : Cx) (s : Shared) (H : Hp) (scope : Scope) (cenv : Env) (fp : List Addr) : Cx := { X with s_0 := s, H_0 := H, env := cenv, outer := X.stack, ex := fp, fn := fun x => scope.names.lookup x == some .cell, pn := [], xe := fun _ _ => False }
section
variable {X : Cx} {pins : List (Addr × Obj)} {σ : St} {H : Hp} {s : Shared}
theorem block_start {scope : Scope} {own : List (Str × Nat)} {fp : List Addr} (I : Inv X pins σ H s) (ok : BlkOk X.N X.env.scope scope own) (hN : X.N.Nodup) (hfp : ∀ b ∈ fp, FpOk X pins H b ∧ b < s.heap.objs.size) :
    Inv (X.blk s H scope (compEnvC scope (cellsFrom (s.heap.objs.size + 1) scope.names (cloFrom X.env.cells scope.names [])) s.heap.objs.size X.env) fp) [] (wipe σ (own.map (·.2))) H { s with heap := pushCells (s.heap.push { cls := .type "dict", data := .dict #[] }) scope.names } := by
  have hfree : ∀ y ∈ scope.names, y.2 = .free → ∃ c, X.env.cells.lookup y.1 = some c := fun y hy e => by
    rcases ok.free y hy e with k | k
    · exact I.ok.has _ (.inl k)
    · exact I.ok.has _ (.inr k)
  generalize hcenv : compEnvC scope (cellsFrom (s.heap.objs.size + 1) scope.names (cloFrom X.env.cells scope.names [])) s.heap.objs.size X.env = cenv
  have kp : ∀ b o, s.heap.get? b = some o → (pushCells (s.heap.push { cls := .type "dict", data := .dict #[] }) scope.names).get? b = some o := fun b o e => pushCells_keeps _ _ _ _ (Heap.get?_push_of_some _ e)
  have hL : cenv.locals = s.heap.objs.size := by rw [← hcenv]; rfl
  have hcl : cenv.cells = cellsFrom (s.heap.objs.size + 1) scope.names (cloFrom X.env.cells scope.names []) := by rw [← hcenv]; rfl
  have hsc : cenv.scope = relS scope X.env.scope := by rw [← hcenv]; rfl
  rw [← Heap.size_push s.heap { cls := .type "dict", data := .dict #[] }] at hcl
  have cm : ∀ {y c}, (y, c) ∈ cloFrom X.env.cells scope.names [] → X.env.cells.lookup y = some c ∧ c < s.heap.objs.size := fun {y c} hm => by
    rcases cloFrom_mem hm with hm | ⟨h1, rfl⟩
    · cases hm
    · obtain ⟨c, hc⟩ := hfree _ h1 rfl
      rw [hc]
      obtain ⟨w, z⟩ := I.cell _ _ hc
      exact ⟨rfl, z.lt⟩
  have mem : ∀ {y c}, cenv.cells.lookup y = some c → (X.env.cells.lookup y = some c ∧ c < s.heap.objs.size) ∨ (s.heap.objs.size + 1 ≤ c ∧ CellAt (pushCells (s.heap.push { cls := .type "dict", data := .dict #[] }) scope.names) c none) := fun {y c} e => by
    rw [hcl] at e
    rcases cells_mem (PySem.mem_of_lookup e) with hm | ⟨_, h2, h3⟩
    · exact .inl (cm hm)
    · rw [Heap.size_push] at h2; exact .inr ⟨h2, h3⟩
  have look : ∀ {y}, scope.names.lookup y = some .free → ∃ c, cenv.cells.lookup y = some c ∧ X.env.cells.lookup y = some c := fun {y} hl => by
    have hy : (y, NameKind.free) ∈ scope.names := PySem.mem_of_lookup hl
    obtain ⟨c', e'⟩ := mem_lookup (cells_acc (names := scope.names) (n := (s.heap.push { cls := .type "dict", data := .dict #[] }).objs.size) (cloFrom_has (cells := X.env.cells) (acc := []) hy))
    rw [← hcl] at e'
    refine ⟨c', e', ?_⟩
    rw [hcl] at e'
    rcases cells_mem (PySem.mem_of_lookup e') with hm | ⟨h1, _, _⟩
    · exact (cm hm).1
    · have := ok.uniq _ h1
      rw [hl] at this; cases this
  have okB : (X.blk s H scope cenv fp).Ok := by
    refine ⟨I.ok.mod, by show cenv.scope.kind = _; rw [hsc]; exact ok.kind, by show cenv.globals = _; rw [← hcenv]; exact I.ok.glob, by show cenv.builtins = _; rw [← hcenv]; exact I.ok.blt, by show s.heap.objs.size ≤ cenv.locals; rw [hL]; exact Nat.le_refl _,
      fun y z c e1 e2 => ?_, fun y hy => ?_, fun y c z e => ?_, I.ok.hd, I.ok.frames, .inl rfl, fun b hb => ⟨?_, fun y c e z => ?_⟩, I.bs, Nat.le_trans I.ok.bsz I.sz, fun b o e hb => ?_, fun b hb z => ?_, I.stack, I.stkFree⟩
    · have e1 : cenv.cells.lookup y = some c := e1
      have e2 : cenv.cells.lookup z = some c := e2
      rw [hcl] at e1 e2
      refine cells_inj (fun p hp => ?_) (fun y z c a b => I.ok.inj y z c (cm a).1 (cm b).1) (PySem.mem_of_lookup e1) (PySem.mem_of_lookup e2)
      rw [Heap.size_push]
      exact Nat.lt_succ_of_lt (cm (y := p.1) (c := p.2) hp).2
    · show ∃ c, cenv.cells.lookup y = some c
      have key : ∀ k, cenv.kindOf y = some k → (k = .cell ∨ k = .free) → ∃ c, cenv.cells.lookup y = some c := fun k hk hk' => by
        unfold Env.kindOf at hk
        rw [hsc] at hk
        obtain ⟨k', e, r⟩ := lookup_relS hk
        have : k' = .cell ∨ k' = .free := by
          rcases r with rfl | ⟨rfl, _⟩
          · exact hk'
          · exact .inr rfl
        rcases this with rfl | rfl
        · obtain ⟨c, hm⟩ := cells_has (n := (s.heap.push { cls := .type "dict", data := .dict #[] }).objs.size) (acc := cloFrom X.env.cells scope.names []) (PySem.mem_of_lookup e)
          obtain ⟨c', e'⟩ := mem_lookup hm
          exact ⟨c', by rw [hcl]; exact e'⟩
        · obtain ⟨c, h1, _⟩ := look e
          exact ⟨c, h1⟩
      rcases hy with hy | hy
      · exact key _ hy (.inl rfl)
      · exact key _ hy (.inr rfl)
    · have z : (scope.names.lookup y == some NameKind.cell) = true := z
      have z : scope.names.lookup y = some .cell := by simpa using z
      have e : cenv.cells.lookup y = some c := e
      rw [hcl] at e
      rcases cells_mem (PySem.mem_of_lookup e) with hm | ⟨_, h2, _⟩
      · rcases cloFrom_mem hm with hm | ⟨h1, _⟩
        · cases hm
        · have q := ok.uniq _ h1
          rw [z] at q; cases q
      · rw [Heap.size_push] at h2
        exact Nat.le_of_succ_le h2
    · show b ≠ cenv.locals
      rw [hL]; exact Nat.ne_of_lt (hfp b hb).2
    · have e : cenv.cells.lookup y = some c := e
      rcases mem e with ⟨h1, _⟩ | ⟨h1, _⟩
      · exact (hfp b hb).1.2.2.2.2.1 y c h1 z
      · have h2 : s.heap.objs.size + 1 ≤ b := by rw [← z]; exact h1
        exact absurd (Nat.lt_of_lt_of_le (hfp b hb).2 (Nat.le_of_succ_le h2)) (Nat.lt_irrefl _)
    · rcases (hfp b hb).1.2.2.2.1 with z | z
      · exact I.ok.noex b o e z
      · exact absurd (Nat.lt_of_lt_of_le (Heap.lt_size e) (Nat.le_trans I.ok.bsz z)) (Nat.lt_irrefl _)
    · rcases List.mem_cons.mp (I.stkSub b z) with z | z
      · exact (hfp b hb).1.2.1 z
      · exact (hfp b hb).1.2.2.1 z
  refine ⟨okB, rfl, I.bare, Un.kept kp, ⟨fun _ => none, ?_, fun i y av e1 e2 e3 => ?_⟩, fun y c e => ?_, ?_, fun y c e => ?_, fun p hp => ?_, I.hok.kept kp, by rw [wipe_length]; exact I.len⟩
  · show Heap.Ns _ cenv.locals _
    rw [hL]
    exact Heap.Ns.keeps (Heap.Ns.new ..) fun b o e => pushCells_keeps _ _ _ _ e
  · obtain ⟨e2, hne⟩ := wipe_some e2
    have hfr : scope.names.lookup y = some .free ∧ (cenv.kindOf y = some .cell ∨ cenv.kindOf y = some .free) := by
      have key : ∀ k, cenv.scope.names.lookup y = some k → k = .local ∨ k = .cell ∨ k = .free → scope.names.lookup y = some .free ∧ (cenv.kindOf y = some .cell ∨ cenv.kindOf y = some .free) := fun k hk hk' => by
        have hk0 := hk
        rw [hsc] at hk
        obtain ⟨k', e, r⟩ := lookup_relS hk
        have no : ¬ (k' = .local ∨ k' = .cell) := fun hh => by
          rcases ok.own _ (PySem.mem_of_lookup e) hh with e' | e'
          · obtain ⟨p, hp, hpy⟩ := List.mem_map.mp e'
            have e3 := ok.ix p hp
            have : p.1 = y := hpy
            rw [this] at e3
            exact hne (List.mem_map.mpr ⟨p, hp, nodup_ix hN e3 e1⟩)
          · exact e' (List.mem_of_getElem? e1)
        rcases r with rfl | ⟨rfl, rfl⟩
        · rcases hk' with rfl | rfl | rfl
          · exact absurd (.inl rfl) no
          · exact absurd (.inr rfl) no
          · exact ⟨e, .inr hk0⟩
        · exact ⟨e, .inl hk0⟩
      have e3 : Vis cenv.scope y := e3
      rcases e3 with e3 | e3 | e3
      · exact key _ e3 (.inl rfl)
      · exact key _ e3 (.inr (.inl rfl))
      · exact key _ e3 (.inr (.inr rfl))
    obtain ⟨m, hn, hl⟩ := I.loc
    have hvis : Vis X.env.scope y := (ok.free _ (PySem.mem_of_lookup hfr.1) rfl).elim (fun k => .inr (.inl k)) (fun k => .inr (.inr k))
    obtain ⟨w, r, q⟩ := hl i y av e1 e2 hvis
    refine ⟨w, r, .inr ⟨hfr.2, ?_⟩⟩
    obtain ⟨c, h1, h2⟩ := look hfr.1
    rcases q with ⟨k, _⟩ | ⟨_, c', e', z⟩
    · have k : X.env.scope.names.lookup y = some .local := k
      rcases ok.free _ (PySem.mem_of_lookup hfr.1) rfl with k' | k' <;> rw [show X.env.scope.names.lookup y = _ from k'] at k <;> cases k
    · rw [h2] at e'; cases e'
      exact ⟨c, h1, z.keeps kp⟩
  · have e : cenv.cells.lookup y = some c := e
    rcases mem e with ⟨h1, _⟩ | ⟨_, z⟩
    · obtain ⟨w, z⟩ := I.cell y c h1
      exact ⟨w, z.keeps kp⟩
    · exact ⟨_, z⟩
  · show H cenv.locals = none
    rw [hL]; exact I.hok.fresh (Nat.le_refl _)
  · have e : cenv.cells.lookup y = some c := e
    rcases mem e with ⟨h1, _⟩ | ⟨h1, _⟩
    · exact I.freeC y c h1
    · exact I.hok.fresh (Nat.le_of_succ_le h1)
  · exact absurd (show p ∈ ([] : List (Addr × Obj)) ++ [] from hp) (by simp)

/-- an item appended to a tracked list -/
theorem app_ok {E : Value → Shared → Prop} {D : Addr} {xs : List V} {y : V} {v : Value} {Q : Value → Shared → Prop} (I : Inv X pins σ H s) (hD : H D = some (.lst xs)) (hz : xs.length < sizeLine) (r : RelV y v)
    (h : ∀ s', Inv X pins σ (upd H D (.lst (xs ++ [y]))) s' → Q .none s') : wpAny (model X.prog X.w) X.A (call (.builtin "list.append") [.ref D, v]) Q E s := by
  obtain ⟨hz', its, n, ri, e⟩ := I.hok D _ hD
  have hl := ri.length
  refine append_at (hsz := by rw [List.size_toArray]; omega) e fun h' sb ho' => ?_
  refine h { s with heap := h' } (I.write (t' := s.toks) (by rw [hD]; trivial) (.inl rfl) (fun b u hb q => (sb.2 b hb).trans q) ⟨_, ho'⟩ ⟨by rw [List.length_append]; exact hz, its ++ [v], n + 1, ri.append (.cons r .nil), ?_⟩)
  rw [ho']
  simp

/-- a clause's tests -/
def PTs (X : Cx) (ifs : List Expr) (t : TT) : Prop :=
  ∀ (pins : List (Addr × Obj)) (s : Shared) (σ : St) (H : Hp) (Q : Bool → Hp → Prop), Inv X pins σ H s → t σ H Q →
    wpAny (model X.prog X.w) X.A (forIn ifs true fun c r => if r = true then do let ok ← isTrue c X.env (eval c X.env); pure (ForInStep.yield ok) else pure (ForInStep.yield r)) (TP X pins σ Q) X.xe s
def tYes : TT := fun _ H Q => Q true H
theorem pts_nil : PTs X [] tYes := fun _ _ _ H _ I h => wpAny_tests_nil ⟨H, I, h⟩
theorem pts_one {c : Expr} {t : TT} (h : PT X c t) : PTs X [c] t := fun pins s σ H Q I hw => wpAny_tests_one (h pins s σ H Q I hw)
end

theorem thnF {α : Type} {t : Sem α} {Q Q' : α → Shared → Prop} {M : Model} {A : Around} {E : Value → Shared → Prop} {s : Shared} (h : wpAny M A t Q (fun _ _ => False) s) (hQ : ∀ a s, Q a s → Q' a s) : wpAny M A t Q' E s := wpAny_mono h hQ fun _ _ z => False.elim z

/-- the loop of a list comprehension's block, the target of any form (codeAny_compLoop_tests asks a target that no tuple goes to; statement and proof follow it, PyProof/CompMap.lean:41-61, with the step letOwnedTupleGo kept) -/
theorem compLoop_any {prog : Program} {w : World} {A : Around} {R : Result → Shared → Prop} {s : Shared} {elt target iter : Expr} {ifs : List Expr} {scope : Scope} {pos : Pos} {it acc : Value} {env : Env} (I : Nat → Shared → Prop)
    (turn : ∀ n s, I n s → wpAny (model prog w) A (pyNext it) (fun r s₁ => match r with
      | none => R (.ok .next) s₁
      | some v => wpAny (model prog w) A (letOwnedTupleGo target it v) (fun _ s₁' => wpAny (model prog w) A (assign target env v) (fun _ s₂ =>
          wpAny (model prog w) A (forIn ifs true fun c r => if r = true then do let ok ← isTrue c env (eval c env); pure (ForInStep.yield ok) else pure (ForInStep.yield r)) (fun ok s₃ =>
            if ok = true then wpAny (model prog w) A (eval elt env) (fun x s₄ =>
              wpAny (model prog w) A (call (.builtin "list.append") [acc, x]) (fun _ s₅ => ∃ m, m < n ∧ I m s₅) (notedBy (model prog w) A env fun e s' => R (.error e) s') s₄) (notedBy (model prog w) A env fun e s' => R (.error e) s') s₃
            else ∃ m, m < n ∧ I m s₃) (notedBy (model prog w) A env fun e s' => R (.error e) s') s₂) (notedBy (model prog w) A env fun e s' => R (.error e) s') s₁') (notedBy (model prog w) A env fun e s' => R (.error e) s') s₁) (notedBy (model prog w) A env fun e s' => R (.error e) s') s)
    (n : Nat) (h : I n s) :
    codeAny (model prog w) A (.compLoop (.ListComp elt [⟨target, iter, ifs, 0⟩] scope pos) 0 it acc env) R s := by
  refine codeAny_loop rfl I (fun n s hI => ?_) n h
  show wpAny _ A ((compTurn (.ListComp elt [⟨target, iter, ifs, 0⟩] scope pos) 0 it acc env).onRaise (fun x => do noteFrame x env; theTreesLotGoes x)) _ _ s
  refine wpAny_noted ?_
  rw [compTurn_list]
  refine wpAny_bind (wpAny_standAt (wpAny_bind (wpAny_mono (turn n s hI) (fun r s₁ h₁ => ?_) fun _ _ h' => h')))
  cases r with
  | none => exact wpAny_pure h₁
  | some v =>
    refine wpAny_bind (wpAny_mono h₁ (fun _ s₁' h₁' => ?_) fun _ _ h' => h')
    refine wpAny_bind (wpAny_mono h₁' (fun _ s₂ h₂ => wpAny_bind (wpAny_mono h₂ (fun ok s₃ h₃ => ?_) fun _ _ h' => h')) fun _ _ h' => h')
    cases ok with
    | false => exact wpAny_pure ⟨rfl, h₃⟩
    | true =>
      exact wpAny_bind (wpAny_bind (wpAny_mono h₃ (fun x s₄ h₄ => wpAny_bind (wpAny_mono h₄ (fun _ s₅ h₅ => wpAny_pure (wpAny_pure ⟨rfl, h₅⟩)) fun _ _ h' => h')) fun _ _ h' => h'))

section
variable {X : Cx}
/-- [elt for target in iter if ..]: D the new list; W by the turn and a measure, Nx what a turn is to reach -/
def tLc (wi : TI) (g : TG) (tt : TT) (te : TE) (vs : List Nat) : TE := fun σ H Q => wi σ H fun J H1 => ∀ D, H1 D = none → ∃ W : Nat → Nat → Hp → Prop, (∃ m, W 0 m (upd H1 D (.lst []))) ∧ ∀ i m H, W i m H →
  (J.stop i H ∧ Q (.ref D) H) ∨ (J.go i H ∧ ∃ Nx : Hp → Prop, (∀ H', Nx H' → ∃ m', m' < m ∧ W (i + 1) m' H') ∧ ∀ x H', J.yld i H x H' → g x (wipe σ vs) H' fun σ2 H2 => wipe σ2 vs = wipe σ vs ∧ tt σ2 H2 fun b H3 =>
    if b = true then te σ2 H3 fun y H4 => ∃ acc, H4 D = some (.lst acc) ∧ acc.length < sizeLine ∧ Nx (upd H4 D (.lst (acc ++ [y]))) else Nx H3)
theorem lc_core {pins : List (Addr × Obj)} {s : Shared} {σ : St} {H : Hp} {Q : VK} {elt tg iter : Expr} {ifs : List Expr} {scope : Scope} {own : List (Str × Nat)} {pos pos' : Pos} {wi : TI} {g : TG} {tt : TT} {te : TE} {use : Option (Value → Sem Unit)} {Qf : Value → Shared → Prop}
    (hc : X.calm = true) (hN : X.N.Nodup) (I : Inv X pins σ H s) (hi : PI X tg iter wi) (ok : BlkOk X.N X.env.scope scope own)
    (hg : ∀ (s : Shared) (H : Hp) (C : Addr) (cl : List (Str × Addr)) (fp : List Addr), PG (X.blk s H scope (compEnvC scope cl C X.env) fp) tg g) (ht : ∀ (s : Shared) (H : Hp) (C : Addr) (cl : List (Str × Addr)) (fp : List Addr), PTs (X.blk s H scope (compEnvC scope cl C X.env) fp) ifs tt)
    (he : ∀ (s : Shared) (H : Hp) (C : Addr) (cl : List (Str × Addr)) (fp : List Addr), PE (X.blk s H scope (compEnvC scope cl C X.env) fp) elt te) (hs : ∀ x, foldedSetIterable iter X.env x = pure x)
    (h : tLc wi g tt te (own.map (·.2)) σ H Q)
    (hRR : ∀ D C s' m H', Inv X pins σ H' s' → Q (.ref D) H' → s'.heap.Ns C m → FpOk X pins H' C → compPost (model X.prog X.w) X.A X.xe use Qf (.ref D) C (.ok .next) s') :
    wpAny (model X.prog X.w) X.A (comprehension (.ListComp elt [⟨tg, iter, ifs, 0⟩] scope pos) scope X.env pos' (newList []) false (eval iter X.env) use) Qf X.xe s := by
  have hfree : ∀ y ∈ scope.names, y.2 = .free → ∃ c, X.env.cells.lookup y.1 = some c := fun y hy e => by
    rcases ok.free y hy e with k | k
    · exact I.ok.has _ (.inl k)
    · exact I.ok.has _ (.inr k)
  refine wpAny_comprehension_free (use := use) rfl hs (closure_ok hfree) ok.kind (fun y hy e => by rw [ok.uniq y hy, e])
    (thn (hi pins s σ H _ I h) fun xv s1 hx => thn hx fun itv s2 h2 => ?_)
  obtain ⟨it, fp, tn, J, H2, e, I2, T, st2, f2, q⟩ := h2
  subst e
  refine wpAny_newObj_type (newEnv_comp ?_) (by show 0 ≤ sizeLine; decide)
  generalize hD : s2.heap.objs.size = D
  have hDn : H2 D = none := I2.hok.fresh (Nat.le_of_eq hD)
  obtain ⟨W, ⟨m0, w0⟩, turn⟩ := q D hDn
  -- the new list
  generalize hs3 : ({ s2 with heap := s2.heap.push { cls := .type "list", data := .seq ([] : List Value).toArray } } : Shared) = s3
  have I3 : Inv X pins σ (upd H2 D (.lst [])) s3 := by
    rw [← hs3]
    refine I2.laid (t' := s2.toks) (fun b o e => Heap.get?_push_of_some _ e) (Nat.le_of_eq hD) ⟨Nat.zero_le _, [], 0, .nil, ?_⟩
    rw [← hD]
    exact Heap.get?_push_size _ rfl
  have h3 : s3.heap = s2.heap.push { cls := .type "list", data := .seq ([] : List Value).toArray } := by rw [← hs3]
  have sz : ∀ b ∈ fp, b < s2.heap.objs.size := fun b hb => by
    obtain ⟨o, e, _⟩ := T.obj _ _ st2 b hb
    exact Heap.lt_size e
  have f3 : ∀ b ∈ fp, FpOk X pins (upd H2 D (.lst [])) b ∧ b < s3.heap.objs.size := fun b hb => by
    have hlt := sz b hb
    refine ⟨⟨?_, (f2 b hb).2⟩, by rw [h3, Heap.size_push]; exact Nat.lt_succ_of_lt hlt⟩
    rw [upd_ne (by rw [← hD]; exact Nat.ne_of_lt hlt)]
    exact (f2 b hb).1
  have st3 : tn 0 s3.heap := T.keep _ _ _ st2 fun b _ o e => by rw [h3]; exact Heap.get?_push_of_some _ e
  have I4 := block_start I3 ok hN f3
  have pg := hg s3 (upd H2 D (.lst [])) s3.heap.objs.size (cellsFrom (s3.heap.objs.size + 1) scope.names (cloFrom X.env.cells scope.names [])) fp
  have pt := ht s3 (upd H2 D (.lst [])) s3.heap.objs.size (cellsFrom (s3.heap.objs.size + 1) scope.names (cloFrom X.env.cells scope.names [])) fp
  have pe := he s3 (upd H2 D (.lst [])) s3.heap.objs.size (cellsFrom (s3.heap.objs.size + 1) scope.names (cloFrom X.env.cells scope.names [])) fp
  show codeAny _ _ (.compStart (.ListComp elt [⟨tg, iter, ifs, 0⟩] scope pos) 0 (.ref it) (.ref D) (compEnvC scope (cellsFrom (s3.heap.objs.size + 1) scope.names (cloFrom X.env.cells scope.names [])) s3.heap.objs.size X.env)) (compPost (model X.prog X.w) X.A X.xe use Qf (.ref D) s3.heap.objs.size) { s3 with heap := pushCells (s3.heap.push { cls := .type "dict", data := .dict #[] }) scope.names }
  have nfp : ∀ b ∈ fp, (upd H2 D (.lst [])) b = none := fun b hb => (f3 b hb).1.1
  generalize hce : compEnvC scope (cellsFrom (s3.heap.objs.size + 1) scope.names (cloFrom X.env.cells scope.names [])) s3.heap.objs.size X.env = ce at I4 pg pt pe ⊢
  have cL : ce.locals = s3.heap.objs.size := by subst hce; rfl
  generalize hH3 : upd H2 D (.lst []) = H3 at I3 I4 pg pt pe w0 nfp f3
  generalize hs4 : ({ s3 with heap := pushCells (s3.heap.push { cls := .type "dict", data := .dict #[] }) scope.names } : Shared) = s4 at I4 ⊢
  have st4 : tn 0 s4.heap := T.keep _ _ _ st3 fun b _ o e => by rw [← hs4]; exact pushCells_keeps _ _ _ _ (Heap.get?_push_of_some _ e)
  have stat : ∀ {σ' : St} {H' : Hp} {s' : Shared}, Inv (X.blk s3 H3 scope ce fp) [] σ' H' s' → (∀ b ∈ fp, H' b = none) → ∀ b ∈ fp, FpOk (X.blk s3 H3 scope ce fp) [] H' b := fun {σ' H' s'} I' hn b hb =>
    ⟨hn b hb, (I'.ok.exf b hb).1, I'.ok.exfs b hb, .inl hb, fun x c e => (I'.ok.exf b hb).2 x c e, fun p hp => absurd (show p ∈ ([] : List (Addr × Obj)) ++ [] from hp) (by simp)⟩
  have loop : codeAny (model X.prog X.w) X.A (.compLoop (.ListComp elt [⟨tg, iter, ifs, 0⟩] scope pos) 0 (.ref it) (.ref D) ce) (compPost (model X.prog X.w) X.A X.xe use Qf (.ref D) s3.heap.objs.size) s4 := by
    refine compLoop_any (fun n s' => ∃ i H', Inv (X.blk s3 H3 scope ce fp) [] (wipe σ (own.map (·.2))) H' s' ∧ tn i s'.heap ∧ (∀ b ∈ fp, H' b = none) ∧ W i n H') ?_ m0 ⟨0, H3, I4, st4, nfp, w0⟩
    rintro n s5 ⟨i, H5, I5, st5, n5, w5⟩
    rcases turn i n H5 w5 with ⟨stop, qq⟩ | ⟨go, Nx, hNx, step⟩
    · have td := T.done (X.blk s3 H3 scope ce fp) rfl rfl rfl hc i [] s5 _ H5 (fun _ _ => False) I5 (stat I5 n5) st5 stop
      refine thnF td fun r s6 ⟨hr, I6⟩ => ?_
      subst hr
      -- back in the def's context
      have I7 : Inv X pins σ H5 s6 := I3.call' (ch := fp) I6.os I6.base I6.hok I6.bare fun b hb => ⟨(f3 b hb).1.2.2.2.1, (f3 b hb).1.2.1, (f3 b hb).1.2.2.2.2.1, (f3 b hb).1.2.2.2.2.2⟩
      have nC : H5 s3.heap.objs.size = none := by
        have z : H5 ce.locals = none := I6.free
        rw [cL] at z
        exact z
      obtain ⟨m, hn, _⟩ := I6.loc
      have hn : s6.heap.Ns ce.locals m := hn
      rw [cL] at hn
      exact hRR D s3.heap.objs.size s6 m H5 I7 qq hn (I3.fpOk (Nat.le_refl _) nC)
    · have ti := T.item (X.blk s3 H3 scope ce fp) rfl rfl rfl hc i [] s5 _ H5 (fun _ _ => False) I5 (stat I5 n5) st5 go
      refine thnF ti fun r s6 ⟨u, hr, h6⟩ => ?_
      subst hr
      refine thnF h6 fun _ s7 ⟨x, H7, I7, r7, y7, st7, n7⟩ => ?_
      have I7' := I7.pinned (stat I7 n7) (T.obj _ _ st7)
      refine thnF (pg _ s7 _ H7 x u _ I7' r7 (step x H7 y7)) fun _ s8 ⟨σ8, H8, I8, hw8, q8⟩ => ?_
      refine thnF (pt _ s8 σ8 H8 _ I8 q8) fun b s9 ⟨H9, I9, q9⟩ => ?_
      -- the turn's end
      have fin : ∀ {s' : Shared} {H' : Hp}, Inv (X.blk s3 H3 scope ce fp) ([] ++ pinsAt fp s7.heap) σ8 H' s' → Nx H' → ∃ m, m < n ∧ ∃ i H', Inv (X.blk s3 H3 scope ce fp) [] (wipe σ (own.map (·.2))) H' s' ∧ tn i s'.heap ∧ (∀ b ∈ fp, H' b = none) ∧ W i m H' := fun {s' H'} I' nx => by
        obtain ⟨m', hm, w'⟩ := hNx H' nx
        have pin' : ∀ b ∈ fp, ∀ o, s7.heap.get? b = some o → s'.heap.get? b = some o ∧ H' b = none := fun b hb o e =>
          let z := I'.pin (b, o) (List.mem_append_right _ (List.mem_append_right _ (mem_pinsAt hb e)))
          ⟨z.1, z.2.1⟩
        have hl : (wipe σ (own.map (·.2))).length = σ8.length := by rw [← hw8, wipe_length]
        refine ⟨m', hm, i + 1, H', (I'.unpinned (pins := [])).weak hl (fun j v e => ?_), T.keep _ _ _ st7 fun b hb o e => (pin' b hb o e).1, fun b hb => ?_, w'⟩
        · rw [← hw8] at e
          exact (wipe_some e).1
        · obtain ⟨o, e, _⟩ := T.obj _ _ st7 b hb
          exact (pin' b hb o e).2
      cases b with
      | false =>
        simp only [Bool.false_eq_true, if_false] at q9 ⊢
        exact fin I9 q9
      | true =>
        simp only [if_true] at q9 ⊢
        refine thnF (pe _ s9 σ8 H9 _ I9 q9) fun z s10 ⟨yv, H10, I10, r10, acc, hD10, hz10, nx⟩ => ?_
        exact app_ok (X := X.blk s3 H3 scope ce fp) I10 hD10 hz10 r10 fun s11 I11 => fin I11 nx
  exact codeAny_compStart_list loop (T.self X.A 0 _ _ _ st4 loop)
/-- as a value -/
theorem pe_lc {elt tg iter : Expr} {ifs : List Expr} {scope : Scope} {own : List (Str × Nat)} {pos : Pos} {wi : TI} {g : TG} {tt : TT} {te : TE} (hc : X.calm = true) (hN : X.N.Nodup) (hi : PI X tg iter wi) (ok : BlkOk X.N X.env.scope scope own)
    (hg : ∀ (s : Shared) (H : Hp) (C : Addr) (cl : List (Str × Addr)) (fp : List Addr), PG (X.blk s H scope (compEnvC scope cl C X.env) fp) tg g) (ht : ∀ (s : Shared) (H : Hp) (C : Addr) (cl : List (Str × Addr)) (fp : List Addr), PTs (X.blk s H scope (compEnvC scope cl C X.env) fp) ifs tt)
    (he : ∀ (s : Shared) (H : Hp) (C : Addr) (cl : List (Str × Addr)) (fp : List Addr), PE (X.blk s H scope (compEnvC scope cl C X.env) fp) elt te) (hs : ∀ x, foldedSetIterable iter X.env x = pure x := by intro _; rfl) :
    PE X (.ListComp elt [⟨tg, iter, ifs, 0⟩] scope pos) (tLc wi g tt te (own.map (·.2))) := by
  intro pins s σ H Q I h
  rw [eval_ListComp]
  refine lc_core hc hN I hi ok hg ht he hs h fun D C s' m H' I' q hn f => ⟨m, hn, fun h'' sb => ?_⟩
  obtain ⟨f0, f1, f2, f3, f4, f5⟩ := f
  exact ⟨.ref D, H', I'.turned (t' := s'.toks) (fun b o hb e => (sb.2 b hb).trans e) f0 f1 f3 f4 f5, rfl, q⟩
/-- name = [..] on one line, the name a local -/
theorem ps_setLc {i : Nat} {y : Str} {py : Pos} {elt tg iter : Expr} {ifs : List Expr} {scope : Scope} {own : List (Str × Nat)} {pos spos : Pos} {wi : TI} {g : TG} {tt : TT} {te : TE} (hc : X.calm = true) (hN : X.N.Nodup) (hy : X.N[i]? = some y) (hyl : X.env.scope.names.lookup y = some .local)
    (hsw : swapsWith (.ListComp elt [⟨tg, iter, ifs, 0⟩] scope pos) (some (.Name y py)) spos.line X.env = pure true) (hi : PI X tg iter wi) (ok : BlkOk X.N X.env.scope scope own)
    (hg : ∀ (s : Shared) (H : Hp) (C : Addr) (cl : List (Str × Addr)) (fp : List Addr), PG (X.blk s H scope (compEnvC scope cl C X.env) fp) tg g) (ht : ∀ (s : Shared) (H : Hp) (C : Addr) (cl : List (Str × Addr)) (fp : List Addr), PTs (X.blk s H scope (compEnvC scope cl C X.env) fp) ifs tt)
    (he : ∀ (s : Shared) (H : Hp) (C : Addr) (cl : List (Str × Addr)) (fp : List Addr), PE (X.blk s H scope (compEnvC scope cl C X.env) fp) elt te) (hs : ∀ x, foldedSetIterable iter X.env x = pure x := by intro _; rfl) :
    PS X (.Assign [.Name y py] (.ListComp elt [⟨tg, iter, ifs, 0⟩] scope pos) spos) (tAsg (tLc wi g tt te (own.map (·.2))) (gName i)) := by
  intro pins s σ H D I h
  rw [exec_Assign_Name_used _ _ _ _ hsw]
  refine wpAny_bind (wpAny_standAt (wpAny_bind ?_))
  show wpAny _ X.A (do let _ ← comprehension (.ListComp elt [⟨tg, iter, ifs, 0⟩] scope pos) scope X.env (firstIterPos [⟨tg, iter, ifs, 0⟩] pos) (newList []) false (eval iter X.env) (some (assign (.Name y py) X.env))) _ _ s
  have h : tLc wi g tt te (own.map (·.2)) σ H (fun x H1 => gName i x σ H1 D.nx) := h
  refine wpAny_bind (thn (lc_core (Qf := fun _ s' => SP X pins D .next s') hc hN I hi ok hg ht he hs h fun L C s' m H' I' q hn f => ?_) fun _ s' hq => wpAny_pure (wpAny_pure hq))
  show wpAny _ _ (assign (.Name y py) X.env (.ref L)) _ _ _
  refine wpAny_assign_Name (store_ok2 (v := V.ref L) I' hN hy (.inl hyl) rfl (fun s2 I2 ⟨a, sb, ha⟩ => ?_) (.inr hyl))
  obtain ⟨f0, f1, f2, f3, f4, f5⟩ := f
  have haC : C ≠ a := by
    rcases ha with z | z
    · rw [z]; exact f1
    · exact fun e => f4 y a z e.symm
  refine ⟨m, hn.sameBut sb haC, fun h3 sb3 => ?_⟩
  exact ⟨_, H', I2.turned (t' := s2.toks) (fun b o hb e => (sb3.2 b hb).trans e) f0 f1 f3 f4 f5, q⟩
end

/-! ### the forms one uses -/
/-- over a list that the block leaves as it is -/
theorem lc_list {K : PySem.W.Frag} {a : Addr} {xs : List V} {g : TG} {tt : TT} {te : TE} {vs : List Nat} {σ : St} {H1 : Hp} {D : Addr} {Qd : Hp → Prop} (Pv : Nat → Hp → Prop) (h0 : Pv 0 (upd H1 D (.lst []))) (hl : ∀ i H, i ≤ xs.length → Pv i H → SqL K H a xs)
    (hs : ∀ i x H, xs[i]? = some x → Pv i H → g x (wipe σ vs) H fun σ2 H2 => wipe σ2 vs = wipe σ vs ∧ tt σ2 H2 fun b H3 =>
      if b = true then te σ2 H3 fun y H4 => ∃ acc, H4 D = some (.lst acc) ∧ acc.length < sizeLine ∧ Pv (i + 1) (upd H4 D (.lst (acc ++ [y]))) else Pv (i + 1) H3) (hd : ∀ H, Pv xs.length H → Qd H) :
    ∃ W : Nat → Nat → Hp → Prop, (∃ m, W 0 m (upd H1 D (.lst []))) ∧ ∀ i m H, W i m H →
      ((Itl K a).stop i H ∧ Qd H) ∨ ((Itl K a).go i H ∧ ∃ Nx : Hp → Prop, (∀ H', Nx H' → ∃ m', m' < m ∧ W (i + 1) m' H') ∧ ∀ x H', (Itl K a).yld i H x H' → g x (wipe σ vs) H' fun σ2 H2 => wipe σ2 vs = wipe σ vs ∧ tt σ2 H2 fun b H3 =>
        if b = true then te σ2 H3 fun y H4 => ∃ acc, H4 D = some (.lst acc) ∧ acc.length < sizeLine ∧ Nx (upd H4 D (.lst (acc ++ [y]))) else Nx H3) := by
  refine ⟨fun i m H => m = xs.length - i ∧ i ≤ xs.length ∧ Pv i H, ⟨xs.length, by simp, Nat.zero_le _, h0⟩, ?_⟩
  rintro i m H ⟨rfl, hi, p⟩
  have q := hl i H hi p
  by_cases hlt : i < xs.length
  · refine .inr ⟨⟨xs, xs[i], q, by simp [hlt]⟩, Pv (i + 1), fun H' p' => ⟨xs.length - (i + 1), by omega, rfl, hlt, p'⟩, fun x H' y => ?_⟩
    obtain ⟨e, y⟩ := y
    subst e
    exact hs i x _ (y xs q) p
  · have e : i = xs.length := by omega
    subst e
    exact .inl ⟨⟨xs, q, Nat.le_refl _⟩, hd H p⟩
def blkC (N : List Str) (sc scope : Scope) (own : List (Str × Nat)) : Bool :=
  (match scope.kind with | .function => true | _ => false) && (scope.names.all fun y => decide (scope.names.lookup y.1 = some y.2)) && (own.all fun p => decide (N[p.2]? = some p.1)) &&
    (scope.names.all fun y => match y.2 with
      | .free => (match sc.names.lookup y.1 with | some .cell => true | some .free => true | _ => false)
      | .local => decide (y.1 ∈ own.map (·.1)) || decide (y.1 ∉ N)
      | .cell => decide (y.1 ∈ own.map (·.1)) || decide (y.1 ∉ N)
      | _ => true)
theorem blkOk_by {N : List Str} {sc scope : Scope} {own : List (Str × Nat)} (h : blkC N sc scope own = true) : BlkOk N sc scope own := by
  unfold blkC at h
  simp only [Bool.and_eq_true, List.all_eq_true, decide_eq_true_eq] at h
  obtain ⟨⟨⟨h1, h2⟩, h3⟩, h4⟩ := h
  refine ⟨?_, h2, h3, fun y hy e => ?_, fun y hy e => ?_⟩
  · split at h1
    · assumption
    · cases h1
  · have q := h4 y hy
    simp only [e] at q
    split at q <;> first | exact .inl (by assumption) | exact .inr (by assumption) | cases q
  · have q := h4 y hy
    rcases e with e | e <;> (simp only [e, Bool.or_eq_true, decide_eq_true_eq] at q; exact q)
end L2

namespace L2
open PySem PySem.Spec PyProof.Rows


section
variable {prog : Program} {w : World} {A : Around} {R : Result → Shared → Prop} {s : Shared} {elt t0 i0 t1 i1 : Expr} {ifs0 ifs1 : List Expr} {scope : Scope} {pos : Pos} {it acc : Value} {env : Env}
end

section
variable {X : Cx}
end
end L2

namespace L2
open PySem PySem.Spec PyProof.Rows

/-! ### lists of pairs as tables -/
section
variable {κ : Type} [DecidableEq κ]
def valV (kvs : List (κ × V)) (k : κ) : Option V := (kvs.find? fun kv => decide (kv.1 = k)).map (·.2)
/-- in its place, or at the end -/
def putK (kvs : List (κ × V)) (k : κ) (v : V) : List (κ × V) :=
  if (kvs.any fun kv => decide (kv.1 = k)) = true then kvs.map (fun kv => if kv.1 = k then (kv.1, v) else kv) else kvs ++ [(k, v)]

theorem valV_pos {p : κ × V} {r : List (κ × V)} {k : κ} (e : p.1 = k) : valV (p :: r) k = some p.2 := by simp [valV, List.find?_cons, e]
theorem valV_neg {p : κ × V} {r : List (κ × V)} {k : κ} (e : ¬ p.1 = k) : valV (p :: r) k = valV r k := by simp [valV, List.find?_cons, e]
theorem valV_any (k : κ) : ∀ kvs : List (κ × V), (kvs.any fun kv => decide (kv.1 = k)) = (valV kvs k).isSome
  | [] => rfl
  | p :: r => by
    rw [List.any_cons]
    by_cases e : p.1 = k
    · simp only [valV_pos e, decide_eq_true e, Bool.true_or, Option.isSome_some]
    · rw [valV_neg e, decide_eq_false e, Bool.false_or]; exact valV_any k r
theorem length_putK (kvs : List (κ × V)) (k : κ) (v : V) : (putK kvs k v).length ≤ kvs.length + 1 := by
  unfold putK
  split
  · rw [List.length_map]; omega
  · rw [List.length_append, List.length_cons, List.length_nil]; omega

theorem RelO.isSome_eq {o : Option V} {u : Option Value} (r : RelO o u) : o.isSome = u.isSome := by
  cases o with
  | none => cases u with
    | none => rfl
    | some _ => exact (show False from r).elim
  | some _ => cases u with
    | none => exact (show False from r).elim
    | some _ => rfl

/-- raw tables of the same keys -/
theorem KV.val {kvs : List (κ × V)} {vs : List (κ × Value)} (r : KV kvs vs) (k : κ) : RelO (valV kvs k) (valueAt vs k) := by
  unfold KV at r
  induction r with
  | nil => exact True.intro
  | @cons p q ps qs h t ih =>
    obtain ⟨h1, h2⟩ := h
    by_cases e : p.1 = k
    · have e' : q.1 = k := h1.symm.trans e
      have b : valueAt (q :: qs) k = some q.2 := by simp [valueAt, List.find?_cons, e']
      rw [valV_pos e, b]; exact h2
    · have e' : ¬ q.1 = k := fun z => e (h1.trans z)
      have b : valueAt (q :: qs) k = valueAt qs k := by simp [valueAt, List.find?_cons, e']
      rw [valV_neg e, b]; exact ih
theorem KV.any {kvs : List (κ × V)} {vs : List (κ × Value)} (r : KV kvs vs) (k : κ) : (kvs.any fun kv => decide (kv.1 = k)) = vs.any fun kv => decide (kv.1 = k) := by
  unfold KV at r
  induction r with
  | nil => rfl
  | cons h t ih => rw [List.any_cons, List.any_cons, ih, h.1]
theorem KV.repl {kvs : List (κ × V)} {vs : List (κ × Value)} (r : KV kvs vs) (k : κ) {y : V} {u : Value} (ry : RelV y u) :
    KV (kvs.map fun kv => if kv.1 = k then (kv.1, y) else kv) (vs.map fun kv => if kv.1 = k then (kv.1, u) else kv) := by
  unfold KV at r ⊢
  induction r with
  | nil => exact .nil
  | @cons p q ps qs h t ih =>
    rw [List.map_cons, List.map_cons]
    refine .cons ?_ ih
    obtain ⟨h1, h2⟩ := h
    by_cases e : p.1 = k
    · rw [if_pos e, if_pos (h1.symm.trans e)]; exact ⟨h1, ry⟩
    · rw [if_neg e, if_neg (fun z => e (h1.trans z))]; exact ⟨h1, h2⟩
theorem KV.put {kvs : List (κ × V)} {vs : List (κ × Value)} (r : KV kvs vs) (k : κ) {y : V} {u : Value} (ry : RelV y u) : KV (putK kvs k y) (stored vs k u) := by
  unfold putK stored
  rw [r.any k]
  by_cases e : (vs.any fun kv => decide (kv.1 = k)) = true
  · rw [if_pos e, if_pos e]; exact r.repl k ry
  · rw [if_neg e, if_neg e]; exact Paired.snoc r ⟨rfl, ry⟩
theorem KV.length {kvs : List (κ × V)} {vs : List (κ × Value)} (r : KV kvs vs) : kvs.length = vs.length := Paired.length r
end


/-! ### a tracked dict, its keys ints and texts or tuples of these -/
theorem kV_is {P : Program} {w : World} {k : Key} {u : Value} (r : RelV (kV k) u) : (mixKind P w).is k u = true := by
  cases k with
  | inl i => obtain ⟨t, e⟩ := (show ∃ t, u = Value.int i t from r); subst e; exact mixKind_int P w i t
  | inr x => obtain ⟨t, e⟩ := (show ∃ t, u = Value.str x t from r); subst e; exact mixKind_str P w x t
theorem items_are {P : Program} {w : World} : ∀ {ks : List Key} {us : List Value}, Vals (ks.map kV) us → ItemsAre (mixKind P w) ks us
  | [], _, r => by rw [List.map_nil] at r; cases r; exact .nil
  | k :: ks, _, r => by
    rw [List.map_cons] at r
    cases r with
    | cons h t => exact .cons (kV_is h) (items_are t)

/-- raw entries of a dict with tuple keys -/
abbrev KT (H : Hp) : List (List Key × V) → List (List Key × Addr × Value) → Prop := Paired fun p q => p.1 = q.1 ∧ H q.2.1 = some (.tup (p.1.map kV)) ∧ RelV p.2 q.2.2
theorem KT.val {H : Hp} {kvs : List (List Key × V)} {xs : List (List Key × Addr × Value)} (r : KT H kvs xs) (k : List Key) : RelO (valV kvs k) ((atKey xs k).map (·.2)) := by
  induction r with
  | nil => exact True.intro
  | @cons p q ps qs h t ih =>
    obtain ⟨h1, _, h2⟩ := h
    by_cases e : p.1 = k
    · have e' : q.1 = k := h1.symm.trans e
      have b : atKey (q :: qs) k = some q.2 := by simp [atKey, List.find?_cons, e']
      rw [valV_pos e, b]; exact h2
    · have e' : ¬ q.1 = k := fun z => e (h1.trans z)
      have b : atKey (q :: qs) k = atKey qs k := by simp [atKey, List.find?_cons, e']
      rw [valV_neg e, b]; exact ih
theorem KT.repl {H : Hp} {kvs : List (List Key × V)} {xs : List (List Key × Addr × Value)} (r : KT H kvs xs) (k : List Key) {y : V} {u : Value} (ry : RelV y u) :
    KT H (kvs.map fun kv => if kv.1 = k then (kv.1, y) else kv) (xs.map (putAt k u)) := by
  induction r with
  | nil => exact .nil
  | @cons p q ps qs h t ih =>
    rw [List.map_cons, List.map_cons]
    refine .cons ?_ ih
    obtain ⟨h1, h2, h3⟩ := h
    unfold putAt
    by_cases e : p.1 = k
    · rw [if_pos e, if_pos (h1.symm.trans e)]; exact ⟨h1, h2, ry⟩
    · rw [if_neg e, if_neg (fun z => e (h1.trans z))]; exact ⟨h1, h2, h3⟩
theorem KT.put {H : Hp} {kvs : List (List Key × V)} {xs : List (List Key × Addr × Value)} (r : KT H kvs xs) (k : List Key) {b : Addr} {y : V} {u : Value} (hb : H b = some (.tup (k.map kV))) (ry : RelV y u) :
    KT H (putK kvs k y) (storedH xs k b u) := by
  have e : (kvs.any fun kv => decide (kv.1 = k)) = (atKey xs k).isSome := by
    rw [valV_any, (r.val k).isSome_eq, Option.isSome_map]
  unfold putK storedH
  rw [e]
  by_cases q : (atKey xs k).isSome = true
  · rw [if_pos q, if_pos q]; exact r.repl k ry
  · rw [if_neg q, if_neg q]; exact Paired.snoc r ⟨rfl, hb, ry⟩
theorem KT.keeps {H H' : Hp} {kvs : List (List Key × V)} {xs : List (List Key × Addr × Value)} (r : KT H kvs xs) (ht : ∀ b ys, H b = some (.tup ys) → H' b = some (.tup ys)) : KT H' kvs xs :=
  Paired.mapP r fun _ _ z => ⟨z.1, ht _ _ z.2.1, z.2.2⟩

section
variable {P : Program} {w : World} {H : Hp} {h : Heap} {a : Addr}
theorem rd_of {u : HO} (ok : HOk P w H h) (e : Rd H a u) : ObjOk P w H h a u := e.ok ok
theorem dk_rd {kvs : List (Key × V)} (ok : HOk P w H h) (e : Rd H a (.dK kvs)) : kvs.length ≤ sizeLine ∧ (a == sysModules) = false ∧ ∃ vs, KV kvs vs ∧ h.DictOf (mixKind P w) a vs :=
  show ObjOk P w H h a (.dK kvs) from rd_of ok e
theorem dk_of {kvs : List (Key × V)} (ok : HOk P w H h) (e : H a = some (.dK kvs)) : kvs.length ≤ sizeLine ∧ (a == sysModules) = false ∧ ∃ vs, KV kvs vs ∧ h.DictOf (mixKind P w) a vs := dk_rd ok (.inl e)
/-- a tracked tuple of ints and texts is a key -/
theorem key_of {ks : List Key} (ok : HOk P w H h) (e : H a = some (.tup (ks.map kV))) : (tupleKind (mixKind P w)).is h ks a := by
  obtain ⟨_, its, r, o, h1, h2, n, h3⟩ := (show ObjOk P w H h a (.tup (ks.map kV)) from ok a _ e)
  exact ⟨o, its.toArray, n, h1, h2, h3, by simpa using items_are r⟩
theorem dt_rd {kvs : List (List Key × V)} (ok : HOk P w H h) (e : Rd H a (.dT kvs)) : kvs.length ≤ sizeLine ∧ (a == sysModules) = false ∧
    ∃ xs, KT H kvs xs ∧ h.DictOfH (tupleKind (mixKind P w)) a xs := by
  obtain ⟨z, y, xs, r, o, es, ep, h1, h2, h3, h4, h5⟩ := (show ObjOk P w H h a (.dT kvs) from rd_of ok e)
  refine ⟨z, y, xs, r, o, es, ep, h1, h2, h3, h4, fun x hx => ?_, h5⟩
  have all : ∀ {l : List (List Key × V)} {m : List (List Key × Addr × Value)}, KT H l m → ∀ x ∈ m, (tupleKind (mixKind P w)).is h x.1 x.2.1 := by
    intro l m q
    induction q with
    | nil => intro x hx; exact nomatch hx
    | @cons p q ps qs hq t ih =>
      intro x hx
      rcases List.mem_cons.mp hx with e | hx
      · subst e
        exact key_of ok (by rw [← hq.1]; exact hq.2.1)
      · exact ih x hx
  exact all r x hx
theorem dt_of {kvs : List (List Key × V)} (ok : HOk P w H h) (e : H a = some (.dT kvs)) : kvs.length ≤ sizeLine ∧ (a == sysModules) = false ∧
    ∃ xs, KT H kvs xs ∧ h.DictOfH (tupleKind (mixKind P w)) a xs := dt_rd ok (.inl e)
end

/-- what the dict at a holds at the key y -/
def DGet (H : Hp) (a : Addr) (y : V) (r : Option V) : Prop :=
  (∃ kvs k, Rd H a (.dK kvs) ∧ y = kV k ∧ r = valV kvs k) ∨ ∃ kvs k b, Rd H a (.dT kvs) ∧ y = .ref b ∧ H b = some (.tup (k.map kV)) ∧ r = valV kvs k
/-- the heap behind a[y] = v -/
def DPut (H : Hp) (a : Addr) (y v : V) (H' : Hp) : Prop :=
  (∃ kvs k, H a = some (.dK kvs) ∧ y = kV k ∧ kvs.length < sizeLine ∧ H' = upd H a (.dK (putK kvs k v))) ∨
  ∃ kvs k b, H a = some (.dT kvs) ∧ y = .ref b ∧ H b = some (.tup (k.map kV)) ∧ kvs.length < sizeLine ∧ H' = upd H a (.dT (putK kvs k v))


section
variable {X : Cx} {pins : List (Addr × Obj)} {σ : St} {H : Hp} {s : Shared} {a : Addr} {y v : V} {u r : Value} {o : Option V} {A : Around} {E : Value → Shared → Prop}

theorem Inv.big (I : Inv X pins σ H s) : sysModules < s.heap.objs.size := by
  have h : mainGlobals < s.heap.objs.size := (I.mod.glob.keeps I.bk).lt
  exact Nat.lt_trans (by decide) h

/-- d[y], there -/
theorem d_getItem {Q : Value → Shared → Prop} (hu : A.units + 1 < cLine) (I : Inv X pins σ H s) (g : DGet H a y (some v)) (ry : RelV y u) (h : ∀ w' s', Inv X pins σ H s' → RelV v w' → Q w' s') :
    wpAny (model X.prog X.w) A (getItem (.ref a) u) Q E s := by
  rcases g with ⟨kvs, k, e, ey, l⟩ | ⟨kvs, k, b, e, ey, eb, l⟩
  · subst ey
    obtain ⟨z, hd, vs, rel, dd⟩ := dk_rd I.hok e
    obtain ⟨w', hw, rw'⟩ := RelO.some_of (v := v) (o := valueAt vs k) (by rw [l]; exact rel.val k)
    exact wpAny_getItem_of (kV_is ry) dd.mapOf hw (h w' _ (I.tok _) rw')
  · subst ey
    cases (show u = Value.ref b from ry)
    obtain ⟨z, hd, xs, rel, dd⟩ := dt_rd I.hok e
    obtain ⟨w', hw, rw'⟩ := RelO.some_of (v := v) (o := (atKey xs k).map (·.2)) (by rw [l]; exact rel.val k)
    obtain ⟨p, hp, hp2⟩ := Option.map_eq_some_iff.mp hw
    refine wpAny_getItem_heap (tupleKind_room_in1 hu) (key_of I.hok eb) dd hp ?_
    rw [hp2]
    exact h w' _ (I.tok _) rw'
theorem d_notIn {Q : Value → Shared → Prop} (hu : A.units + 1 < cLine) (I : Inv X pins σ H s) (g : DGet H a y o) (ry : RelV y u) (h : ∀ s', Inv X pins σ H s' → Q (.bool (!o.isSome)) s') :
    wpAny (model X.prog X.w) A (compareOp .NotIn u (.ref a)) Q E s := by
  rcases g with ⟨kvs, k, e, ey, l⟩ | ⟨kvs, k, b, e, ey, eb, l⟩
  · subst ey
    obtain ⟨z, hd, vs, rel, dd⟩ := dk_rd I.hok e
    refine wpAny_notIn_of (kV_is ry) hd dd.mapOf ?_
    rw [← (rel.val k).isSome_eq, ← l]
    exact h _ (I.tok _)
  · subst ey
    cases (show u = Value.ref b from ry)
    obtain ⟨z, hd, xs, rel, dd⟩ := dt_rd I.hok e
    refine wpAny_notIn_heap (tupleKind_room_in1 hu) (key_of I.hok eb) hd dd ?_
    have q := (rel.val k).isSome_eq
    rw [Option.isSome_map] at q
    rw [← q, ← l]
    exact h _ (I.tok _)
/-- a dict's object is replaced -/
theorem d_write {h' : Heap} {t' : Nat} {ob : HO} (I : Inv X pins σ H s) (mu : Mut (H a)) (hs : Heap.SameBut a s.heap h') (he : ∃ q, h'.get? a = some q) (new : ObjOk X.prog X.w (upd H a ob) h' a ob) :
    Inv X pins σ (upd H a ob) { s with heap := h', toks := t' } :=
  I.write (x := a) (e := a) mu (.inl rfl) (fun b q hb z => (hs.2 b hb).trans z) he new
theorem dk_new {P : Program} {w : World} {H' : Hp} {h' : Heap} {kvs : List (Key × V)} {vs : List (Key × Value)} (z : kvs.length ≤ sizeLine) (hd : (a == sysModules) = false) (rel : KV kvs vs) (dd : h'.DictOf (mixKind P w) a vs) :
    ObjOk P w H' h' a (.dK kvs) := ⟨z, hd, vs, rel, dd⟩
/-- d[y] = v -/
theorem d_setItem {H' : Hp} {Q : Unit → Shared → Prop} (hu : A.units + 1 < cLine) (I : Inv X pins σ H s) (g : DPut H a y v H') (ry : RelV y u) (rv : RelV v r) (h : ∀ s', Inv X pins σ H' s' → Q () s') :
    wpAny (model X.prog X.w) A (setItem (.ref a) u r) Q E s := by
  rcases g with ⟨kvs, k, e, ey, l, eH⟩ | ⟨kvs, k, b, e, ey, eb, l, eH⟩
  · subst ey eH
    obtain ⟨z, hd, vs, rel, dd⟩ := dk_of I.hok e
    have hz : vs.length ≤ sizeLine := by rw [← rel.length]; exact z
    have hl : (putK kvs k v).length ≤ sizeLine := by have := length_putK kvs k v; omega
    refine wpAny_setItem_pairs (hsz := hz) (kV_is ry) dd fun h' dd' hs => h _ ?_
    have he : ∃ q, h'.get? a = some q := let ⟨q, _, _, hq, _⟩ := dd'; ⟨q, hq⟩
    exact d_write I (by rw [e]; exact True.intro) hs he (dk_new hl hd (rel.put k rv) dd')
  · subst ey eH
    cases (show u = Value.ref b from ry)
    obtain ⟨z, hd, xs, rel, dd⟩ := dt_of I.hok e
    have hz : xs.length ≤ sizeLine := by rw [← Paired.length rel]; exact z
    have hl : (putK kvs k v).length ≤ sizeLine := by have := length_putK kvs k v; omega
    refine wpAny_setItem_heap (hsz := hz) (tupleKind_room_in1 hu) (key_of I.hok eb) dd fun h' dd' hs => h _ ?_
    obtain ⟨q, es, ep, hq, h2, h3, h4, _, h5⟩ := dd'
    refine d_write I (by rw [e]; exact True.intro) hs ⟨q, hq⟩ ⟨hl, hd, _, (rel.put k eb rv).keeps fun c ys ec => ?_, q, es, ep, hq, h2, h3, h4, h5⟩
    rw [upd_ne (ne_of ec e (fun z => nomatch z))]
    exact ec
end

section
variable {X : Cx} {pins : List (Addr × Obj)} {σ : St} {H : Hp} {s : Shared} {a : Addr} {kvs : List (Key × V)} {k : Key} {u : Value} {A : Around} {E : Value → Shared → Prop}
end


/-! ### readings and rules -/
/-- the element of a subscription, not a slice -/
def NoSl (i : Expr) : Prop := ∀ ov iv, subscripted i false ov iv = operate [ov, iv] (getItem ov iv)
theorem subD_of {prog : Program} {w : World} {A : Around} {E : Value → Shared → Prop} {s : Shared} {env : Env} {value slice : Expr} {pos : Pos} {T id : String} {Q : Value → Shared → Prop}
    (hl : typeLookup (.type T) "__getitem__" = pure (some (.builtin id))) (hs : NoSl slice)
    (h : wpAny (model prog w) A (eval value env) (fun o s₁ => wpAny (model prog w) A (eval slice env) (fun i s₂ => s₂.TypeIs o T ∧ wpAny (model prog w) A (getItem o i) Q E s₂) E s₁) E s) :
    wpAny (model prog w) A (eval (.Subscript value slice pos) env) Q E s := by
  refine Subscript_ (wpAny_mono h (fun o s₁ h₁ => wpAny_mono h₁ (fun i s₂ h₂ => ?_) fun _ _ x => x) fun _ _ x => x)
  obtain ⟨hT, h₂⟩ := h₂
  unfold subscriptTail
  refine wpAny_bind ?_
  rw [getitemInPython_of_ne hT.not_modules]
  refine wpAny_bind (wpAny_specialOf hT hl ?_)
  have fin : wpAny (model prog w) A (subscripted slice false o i) (fun r s₃ => wpAny (model prog w) A (letTemporaryGo value o r >>= fun _ => pure r) Q E s₃) E s₂ := by
    rw [hs o i]
    exact wpAny_operating (wpAny_mono h₂ (fun r s₃ h₃ => wpAny_bind (wpAny_letTemporaryGo (wpAny_pure h₃))) fun _ _ x => x)
  first
    | exact wpAny_pure (wpAny_bind fin)
    | exact wpAny_bind (wpAny_pure (wpAny_bind fin))
    | exact wpAny_bind fin

theorem dict_typeIs {X : Cx} {pins : List (Addr × Obj)} {σ : St} {H : Hp} {s : Shared} {a : Addr} {y : V} {o : Option V} (I : Inv X pins σ H s) (g : DGet H a y o) : s.TypeIs (.ref a) "dict" := by
  rcases g with ⟨kvs, k, e, _, _⟩ | ⟨kvs, k, b, e, _, _, _⟩
  · obtain ⟨_, _, vs, _, dd⟩ := dk_rd I.hok e
    exact dd.typeIs
  · obtain ⟨_, _, xs, _, dd⟩ := dt_rd I.hok e
    exact dd.typeIs

/-- d[y] -/
def tDGet (td ty : TE) : TE := fun σ H Q => td σ H fun x H1 => ty σ H1 fun y H2 => ∃ a v, x = .ref a ∧ DGet H2 a y (some v) ∧ Q v H2
def tDNotIn (ty td : TE) : TE := fun σ H Q => ty σ H fun y H1 => td σ H1 fun x H2 => ∃ a o, x = .ref a ∧ DGet H2 a y o ∧ Q (.bl (!o.isSome)) H2
/-- d[y] = v -/
def sDPut (td ty tv : TE) : TS := fun D σ H => tv σ H fun v H1 => td σ H1 fun x H2 => ty σ H2 fun y H3 => ∃ a H4, x = .ref a ∧ DPut H3 a y v H4 ∧ D.nx σ H4

section
variable {X : Cx} {o i e value : Expr} {pos pos' tpos : Pos} {td ty tv : TE}
theorem pe_dget (hu : X.A.units + 1 < cLine) (ho : PE X o td) (hi : PE X i ty) (hs : NoSl i) : PE X (.Subscript o i pos) (tDGet td ty) := by
  intro pins s σ H Q I h
  refine subD_of PySem.F.slot_dict_getitem.lookup hs (thn (ho pins s σ H _ I h) fun u s1 ⟨x, H1, I1, rx, q1⟩ => thn (hi pins s1 σ H1 _ I1 q1) fun iv s2 ⟨y, H2, I2, ry, a, v, ex, g, q2⟩ => ?_)
  subst ex
  obtain rfl : u = Value.ref a := rx
  exact ⟨dict_typeIs I2 g, d_getItem hu I2 g ry fun w' s3 I3 rw' => ⟨v, H2, I3, rw', q2⟩⟩
theorem pc_dnotin (hu : X.A.units + 1 < cLine) (hi : PE X i ty) (ho : PE X o td) : PC X .NotIn i o (tDNotIn ty td) := by
  intro pins s σ H Q I h
  refine thn (hi pins s σ H _ I h) fun iv s1 ⟨y, H1, I1, ry, q1⟩ => thn (ho pins s1 σ H1 _ I1 q1) fun u s2 ⟨x, H2, I2, rx, a, ov, ex, g, q2⟩ => ?_
  subst ex
  obtain rfl : u = Value.ref a := rx
  exact d_notIn hu I2 g ry fun s3 I3 => ⟨.bl (!ov.isSome), H2, I3, rfl, q2⟩
theorem ps_dput (hu : X.A.units + 1 < cLine) (ho : PE X o td) (hi : PE X i ty) (hv : PE X value tv) (hs : swapsWith value (some (.Subscript o i pos')) pos.line X.env = pure false) :
    PS X (.Assign [.Subscript o i pos'] value pos) (sDPut td ty tv) := by
  intro pins s σ H D I h
  refine wpAny_Assign_Subscript (thn (hv pins s σ H _ I h) fun r s1 ⟨v, H1, I1, rv, q1⟩ => thn (ho pins s1 σ H1 _ I1 q1) fun u s2 ⟨x, H2, I2, rx, q2⟩ => thn (hi pins s2 σ H2 _ I2 q2) fun iv s3 ⟨y, H3, I3, ry, a, H4, ex, g, q3⟩ => ?_) hs
  subst ex
  obtain rfl : u = Value.ref a := rx
  exact d_setItem hu I3 g ry rv fun s4 I4 => ⟨σ, H4, I4, q3⟩
end


/-! ### displays -/
theorem dk_empty {P : Program} {w : World} {H : Hp} (h : Heap) (hb : sysModules < h.objs.size) : ObjOk P w H (h.push { cls := .type "dict", data := .dict #[] }) h.objs.size (.dK []) :=
  ⟨Nat.zero_le _, beq_eq_false_iff_ne.mpr (Ne.symm (Nat.ne_of_lt hb)), [], .nil, Heap.DictOf.new h⟩
/-- {}, to be a dict of the kind that is wanted -/
def tDNewK : TE := fun _ H Q => ∀ p, H p = none → Q (.ref p) (upd H p (.dK []))
section
variable {X : Cx} {pos : Pos}
theorem pe_dnewK : PE X (.Dict [] [] pos) tDNewK := fun pins s σ H Q I h =>
  wpAny_Dict_empty ⟨.ref s.heap.objs.size, _, I.laid (a := s.heap.objs.size) (o := .dK []) (t' := s.toks) (fun _ _ q => Heap.get?_push_of_some _ q) (Nat.le_refl _) (dk_empty s.heap I.big), rfl, h _ (I.hok.fresh (Nat.le_refl _))⟩
end




/-! ### methods -/


section
variable {X : Cx} {pins : List (Addr × Obj)} {σ : St} {H : Hp} {s : Shared} {a : Addr} {y d : V} {u r : Value} {o : Option V} {A : Around} {E : Value → Shared → Prop}
end

section
variable {X : Cx} {o e f : Expr} {apos cpos : Pos} {td ty tx : TE}
end

/-! ### dict(d): a copy -/
section
variable {X : Cx} {pins : List (Addr × Obj)} {σ : St} {H : Hp} {s : Shared} {a : Addr} {kvs : List (Key × V)} {A : Around} {E : Value → Shared → Prop}
end


section
variable {X : Cx} {pins : List (Addr × Obj)} {σ : St} {H : Hp} {s : Shared} {a : Addr} {y : V} {u : Value} {A : Around} {E : Value → Shared → Prop}
end
end L2

namespace L2
open PySem PySem.Spec PyProof.Rows


section
variable {prog : Program} {w : World} {A : Around} {E : Value → Shared → Prop}


end

section
variable {X : Cx}
end
end L2

namespace L2
open PySem PySem.Spec PyProof.Rows


section
variable {X : Cx} {pins : List (Addr × Obj)} {σ : St} {H : Hp} {s : Shared} {h' : Heap}

/-! ### locking a thing while a statement runs -/
theorem Inv.lock {d : Addr} {u : HO} (I : Inv X pins σ H s) (h : H d = some u) (mu : Mut (some u)) : ∃ od, Inv X pins σ (upd H d (.frz od u)) s := by
  have x := I.hok d u h
  have ex : ∃ od, s.heap.get? d = some od := by
    cases u with
    | lst xs => obtain ⟨_, _, _, _, e⟩ := x; exact ⟨_, e⟩
    | dK kvs => obtain ⟨_, _, _, _, o, _, _, e, _⟩ := x; exact ⟨o, e⟩
    | dT kvs => obtain ⟨_, _, _, _, o, _, _, e, _⟩ := x; exact ⟨o, e⟩
    | set S n => obtain ⟨o, _, _, _, e, _⟩ := x; exact ⟨o, e⟩
    | ins C dx fs => obtain ⟨_, _, _, e, _⟩ := x; exact ⟨_, e⟩
    | ext φ => obtain ⟨_, ⟨_, e⟩, _⟩ := x; exact ⟨_, e⟩
    | _ => exact False.elim mu
  obtain ⟨od, e⟩ := ex
  have new : ObjOk X.prog X.w (upd H d (.frz od u)) s.heap d (.frz od u) := by
    refine ⟨e, x.stay (fun b v _ q => q) (fun b q => ?_) fun b xs q => ?_⟩
    · rw [upd_ne (fun z => by rw [z, h] at q; cases q; exact mu)]; exact q
    · rw [upd_ne (fun z => by rw [z, h] at q; cases q; exact mu)]; exact q
  exact ⟨od, I.write (x := d) (e := d) (t' := s.toks) (h' := s.heap) (by rw [h]; exact mu) (.inl rfl) (fun b v _ q => q) ⟨od, e⟩ new⟩
theorem Inv.nofrz {d : Addr} {u : HO} (I : Inv X pins σ H s) (h : H d = some u) (mu : Mut (some u)) : ∀ o' u', X.H_0 d ≠ some (.frz o' u') := fun o' u' e => by
  have q := I.base.frzs d o' u' e
  rw [h] at q
  cases q
  exact mu
theorem Inv.unlock {d : Addr} {od : Obj} {u : HO} (I : Inv X pins σ H s) (h : H d = some (.frz od u)) (hn : ∀ o' u', X.H_0 d ≠ some (.frz o' u')) : Inv X pins σ (upd H d u) s := by
  have neH : ∀ b o, H b = some o → (∀ o' u', o ≠ .frz o' u') → b ≠ d := fun b o e hne z => by
    rw [z, h] at e
    cases e
    exact hne _ _ rfl
  have neN : ∀ b, H b = none → b ≠ d := fun b e z => by rw [z, h] at e; cases e
  refine ⟨I.ok, I.os, I.bare, ⟨I.base.keep, I.base.slot, fun b o e n hx => ?_, I.base.there, fun b xs e => ?_, fun b o x e => ?_, fun b ps e => ?_⟩, I.loc, I.cell, ?_, fun x c e => ?_, fun p hp => ?_, fun b o e => ?_, I.len⟩
  · rw [upd_ne (neN b (I.base.free b o e n hx))]; exact I.base.free b o e n hx
  · have q := I.base.tups b xs e
    rw [upd_ne (neH b _ q (fun _ _ z => nomatch z))]; exact q
  · have q := I.base.frzs b o x e
    rw [upd_ne (fun z => by rw [z] at e; exact hn _ _ e)]; exact q
  · obtain ⟨m, q⟩ := I.base.tbls b ps e
    exact ⟨m, by rw [upd_ne (neH b _ q (fun _ _ z => nomatch z))]; exact q⟩
  · rw [upd_ne (neN _ I.free)]; exact I.free
  · rw [upd_ne (neN c (I.freeC x c e))]; exact I.freeC x c e
  · obtain ⟨e, n, r⟩ := I.pin p hp
    exact ⟨e, by rw [upd_ne (neN _ n)]; exact n, r⟩
  · by_cases hb : b = d
    · rw [hb, upd_same] at e
      cases e
      rw [hb]
      obtain ⟨_, x⟩ := I.hok d _ h
      exact x.stay (fun c v _ q => q) (fun c q => by rw [upd_ne (neH c _ q (fun _ _ z => nomatch z))]; exact q) fun c xs q => by rw [upd_ne (neH c _ q (fun _ _ z => nomatch z))]; exact q
    · rw [upd_ne hb] at e
      exact (I.hok b o e).stay (fun c v _ q => q) (fun c q => by rw [upd_ne (neH c _ q (fun _ _ z => nomatch z))]; exact q) fun c xs q => by rw [upd_ne (neH c _ q (fun _ _ z => nomatch z))]; exact q
end
/-- the statement runs while the thing at d is locked (read, not written); d and what stands there are the reading's choice -/
def tLock (t : TS) : TS := fun D σ H => ∃ d u, H d = some u ∧ Mut (some u) ∧ ∀ od, t ⟨fun σ' H' => H' d = some (.frz od u) ∧ D.nx σ' (upd H' d u), fun v H' => H' d = some (.frz od u) ∧ D.rt v (upd H' d u), fun σ' H' => H' d = some (.frz od u) ∧ D.bk σ' (upd H' d u), fun σ' H' => H' d = some (.frz od u) ∧ D.ct σ' (upd H' d u)⟩ σ (upd H d (.frz od u))
section
variable {X : Cx}
theorem ps_lock {st : Stmt} {t : TS} (h : PS X st t) : PS X st (tLock t) := by
  intro pins s σ H D I hw
  obtain ⟨d, u, hd, mu, hw⟩ := hw
  obtain ⟨od, I1⟩ := I.lock hd mu
  refine thn (h pins s σ _ _ I1 (hw od)) fun f s1 q => ?_
  cases f with
  | next => obtain ⟨σ', H', I2, e, q⟩ := q; exact ⟨σ', _, I2.unlock e (I.nofrz hd mu), q⟩
  | brk => obtain ⟨σ', H', I2, e, q⟩ := q; exact ⟨σ', _, I2.unlock e (I.nofrz hd mu), q⟩
  | cont => obtain ⟨σ', H', I2, e, q⟩ := q; exact ⟨σ', _, I2.unlock e (I.nofrz hd mu), q⟩
  | ret v => obtain ⟨x, σ', H', I2, r, e, q⟩ := q; exact ⟨x, σ', _, I2.unlock e (I.nofrz hd mu), r, q⟩

/-! ### one iterator just laid -/
theorem pi_one {tg : Expr} {pins : List (Addr × Obj)} {σ : St} {H : Hp} {s : Shared} {R : It → Hp → Prop} {J : It} {tn : Nat → Heap → Prop} {tk : Nat} (I : Inv X pins σ H s) (o : Obj)
    (T : Turn X.prog X.w X.K tg J [s.heap.objs.size] s.heap.objs.size tn) (st : tn 0 (s.heap.push o)) (q : R J H) : PIE X pins σ tg R (.ref s.heap.objs.size) { s with heap := s.heap.push o, toks := tk } := by
  refine ⟨s.heap.objs.size, [s.heap.objs.size], tn, J, H, rfl, I.kept fun b ob e => Heap.get?_push_of_some _ e, T, st, fun b hb => ?_, q⟩
  have e : b = s.heap.objs.size := by simpa using hb
  subst e
  exact I.fpOk (Nat.le_refl _) (I.hok.fresh (Nat.le_refl _))
end

/-! ### range with a step -/
section
variable {X : Cx} {tg : Expr}
end

/-! ### reversed(list) -/
section
variable {X : Cx} {tg : Expr}
end

/-! ### a str -/

/-! ### a dict's keys: any dict's entries -/
section
variable {prog : Program} {w : World} {A : Around} {E : Value → Shared → Prop} {s : Shared}
theorem iter_keys {d : Addr} {o : Obj} {es : Array DictEntry} {ep : Nat} {Q : Value → Shared → Prop} (hd : (d == sysModules) = false) (ho : s.heap.get? d = some o) (hc : o.ExactDict) (hdat : o.data = .dict es ep)
    (hQ : Q (.ref s.heap.objs.size) { s with heap := s.heap.push { cls := .type "dict_keyiterator", data := .fields #[.ref d, .int 0 0, .int es.size 0, .int ep 0] } }) :
    wpAny (model prog w) A (pyIter (.ref d)) Q E s := by
  have hT : s.TypeIs (.ref d) "dict" := ⟨o, ho, hc.1⟩
  refine wpAny_pyIter_slot hT F.slot_dict_iter (wpAny_call_entry F.slot_dict_iter hT F.entry_dict_iter ?_ (F.args_dict_iter_1 _))
  unfold Builtin.«dict.__iter__»
  refine wpAny_bind ?_
  unfold Builtin.Dict.dictSlotNone
  refine wpAny_bind (wpAny_notOrdered_dict hT ?_)
  show wpAny _ _ (pure (Value.ref d)) _ _ s
  refine wpAny_pure ?_
  show wpAny _ _ (Builtin.Dict.showsAll d >>= _) _ _ s
  unfold Builtin.Dict.showsAll
  rw [if_neg (by rw [hd]; exact Bool.false_ne_true)]
  refine wpAny_bind (wpAny_pure ?_)
  refine wpAny_bind (wpAny_dictEntries ho hdat ?_)
  refine wpAny_bind (wpAny_dictEpoch ho hdat ?_)
  refine wpAny_bind (wpAny_newObj_type (wpAny_pure ⟨_, rfl, "dict_keyiterator", _, ⟨_, Heap.get?_push_size _ rfl, rfl⟩, F.slot_dict_keyiterator_next.lookup, ?_⟩))
  simpa [rawInt] using hQ
theorem next_key_item {it d : Addr} {i n ep : Nat} {od : Obj} {es : Array DictEntry} {en : DictEntry} {Q : Option Value → Shared → Prop} (hit : s.heap.IsKeyIter it d i n ep) (hod : s.heap.get? d = some od) (hdd : od.data = .dict es ep)
    (hsz : es.size = n) (hx : es[i]? = some en) (hQ : ∀ h', h'.IsKeyIter it d (i + 1) n ep → Heap.SameBut it s.heap h' → Q (some en.key) { s with heap := h' }) : wpAny (model prog w) A (pyNext (.ref it)) Q E s := by
  obtain ⟨o, ho, hc, hd⟩ := id hit
  unfold pyNext
  refine wpAny_bind (wpAny_attempt (wpAny_callSpecial?_slot (name := Str.ofString "__next__") hit.typeIs F.slot_dict_keyiterator_next
    (wpAny_call_entry F.slot_dict_keyiterator_next hit.typeIs F.entry_dict_keyiterator_next ?_ (F.args_dict_keyiterator_next_1 _))))
  refine wpAny_bind (wpAny_pure ?_)
  refine wpAny_bind ?_
  refine wpAny_bind ?_
  first | refine wpAny_bind (wpAny_typeNameOfWhole_keyiter hit.typeIs (wpAny_pure ?_)) | refine wpAny_bind (wpAny_typeNameOf_keyiter hit.typeIs (wpAny_pure ?_))
  refine wpAny_bind (wpAny_fieldsOf ho hd ?_)
  have hown : Builtin.Dict_items.ownsTuple "dict_keyiterator" = false := by decide
  simp only [hown, Bool.false_eq_true, if_false]
  show wpAny _ _ (if (Value.ref d == Value.none) = true then _ else _) _ _ s
  rw [if_neg (show ¬ ((Value.ref d == Value.none) = true) from Bool.false_ne_true)]
  refine wpAny_bind (wpAny_pure ?_)
  refine wpAny_bind (wpAny_dictEntries hod hdd ?_)
  rw [if_neg (by rw [hsz]; simp)]
  refine wpAny_bind (wpAny_pure ?_)
  refine wpAny_bind (wpAny_dictEpoch hod hdd ?_)
  rw [if_neg (by simp)]
  refine wpAny_pure ?_
  obtain ⟨hlt', hen⟩ := Array.getElem?_eq_some_iff.mp hx
  simp only [show ¬ ((i : Int) < 0) from by omega, if_false, Int.toNat_natCast, Array.getElem?_eq_getElem hlt']
  refine wpAny_bind ?_
  first | refine wpAny_bind (wpAny_typeNameOfWhole_keyiter hit.typeIs (wpAny_pure ?_)) | refine wpAny_bind (wpAny_typeNameOf_keyiter hit.typeIs (wpAny_pure ?_))
  refine wpAny_bind (wpAny_isOneOf_keyiter hit.typeIs ?_)
  show wpAny _ _ (setField (.ref it) 1 (rawInt ((i : Int) + 1)) >>= _) _ _ s
  refine wpAny_bind (wpAny_setField ho hd (by simp) ?_)
  have hit' : (s.heap.update it (Obj.mapFields (·.setIfInBounds 1 (rawInt ((i : Int) + 1))))).IsKeyIter it d (i + 1) n ep :=
    ⟨_, Heap.get?_update_self _ ho (Obj.isFreed_of_fields (Obj.data_mapFields hd _)), (Obj.cls_mapFields ..).trans hc, by rw [Obj.data_mapFields hd]; simp [rawInt]⟩
  refine wpAny_bind (wpAny_holding ?_)
  refine wpAny_bind (wpAny_isOneOf_keyiter (s := { s with heap := s.heap.update it (Obj.mapFields (·.setIfInBounds 1 (rawInt ((i : Int) + 1)))) }) hit'.typeIs ?_)
  show wpAny _ _ (pure es[i].key) _ _ _
  rw [hen]
  exact wpAny_pure (wpAny_pure ⟨_, rfl, wpAny_pure (hQ _ hit' (Heap.SameBut.update ..))⟩)
theorem next_key_end {it d : Addr} {i n ep : Nat} {od : Obj} {es : Array DictEntry} {Q : Option Value → Shared → Prop} (hh : A.handled = none) (hit : s.heap.IsKeyIter it d i n ep) (hod : s.heap.get? d = some od) (hdd : od.data = .dict es ep)
    (hsz : es.size = n) (hge : n ≤ i) (hQ : ∀ h', Heap.ExtBut it s.heap h' → Q none { s with heap := h' }) : wpAny (model prog w) A (pyNext (.ref it)) Q E s := by
  obtain ⟨o, ho, hc, hd⟩ := id hit
  unfold pyNext
  refine wpAny_bind (wpAny_attempt (wpAny_callSpecial?_slot (name := Str.ofString "__next__") hit.typeIs F.slot_dict_keyiterator_next
    (wpAny_call_entry F.slot_dict_keyiterator_next hit.typeIs F.entry_dict_keyiterator_next ?_ (F.args_dict_keyiterator_next_1 _))))
  refine wpAny_bind (wpAny_pure ?_)
  refine wpAny_bind ?_
  refine wpAny_bind ?_
  first | refine wpAny_bind (wpAny_typeNameOfWhole_keyiter hit.typeIs (wpAny_pure ?_)) | refine wpAny_bind (wpAny_typeNameOf_keyiter hit.typeIs (wpAny_pure ?_))
  refine wpAny_bind (wpAny_fieldsOf ho hd ?_)
  have hown : Builtin.Dict_items.ownsTuple "dict_keyiterator" = false := by decide
  simp only [hown, Bool.false_eq_true, if_false]
  show wpAny _ _ (if (Value.ref d == Value.none) = true then _ else _) _ _ s
  rw [if_neg (show ¬ ((Value.ref d == Value.none) = true) from Bool.false_ne_true)]
  refine wpAny_bind (wpAny_pure ?_)
  refine wpAny_bind (wpAny_dictEntries hod hdd ?_)
  rw [if_neg (by rw [hsz]; simp)]
  refine wpAny_bind (wpAny_pure ?_)
  refine wpAny_bind (wpAny_dictEpoch hod hdd ?_)
  rw [if_neg (by simp)]
  refine wpAny_pure ?_
  have hge' : es.size ≤ i := by rw [hsz]; exact hge
  simp only [show ¬ ((i : Int) < 0) from by omega, if_false, Int.toNat_natCast, Array.getElem?_eq_none hge']
  refine wpAny_bind ?_
  first | refine wpAny_bind (wpAny_typeNameOfWhole_keyiter hit.typeIs (wpAny_pure ?_)) | refine wpAny_bind (wpAny_typeNameOf_keyiter hit.typeIs (wpAny_pure ?_))
  show wpAny _ _ (setField (.ref it) 0 .none >>= _) _ _ s
  refine wpAny_bind (wpAny_setField ho hd (by simp) ?_)
  show wpAny _ _ (newExc (.type "StopIteration") [] >>= _) _ _ _
  refine wpAny_bind ?_
  simp only [newExc, newTuple]
  refine wpAny_bind (wpAny_newObj_type ?_ (by size_fits))
  refine wpAny_bind (m := firstArgMember _ _) (wpAny_of_eq (a := Value.none) (by first | rfl | (simp only [firstArgMember]; rfl)) ?_)
  refine wpAny_newObj_type ?_ (by size_fits)
  simp only [raiseNew]
  refine wpAny_bind (wpAny_handled ?_)
  rw [show A.in1.handled = none from hh]
  refine wpAny_bind (wpAny_pure (wpAny_throw ?_))
  refine wpAny_bind (wpAny_isInstance (T := "StopIteration") (b := true) ⟨_, Heap.get?_push_size _ rfl, rfl⟩ isSubtype_stop ?_)
  exact wpAny_pure (hQ _ (((Heap.SameBut.update ..).extBut.push _).push _))
end

/-! ### a locked dict -/
theorem kv_get {κ : Type} {kvs : List (κ × V)} {vs : List (κ × Value)} (h : KV kvs vs) : ∀ {i : Nat} {k : κ} {v : V}, kvs[i]? = some (k, v) → ∃ u, vs[i]? = some (k, u) ∧ RelV v u := by
  unfold KV at h
  induction h with
  | nil => intro i k v e; simp at e
  | @cons a b l₁ l₂ r t ih =>
    intro i k v e
    cases i with
    | zero =>
      simp only [List.getElem?_cons_zero, Option.some.injEq] at e
      subst e
      refine ⟨b.2, ?_, r.2⟩
      simp only [List.getElem?_cons_zero]
      exact congrArg some (Prod.ext r.1.symm rfl)
    | succ j =>
      simp only [List.getElem?_cons_succ] at e ⊢
      exact ih e
theorem paired_get {α β : Type} {G : α → β → Prop} {l₁ : List α} {l₂ : List β} (h : Paired G l₁ l₂) : ∀ {i : Nat} {a : α}, l₁[i]? = some a → ∃ b, l₂[i]? = some b ∧ G a b := by
  induction h with
  | nil => intro i a e; simp at e
  | @cons a b l₁ l₂ r t ih =>
    intro i a' e
    cases i with
    | zero =>
      simp only [List.getElem?_cons_zero, Option.some.injEq] at e
      subst e
      exact ⟨b, rfl, r⟩
    | succ j =>
      simp only [List.getElem?_cons_succ] at e ⊢
      exact ih e
theorem relV_key {k : Key} {u : Value} (h : keyIs k u = true) : RelV (kV k) u := by
  rcases keyIs_shape h with ⟨i, t, rfl, rfl⟩ | ⟨x, t, rfl, rfl⟩
  · exact ⟨t, rfl⟩
  · exact ⟨t, rfl⟩
section
variable {X : Cx} {pins : List (Addr × Obj)} {σ : St} {H : Hp} {s : Shared} {d : Addr} {o : Obj}
theorem Inv.frzK {kvs : List (Key × V)} (I : Inv X pins σ H s) (h : H d = some (.frz o (.dK kvs))) :
    (d == sysModules) = false ∧ s.heap.get? d = some o ∧ o.ExactDict ∧ ∃ (es : Array DictEntry) (ep : Nat) (vs : List (Key × Value)), o.data = .dict es ep ∧ es.size = kvs.length ∧ KV kvs vs ∧ s.heap.DictAt (mixKind X.prog X.w) d vs ep := by
  obtain ⟨hd, z, hs, vs, kv, o', es, ep, ho, hx, hdt, r⟩ := I.hok d _ h
  rw [hd] at ho
  cases ho
  refine ⟨hs, hd, hx, es, ep, vs, hdt, ?_, kv, o, es, hd, hx, hdt, r⟩
  have l1 := r.2.1.length
  have l2 : kvs.length = vs.length := Paired.length kv
  rw [Array.length_toList] at l1
  omega
/-- the same for tuple keys -/
theorem Inv.frzT {kvs : List (List Key × V)} (I : Inv X pins σ H s) (h : H d = some (.frz o (.dT kvs))) :
    (d == sysModules) = false ∧ s.heap.get? d = some o ∧ o.ExactDict ∧ ∃ (es : Array DictEntry) (ep : Nat), o.data = .dict es ep ∧ es.size = kvs.length ∧
      ∀ (i : Nat) (k : List Key) (v : V), kvs[i]? = some (k, v) → ∃ (en : DictEntry) (q : Addr), es[i]? = some en ∧ en.key = .ref q ∧ H q = some (.tup (k.map kV)) := by
  obtain ⟨hd, z, hs, xs, pr, o', es, ep, ho, hx, hdt, he, _⟩ := I.hok d _ h
  rw [hd] at ho
  cases ho
  refine ⟨hs, hd, hx, es, ep, hdt, ?_, fun i k v e => ?_⟩
  · have l1 : es.size = xs.length := size_of_entries he
    have l2 : kvs.length = xs.length := Paired.length pr
    omega
  · obtain ⟨b, hb, e1, e2, _⟩ := paired_get pr e
    have q := entry_at he i
    rw [hb] at q
    exact ⟨_, b.2.1, q, rfl, e2⟩
end

/-- the keys of the locked dict at d, in their order -/
def Itk (d : Addr) (o : Obj) (kvs : List (Key × V)) : It :=
  ⟨fun i H => H d = some (.frz o (.dK kvs)) ∧ i < kvs.length, fun i H x H' => H' = H ∧ ∃ k v, kvs[i]? = some (k, v) ∧ x = kV k, fun i H => H d = some (.frz o (.dK kvs)) ∧ kvs.length ≤ i⟩
/-- .. of tuple keys: the key's own tuple -/
def Itkt (d : Addr) (o : Obj) (kvs : List (List Key × V)) : It :=
  ⟨fun i H => H d = some (.frz o (.dT kvs)) ∧ i < kvs.length, fun i H x H' => H' = H ∧ ∃ (k : List Key) (v : V) (q : Addr), kvs[i]? = some (k, v) ∧ x = .ref q ∧ H q = some (.tup (k.map kV)), fun i H => H d = some (.frz o (.dT kvs)) ∧ kvs.length ≤ i⟩
theorem dict_ep {o : Obj} {es es' : Array DictEntry} {ep ep' : Nat} (h : o.data = .dict es ep) (h' : o.data = .dict es' ep') : es' = es ∧ ep' = ep := by
  rw [h] at h'
  cases h'
  exact ⟨rfl, rfl⟩
section
variable {P : Program} {w : World} {K : PySem.W.Frag} {tg : Expr} {d : Addr} {o : Obj} {es : Array DictEntry} {ep : Nat}
theorem turn_keys {kvs : List (Key × V)} (it : Addr) (hod : o.data = .dict es ep) : Turn P w K tg (Itk d o kvs) [it] it (fun i h => h.IsKeyIter it d i kvs.length ep) where
  mem := by simp
  obj := fun i h st b hb => by
    have e : b = it := by simpa using hb
    subst e
    obtain ⟨oi, e, c, dd⟩ := st
    exact ⟨oi, e, fun v z => by rw [dd] at z; cases z⟩
  keep := fun i h h' st k => st.at fun oi e => k it (by simp) oi e
  item := by
    intro X hP hw hK hc i pins s σ H E I hf st hg
    subst hP hw hK
    obtain ⟨hd, hi⟩ := hg
    obtain ⟨f0, f1, f2, f3, f4, f5⟩ := hf it (by simp)
    obtain ⟨hs, hgd, hx, es', ep', vs, hdt, hsz, kv, hm⟩ := I.frzK hd
    obtain ⟨rfl, rfl⟩ := dict_ep hod hdt
    obtain ⟨⟨k, v⟩, hkv⟩ : ∃ p, kvs[i]? = some p := ⟨kvs[i], List.getElem?_eq_getElem hi⟩
    obtain ⟨u, hu, ru⟩ := kv_get kv hkv
    have hl : kvs.length = vs.length := Paired.length kv
    rw [hl] at st
    refine wpAny_pyNext_dict_item st hm hu fun key h' hkey st' sb => ?_
    have I1 : Inv X pins σ H { s with heap := h' } := I.turned (t' := s.toks) (fun b ob hb e => (sb.2 b hb).trans e) f0 f1 f3 f4 f5
    obtain ⟨oi, e, c, dd⟩ := id st'
    refine ⟨key, rfl, go_of (s := { s with heap := h' }) e c dd (by decide) ⟨kV k, H, I1, relV_key (show keyIs k key = true from hkey), ⟨rfl, k, v, hkv, rfl⟩, ?_, fun b hb => (hf b hb).1⟩⟩
    show h'.IsKeyIter it d (i + 1) kvs.length _
    rw [hl]
    exact st'
  done := by
    intro X hP hw hK hc i pins s σ H E I hf st hg
    subst hP hw hK
    obtain ⟨hd, hi⟩ := hg
    obtain ⟨f0, f1, f2, f3, f4, f5⟩ := hf it (by simp)
    obtain ⟨hs, hgd, hx, es', ep', vs, hdt, hsz, kv, hm⟩ := I.frzK hd
    obtain ⟨rfl, rfl⟩ := dict_ep hod hdt
    exact next_key_end (I.ok.hd hc) st hgd hdt hsz hi fun h' eb => ⟨rfl, I.turned (t' := s.toks) (fun b ob hb e => eb b ob hb e) f0 f1 f3 f4 f5⟩
  self := fun A i s Q E st h => wpAny_pyIter_keyiter st h
theorem turn_keysT {kvs : List (List Key × V)} (it : Addr) (hod : o.data = .dict es ep) : Turn P w K tg (Itkt d o kvs) [it] it (fun i h => h.IsKeyIter it d i kvs.length ep) where
  mem := by simp
  obj := fun i h st b hb => by
    have e : b = it := by simpa using hb
    subst e
    obtain ⟨oi, e, c, dd⟩ := st
    exact ⟨oi, e, fun v z => by rw [dd] at z; cases z⟩
  keep := fun i h h' st k => st.at fun oi e => k it (by simp) oi e
  item := by
    intro X hP hw hK hc i pins s σ H E I hf st hg
    subst hP hw hK
    obtain ⟨hd, hi⟩ := hg
    obtain ⟨f0, f1, f2, f3, f4, f5⟩ := hf it (by simp)
    obtain ⟨hs, hgd, hx, es', ep', hdt, hsz, ent⟩ := I.frzT hd
    obtain ⟨rfl, rfl⟩ := dict_ep hod hdt
    obtain ⟨⟨k, v⟩, hkv⟩ : ∃ p, kvs[i]? = some p := ⟨kvs[i], List.getElem?_eq_getElem hi⟩
    obtain ⟨en, q, hen, hkey, hq⟩ := ent i k v hkv
    refine next_key_item st hgd hdt hsz hen fun h' st' sb => ?_
    have I1 : Inv X pins σ H { s with heap := h' } := I.turned (t' := s.toks) (fun b ob hb e => (sb.2 b hb).trans e) f0 f1 f3 f4 f5
    obtain ⟨oi, e, c, dd⟩ := id st'
    exact ⟨en.key, rfl, go_of (s := { s with heap := h' }) e c dd (by decide) ⟨.ref q, H, I1, hkey, ⟨rfl, k, v, q, hkv, rfl, hq⟩, st', fun b hb => (hf b hb).1⟩⟩
  done := by
    intro X hP hw hK hc i pins s σ H E I hf st hg
    subst hP hw hK
    obtain ⟨hd, hi⟩ := hg
    obtain ⟨f0, f1, f2, f3, f4, f5⟩ := hf it (by simp)
    obtain ⟨hs, hgd, hx, es', ep', hdt, hsz, ent⟩ := I.frzT hd
    obtain ⟨rfl, rfl⟩ := dict_ep hod hdt
    exact next_key_end (I.ok.hd hc) st hgd hdt hsz hi fun h' eb => ⟨rfl, I.turned (t' := s.toks) (fun b ob hb e => eb b ob hb e) f0 f1 f3 f4 f5⟩
  self := fun A i s Q E st h => by
    refine wpAny_pyIter_slot st.typeIs F.slot_dict_keyiterator_iter (wpAny_call_entry F.slot_dict_keyiterator_iter st.typeIs F.entry_dict_keyiterator_iter ?_ (F.args_dict_keyiterator_iter_1 _))
    show wpAny _ _ (ret (.ref it)) _ _ s
    exact wpAny_pure ⟨_, rfl, "dict_keyiterator", _, st.typeIs, F.slot_dict_keyiterator_next.lookup, h⟩
end

/-! ### for k in d, d.keys(), d.values(), d.items() -/
/-- the dict is locked (tLock, or by the caller) -/
def iKeys (td : TE) : TI := fun σ H R => td σ H fun x H1 => ∃ d o, x = .ref d ∧ ((∃ kvs, H1 d = some (.frz o (.dK kvs)) ∧ R (Itk d o kvs) H1) ∨ ∃ kvs, H1 d = some (.frz o (.dT kvs)) ∧ R (Itkt d o kvs) H1)
section
variable {X : Cx} {tg e : Expr} {td : TE} {apos cpos : Pos}
theorem pi_keys (he : PE X e td) : PI X tg e (iKeys td) := by
  intro pins s σ H R I h
  refine thn (he pins s σ H _ I h) fun u s1 ⟨x, H1, I1, rx, d, o, ex, q⟩ => ?_
  subst ex
  obtain rfl : u = Value.ref d := rx
  rcases q with ⟨kvs, hd, q⟩ | ⟨kvs, hd, q⟩
  · obtain ⟨hs, hgd, hx, es, ep, vs, hdt, hsz, kv, hm⟩ := I1.frzK hd
    refine iter_keys hs hgd hx hdt (pi_one (tk := s1.toks) I1 _ (turn_keys _ hdt) ⟨_, Heap.get?_push_size _ rfl, rfl, ?_⟩ q)
    rw [hsz] <;> rfl
  · obtain ⟨hs, hgd, hx, es, ep, hdt, hsz, ent⟩ := I1.frzT hd
    refine iter_keys hs hgd hx hdt (pi_one (tk := s1.toks) I1 _ (turn_keysT _ hdt) ⟨_, Heap.get?_push_size _ rfl, rfl, ?_⟩ q)
    rw [hsz] <;> rfl
end

/-! ### enumerate(list) -/
/-! ### zip(list, list) -/
end L2

section 
namespace Bits
open PySem PyProof.Rows








end Bits
end 

section 
namespace TL
open PySem PySem.Builtin PySem.Builtin.Str PySem.StrLaws


/-! ### the list functions -/




/-! ### the model's split and partition are these -/




/-! ### computing spl and par -/


/-! ### digits -/

/-! ### words: x.split() -/
end TL
end 

namespace L2
open PySem PySem.Spec PyProof.Rows




section
variable {X : Cx} {pins : List (Addr × Obj)} {σ : St} {H : Hp} {s : Shared} {Q : VK}
end

section
variable {X : Cx}





/-! ### of a text alone -/

/-! ### of a text and a text -/

end

section
variable {X : Cx} {o e : Expr} {to te : TE}

end
end L2

namespace L2
open PySem PySem.Spec PyProof.Rows

section
variable {X : Cx}
end

/-! ### slices of a text -/


end L2

namespace Att
open PySem PySem.W PySem.Calls PyProof.Rows

/-! ### the script -/



/-! ### the attachment: holds_open's last premise (the goal 'hc' behind k_head) from a wpAny of the law's body -/



/-! ### rules over ANY heap (no ledger) from facts about the written part K: the library's own take a ledger (News) for what they write -/
section
variable {prog : Program} {w : World} {A : Around} {E : Value → Shared → Prop} {s : Shared} {K : Frag}





/-! the whole heap as the ledger: makes every rule that writes through a ledger a rule over any heap -/

end
end Att

namespace L2
open PySem PySem.Spec PyProof.Rows



end L2

namespace L2
open PySem PySem.Spec PyProof.Rows


end L2

/- THE LAST THEOREM (shape; LID, My.* are yours):
   My.Adr: a structure of the addresses that your layer names (classes, functions); My.Txt K t: a structure (Prop) of the equations over K;
   My.txt_mk : {K} {implicit addresses ..} (e1 : nsIn K mainGlobals "law" = some (some (.ref f))) (e2 : K.lookup f = some ⟨oc, od, .func (fnOf "law" "law" params body scope dV kV doc pm an cdv ct), sl⟩) (e3 : codeIn K cdv "law" = true) .. : ∃ t, My.Txt K t

set_option maxRecDepth 100000 in
set_option maxHeartbeats 0 in
theorem PySem.Challenge.cw_LID_holds : PySem.Challenge.rw_LID.Holds := by
  w_on; o_law; k_head; (case hw => w_witness2)
  k_fill
  refine L2.walk_of (l := PySem.Challenge.rw_LID) (n := 63) (k := 40) (x := "script") (CX := fun w => ..) (sp := fun _ => My.sp_law) rfl (by decide) rfl ⟨rfl, by decide, by decide⟩ (fun w h Y => PySem.W.kIn_of Y) ?F ?S ?C
  case F =>
    intro w mg fa h KX G hmg
    have T : ∃ t, My.Txt (L2.KOf KX) t := by
      dsimp only [L2.KOf]                          -- K must stand as «<heap const> w.params» for k_is
      refine' My.txt_mk ?e1 ?e2 ?e3 ..
      (case e1 => PySem.W.k_is)                    -- in the order: a name -> its address -> its object -> its parts
      (case e2 => PySem.W.k_is)
      ..
    obtain ⟨t, T⟩ := T
    have e0 := hmg.symm.trans (PySem.W.mg_of KX G T.law)
    cases e0                                       -- fa is the law's own address
    exact ⟨_, fun s u => .of_eq rfl, fun base kb nb => My.law_fn T kb nb⟩     -- if «.of_eq rfl» comes too early: refine' ⟨_, ?b, fun base kb nb => My.law_fn T kb nb⟩; exact fun s u => .of_eq rfl
  case S => exact fun w H a ns hl hO hS => ..
  case C => exact ..
(the tactic k_is has no namespace: write k_is) -/

/-! SHORT WORDS over the layer: a def of the text, its body, what a loop and a test want. -/
namespace L2
open PySem PySem.Spec PyProof.Rows

/-! ### the text by places -/
/-- the j-th statement of a class's body -/
def inClass (s : Stmt) (j : Nat) : Stmt := match s with
  | .ClassDef _ _ _ body _ _ _ _ _ _ _ => body.getD j (.Pass ⟨0, 0, 0, 0⟩)
  | _ => .Pass ⟨0, 0, 0, 0⟩
def defArgs (s : Stmt) : Arguments := match s with
  | .FunctionDef _ a _ _ _ _ _ _ _ _ => a
  | _ => { posonlyargs := [], args := [], vararg := none, kwonlyargs := [], kw_defaults := [], kwarg := none, defaults := [] }
def defBody (s : Stmt) : List Stmt := match s with
  | .FunctionDef _ _ b _ _ _ _ _ _ _ => b
  | _ => []
def defScope (s : Stmt) : Scope := match s with
  | .FunctionDef _ _ _ _ _ _ sc _ _ _ => sc
  | _ => { kind := .function, names := [], isGenerator := false, isCoroutine := false }

/-! ### no exception leaves a def -/
abbrev CX0 : CXT := fun _ _ _ _ _ _ => False
abbrev E0 : XK := fun _ _ _ => False
theorem pass0 {X : Cx} : Passes CX0 X E0 := fun _ _ _ _ _ _ _ h => h.elim

/-! ### a def (or method) of the text as it stands behind the top -/
structure Fun (K : PySem.W.Frag) (x qual : Str) (st : Stmt) (f : Addr) (fd : FuncData) : Prop where
  ex : ∃ (oc : Value) (od : Option Addr) (kV doc pm : Value) (an : Option Addr) (cdv ct : Value) (osl : Array (Option Value)),
    fd = PySem.W.fnOf x qual (defArgs st) (defBody st) (defScope st) .none kV doc pm an cdv ct ∧ K.lookup f = some ⟨oc, od, .func fd, osl⟩ ∧ PySem.W.codeIn K cdv qual = true
  kp : PySem.W.keepIn K (.ref f) = true
section
variable {P : Program} {w : World} {K : PySem.W.Frag} {mg : Str → Option Value} {base : Heap}
/-- THE RULE for a def: its body as a term of rules, and the reading of that term -/
theorem Fun.ok {x qual : Str} {st : Stmt} {f : Addr} {fd : FuncData} {N ps : List Str} {k : Nat} {sp : Sp} (F : Fun K x qual st f fd) (S : FnScope N ps (defScope st)) (len : ∀ vs H Q E, sp vs H Q E → vs.length = ps.length)
    (hbody : ∀ (cdv : Value) (A : Around) (outer : List Env) (s : Shared) (H : Hp) (vs : List V) (Q : VK) (E : XK), Room k (A.deeper (envOfC qual (defScope st) s.heap.objs.size f cdv)) → sp vs H Q E →
      ∃ t, PSs (cxOf CX0 P w K mg base N qual (defScope st) f cdv A outer s H E).nox (defBody st) t ∧ t { nx := fun _ H' => Q .non H', rt := Q } (start N vs) H) : FnOk P w K mg base CX0 (k + 1) f fd ps sp := by
  obtain ⟨oc, od, kV, doc, pm, an, cdv, ct, osl, rfl, lk, hcd⟩ := F.ex
  refine fn_of lk hcd S len fun A outer s H vs Q E hr hsp => ?_
  obtain ⟨t, h, q⟩ := hbody cdv A outer s H vs Q E hr hsp
  exact ⟨t, h.nox, q⟩
/-- how its arguments bind (no defaults): h is «fun _ _ _ _ _ _ us hl => match us, hl with | [_, _], _ => rfl», one _ a parameter -/
theorem Fun.binds {x qual : Str} {st : Stmt} {f : Addr} {fd : FuncData} {ps : List Str} (F : Fun K x qual st f fd)
    (h : ∀ (kV doc pm : Value) (an : Option Addr) (cdv ct : Value) (us : List Value), us.length = ps.length → bindArgs (PySem.W.fnOf x qual (defArgs st) (defBody st) (defScope st) .none kV doc pm an cdv ct) ⟨us, []⟩ = pure (ps.zip us)) : Binds K fd ps [] := by
  obtain ⟨oc, od, kV, doc, pm, an, cdv, ct, osl, rfl, lk, hcd⟩ := F.ex
  exact .all (h kV doc pm an cdv ct)
theorem fun_mk {x qual : Str} {st : Stmt} {f : Addr} {oc : Value} {od an : Option Addr} {osl : Array (Option Value)} {kV doc pm cdv ct : Value} (l : K.lookup f = some ⟨oc, od, .func (PySem.W.fnOf x qual (defArgs st) (defBody st) (defScope st) .none kV doc pm an cdv ct), osl⟩)
    (c : PySem.W.codeIn K cdv qual = true) (k : PySem.W.keepIn K (.ref f) = true) : Fun K x qual st f (PySem.W.fnOf x qual (defArgs st) (defBody st) (defScope st) .none kV doc pm an cdv ct) := ⟨⟨oc, od, kV, doc, pm, an, cdv, ct, osl, rfl, l, c⟩, k⟩
end
theorem hu_of {A : Around} {k : Nat} (hr : Room k A) : A.units + 1 < cLine := Nat.lt_of_le_of_lt (Nat.add_le_add_left (by decide : 1 ≤ 64) _) hr.units

/-! ### expressions in short: the name that stands in the i-th slot -/
section
variable {X : Cx}
theorem pv (i : Nat) {x : Str} {pos : Pos} (hN : X.N[i]? = some x := by rfl) (hv : Vis X.env.scope x := by first | exact Or.inl rfl | exact Or.inr (Or.inl rfl) | exact Or.inr (Or.inr rfl)) (hd : (x == ("__debug__" : Str)) = false := by decide)
    (hcd : (x == ("__classdict__" : Str)) = false := by decide) : PE X (.Name x pos) (tVar i) := pe_var hN hv hd hcd
end

/-! ### tests -/
theorem iteF {A B : Prop} (h : B) : if false = true then A else B := by
  rw [if_neg Bool.false_ne_true]
  exact h
theorem iteT {A B : Prop} (h : A) : if true = true then A else B := by
  rw [if_pos rfl]
  exact h
theorem ite2 {c A B : Prop} [Decidable c] (h1 : c → A) (h2 : ¬ c → B) : if c then A else B := by
  by_cases h : c
  · rw [if_pos h]
    exact h1 h
  · rw [if_neg h]
    exact h2 h

/-! ### heaps -/
/-- all that was tracked is as it was -/
def Same (H H' : Hp) : Prop := ∀ b o, H b = some o → H' b = some o
theorem Same.trans {H H1 H2 : Hp} (a : Same H H1) (b : Same H1 H2) : Same H H2 := fun c o h => b c o (a c o h)
theorem Same.free {H H' : Hp} (e : Same H H') {l : Addr} (h : H' l = Option.none) : H l = Option.none := by
  cases q : H l with
  | none => rfl
  | some o =>
    rw [e l o q] at h
    cases h
theorem Same.seq {K : PySem.W.Frag} {H H' : Hp} {a : Addr} {xs : List V} (e : Same H H') (h : SqL K H a xs) : SqL K H' a xs := by
  rcases h with (h | ⟨o, h⟩) | h
  · exact .inl (.inl (e _ _ h))
  · exact .inl (.inr ⟨o, e _ _ h⟩)
  · exact .inr h

/-! ### a dict's pairs: keys that differ -/
section
variable {κ : Type} [DecidableEq κ]
end
/-! ### lists -/
theorem at_of {xs : List V} {z : Int} {j : Nat} {v : V} (e : z = (j : Int)) (h : xs[j]? = some v) : atI xs z = some v := by
  rw [e]
  exact atI_nat h
theorem nd_ix {α : Type} {l : List α} (hN : l.Nodup) {i j : Nat} {x : α} (a : l[i]? = some x) (b : l[j]? = some x) : i = j := by
  obtain ⟨h1, e1⟩ := List.getElem?_eq_some_iff.mp a
  obtain ⟨h2, e2⟩ := List.getElem?_eq_some_iff.mp b
  exact (List.getElem_inj hN).mp (e1.trans e2.symm)
end L2
section
set_option Elab.async false
set_option linter.all false
set_option maxRecDepth 100000
set_option maxHeartbeats 2000000
namespace L2
open PySem PySem.Spec PyProof.Rows
open PySem.W (WData Codec OpenSpec Well WellAll ReadsW ReadsAllW)
/-! ### an answer as data -/
mutual
/-- x stands for the datum d, lists and tuples all the way -/
inductive Dw (K : PySem.W.Frag) (H : Hp) : V → WData → Prop
  | non : Dw K H .non .none
  | bl (b : Bool) : Dw K H (.bl b) (.bool b)
  | int (i : Int) : Dw K H (.int i) (.int i)
  | str (x : Str) : Dw K H (.str x) (.str x)
  | byt (b : Array UInt8) : Dw K H (.byt b) (.bytes b.toList)
  | lst {a : Addr} {xs : List V} {ds : List WData} : SqL K H a xs → DwAll K H xs ds → Dw K H (.ref a) (.list ds)
  | tup {a : Addr} {xs : List V} {ds : List WData} : SqT K H a xs → DwAll K H xs ds → Dw K H (.ref a) (.tuple ds)
inductive DwAll (K : PySem.W.Frag) (H : Hp) : List V → List WData → Prop
  | nil : DwAll K H [] []
  | cons {v : V} {vs : List V} {d : WData} {ds : List WData} : Dw K H v d → DwAll K H vs ds → DwAll K H (v :: vs) (d :: ds)
end
theorem dw_ints {K : PySem.W.Frag} {H : Hp} : ∀ ns : List Int, DwAll K H (ns.map V.int) (ns.map WData.int)
  | [] => .nil
  | n :: r => .cons (.int n) (dw_ints r)
theorem ints_dw {K : PySem.W.Frag} {H : Hp} : ∀ (ns : List Int) (xs : List V), DwAll K H xs (ns.map WData.int) → xs = ns.map V.int
  | [], xs, h => by
    cases h
    rfl
  | n :: r, xs, h => by
    cases h with
    | cons h1 h2 =>
      cases h1
      rw [ints_dw r _ h2] <;> rfl
section
variable {P : Program} {w : World} {K : PySem.W.Frag} {H : Hp} {h : Heap} {R : PySem.W.WRecords} {cl : Str → Option Addr}
theorem sqL_at {a : Addr} {xs : List V} (hok : HOk P w H h) (KX : K.In h) (q : SqL K H a xs) : ∃ (its : List Value) (o : Obj) (n : Nat), Vals xs its ∧ h.get? a = some o ∧ o.cls = .type "list" ∧ o.data = .seq its.toArray n := by
  rcases q with q | ⟨o, its, n, e, hc, _, hd, _, hv⟩
  · obtain ⟨_, its, n, hv, e⟩ := (show ObjOk P w H h a (.lst xs) from q.ok hok)
    exact ⟨its, _, n, hv, e, rfl, rfl⟩
  · exact ⟨its.toList, o, n, hv, KX _ _ e, hc, by simp [hd]⟩
theorem sqT_at {a : Addr} {xs : List V} (hok : HOk P w H h) (KX : K.In h) (q : SqT K H a xs) : ∃ (its : List Value) (o : Obj) (n : Nat), Vals xs its ∧ h.get? a = some o ∧ o.cls = .type "tuple" ∧ o.data = .seq its.toArray n := by
  rcases q with q | ⟨o, its, n, e, hc, hd, _, hv⟩
  · obtain ⟨_, its, hv, o, e, hc, n, hd⟩ := (show ObjOk P w H h a (.tup xs) from q.ok hok)
    exact ⟨its, o, n, hv, e, hc, hd⟩
  · exact ⟨its.toList, o, n, hv, KX _ _ e, hc, by simp [hd]⟩
mutual
theorem Dw.reads (hok : HOk P w H h) (KX : K.In h) : ∀ (d : WData) (v : V) (u : Value), Dw K H v d → RelV v u → ∃ as, ReadsW R cl h u d as
  | .none, _, _, x, r => by
    cases x
    cases r
    exact ⟨_, ReadsW.none⟩
  | .bool b, _, _, x, r => by
    cases x
    cases r
    exact ⟨_, ReadsW.bool b⟩
  | .int i, _, _, x, r => by
    cases x
    obtain ⟨t, rfl⟩ := r
    exact ⟨_, ReadsW.int i t⟩
  | .str s, _, _, x, r => by
    cases x
    obtain ⟨t, rfl⟩ := r
    exact ⟨_, ReadsW.str s t⟩
  | .bytes b, _, _, x, r => by
    cases x
    obtain ⟨t, rfl⟩ := r
    exact ⟨_, ReadsW.bytes _ t⟩
  | .list ds, _, _, x, r => by
    cases x with
    | lst hs ha =>
      cases r
      obtain ⟨its, o, n, rv, ho, hc, hd⟩ := sqL_at hok KX hs
      obtain ⟨as, hr⟩ := Dw.readsAll hok KX ds _ its ha rv
      exact ⟨_, ReadsW.list ho hc hd hr⟩
  | .tuple ds, _, _, x, r => by
    cases x with
    | tup hs ha =>
      cases r
      obtain ⟨its, o, n, rv, ho, hc, hd⟩ := sqT_at hok KX hs
      obtain ⟨as, hr⟩ := Dw.readsAll hok KX ds _ its ha rv
      exact ⟨_, ReadsW.tuple ho hc hd hr⟩
  | .float _, _, _, x, _ => by cases x
  | .dict _, _, _, x, _ => by cases x
  | .bytearray _, _, _, x, _ => by cases x
  | .set _, _, _, x, _ => by cases x
  | .frozenset _, _, _, x, _ => by cases x
  | .obj _ _, _, _, x, _ => by cases x
theorem Dw.readsAll (hok : HOk P w H h) (KX : K.In h) : ∀ (ds : List WData) (vs : List V) (us : List Value), DwAll K H vs ds → Vals vs us → ∃ as, ReadsAllW R cl h us ds as
  | [], _, _, x, r => by
    cases x
    cases r
    exact ⟨_, ReadsAllW.nil⟩
  | d :: ds, _, _, x, r => by
    cases x with
    | cons h1 h2 =>
      cases r with
      | cons r1 r2 =>
        obtain ⟨as, q1⟩ := Dw.reads hok KX d _ _ h1 r1
        obtain ⟨bs, q2⟩ := Dw.readsAll hok KX ds _ _ h2 r2
        exact ⟨_, ReadsAllW.cons q1 q2⟩
end
end
/-! ### the arguments -/
mutual
/-- data that a codec tells -/
def plW : WData → Bool
  | .none => true
  | .bool _ => true
  | .int _ => true
  | .str _ => true
  | .bytes _ => true
  | .list xs => plWs xs
  | .tuple xs => plWs xs
  | _ => false
def plWs : List WData → Bool
  | [] => true
  | x :: r => plW x && plWs r
end
theorem plWs_map {α : Type} {f : α → WData} (h : ∀ a, plW (f a) = true) : ∀ l : List α, plWs (l.map f) = true
  | [] => rfl
  | x :: r => by
    show (plW (f x) && plWs (r.map f)) = true
    rw [h x, plWs_map h r] <;> rfl
theorem pl_enc : ∀ (c : Codec) (a : c.denote), plW (c.enc a) = true
  | .unit, _ => rfl
  | .bool, _ => rfl
  | .int _ _, _ => rfl
  | .nat _ _, _ => rfl
  | .u8, _ => rfl
  | .bytes _ _, _ => rfl
  | .text _ _ _ _, _ => rfl
  | .list _ _ c, a => plWs_map (fun x => pl_enc c x) a
  | .pair c d, a => by
    show (plW (c.enc a.1) && (plW (d.enc a.2) && true)) = true
    rw [pl_enc c a.1, pl_enc d a.2] <;> rfl
  | .triple c d e, a => by
    show (plW (c.enc a.1) && (plW (d.enc a.2.1) && (plW (e.enc a.2.2) && true))) = true
    rw [pl_enc c a.1, pl_enc d a.2.1, pl_enc e a.2.2] <;> rfl
  | .option c, none => rfl
  | .option c, some x => pl_enc c x
theorem pl_encAll : ∀ (cs : List Codec) (a : Codec.denoteAll cs), plWs (Codec.encAll cs a) = true
  | [], _ => rfl
  | c :: cs, a => by
    show (plW (c.enc a.1) && plWs (Codec.encAll cs a.2)) = true
    rw [pl_enc c a.1, pl_encAll cs a.2] <;> rfl
theorem weight_mem : ∀ {xs : List WData} {d : WData}, d ∈ xs → d.weight ≤ WData.weightAll xs
  | [], d, h => absurd h (by simp)
  | x :: r, d, h => by
    show d.weight ≤ x.weight + 1 + WData.weightAll r
    rcases List.mem_cons.mp h with e | m
    · rw [e]
      omega
    · have z := weight_mem m
      omega
def toV : Value → V
  | .none => .non
  | .bool b => .bl b
  | .int i _ => .int i
  | .str x _ => .str x
  | .bytes b _ => .byt b
  | .ref a => .ref a
  | _ => .non
/-- a value of the arguments, its objects among A -/
def OkU (A : List Addr) : Value → Prop
  | .none => True
  | .bool _ => True
  | .int _ _ => True
  | .str _ _ => True
  | .bytes _ _ => True
  | .ref a => a ∈ A
  | _ => False
theorem OkU.mono {A B : List Addr} (h : ∀ a ∈ A, a ∈ B) : ∀ {u : Value}, OkU A u → OkU B u := fun {u} x => by
  cases u with
  | ref a => exact h a x
  | none => trivial
  | bool b => trivial
  | int i t => trivial
  | str s t => trivial
  | bytes b t => trivial
  | _ => exact False.elim x
theorem relV_toV {A : List Addr} {u : Value} (x : OkU A u) : RelV (toV u) u := by
  cases u with
  | ref a => rfl
  | none => rfl
  | bool b => rfl
  | int i t => exact ⟨t, rfl⟩
  | str s t => exact ⟨t, rfl⟩
  | bytes b t => exact ⟨t, rfl⟩
  | _ => exact False.elim x
theorem vals_toV {A : List Addr} : ∀ {vs : List Value}, (∀ u ∈ vs, OkU A u) → Vals (vs.map toV) vs
  | [], _ => .nil
  | u :: r, h => .cons (relV_toV (h u (List.mem_cons_self ..))) (vals_toV fun x hx => h x (List.mem_cons_of_mem _ hx))
/-- an object of the arguments -/
def ArgOb (h : Heap) (A : List Addr) (a : Addr) : Prop := ∃ vs : List Value, vs.length ≤ sizeLine ∧ (∀ u ∈ vs, OkU A u) ∧
  (h.get? a = some { cls := .type "list", data := .seq vs.toArray } ∨ h.get? a = some { cls := .type "tuple", data := .seq vs.toArray })
theorem ArgOb.mono {h : Heap} {A B : List Addr} {a : Addr} (k : ∀ a ∈ A, a ∈ B) (x : ArgOb h A a) : ArgOb h B a := by
  obtain ⟨vs, h1, h2, h3⟩ := x
  exact ⟨vs, h1, fun u hu => (h2 u hu).mono k, h3⟩
theorem wellAll_len {P : Params} {h : Heap} : ∀ {vs : List Value} {ds : List WData}, WellAll P h vs ds → vs.length = ds.length
  | _, _, .nil => rfl
  | _, _, .cons _ b => by
    show _ + 1 = _ + 1
    rw [wellAll_len b]
theorem well_list {P : Params} {h : Heap} {v : Value} {ds : List WData} (x : Well P h v (.list ds)) : ∃ (a : Addr) (vs : List Value), v = .ref a ∧ h.get? a = some { cls := .type "list", data := .seq vs.toArray } ∧ WellAll P h vs ds := by
  cases x with
  | list ho hall => exact ⟨_, _, rfl, ho, hall⟩
theorem well_tuple {P : Params} {h : Heap} {v : Value} {ds : List WData} (x : Well P h v (.tuple ds)) : ∃ (a : Addr) (vs : List Value), v = .ref a ∧ h.get? a = some { cls := .type "tuple", data := .seq vs.toArray } ∧ WellAll P h vs ds := by
  cases x with
  | tuple ho hall => exact ⟨_, _, rfl, ho, hall⟩
theorem well_cons {P : Params} {h : Heap} {us : List Value} {d : WData} {ds : List WData} (x : WellAll P h us (d :: ds)) : ∃ (v : Value) (vs : List Value), us = v :: vs ∧ Well P h v d ∧ WellAll P h vs ds := by
  cases x with
  | cons a b => exact ⟨_, _, rfl, a, b⟩
theorem line_of {n : Nat} (h : n ≤ 1048576) : n ≤ sizeLine := Nat.le_trans h (by decide)
section
variable {P : Params} {h : Heap}
mutual
theorem area_one : ∀ (d : WData) (v : Value), Well P h v d → plW d = true → d.weight ≤ 1048576 → ∃ A : List Addr, OkU A v ∧ ∀ a ∈ A, ArgOb h A a
  | .none, _, x, _, _ => by
    cases x
    exact ⟨[], trivial, fun a m => absurd m (by simp)⟩
  | .bool b, _, x, _, _ => by
    cases x
    exact ⟨[], trivial, fun a m => absurd m (by simp)⟩
  | .int i, _, x, _, _ => by
    cases x
    exact ⟨[], trivial, fun a m => absurd m (by simp)⟩
  | .str s, _, x, _, _ => by
    cases x
    exact ⟨[], trivial, fun a m => absurd m (by simp)⟩
  | .bytes b, _, x, _, _ => by
    cases x
    exact ⟨[], trivial, fun a m => absurd m (by simp)⟩
  | .list ds, _, x, p, z => by
    obtain ⟨a, vs, rfl, ho, hall⟩ := well_list x
    have z2 : WData.weightAll ds ≤ 1048576 := z
    obtain ⟨A, h1, h2⟩ := area_all ds _ hall p fun d hd => Nat.le_trans (weight_mem hd) z2
    have k : ∀ b ∈ A, b ∈ a :: A := fun b hb => List.mem_cons_of_mem _ hb
    refine ⟨a :: A, List.mem_cons_self .., fun b hb => ?_⟩
    rcases List.mem_cons.mp hb with e | m
    · rw [e]
      exact ⟨vs, line_of (by rw [wellAll_len hall]; exact Nat.le_trans (PySem.W.length_le_weightAllW ds) z2), fun u hu => (h1 u hu).mono k, .inl ho⟩
    · exact (h2 b m).mono k
  | .tuple ds, _, x, p, z => by
    obtain ⟨a, vs, rfl, ho, hall⟩ := well_tuple x
    have z2 : WData.weightAll ds ≤ 1048576 := z
    obtain ⟨A, h1, h2⟩ := area_all ds _ hall p fun d hd => Nat.le_trans (weight_mem hd) z2
    have k : ∀ b ∈ A, b ∈ a :: A := fun b hb => List.mem_cons_of_mem _ hb
    refine ⟨a :: A, List.mem_cons_self .., fun b hb => ?_⟩
    rcases List.mem_cons.mp hb with e | m
    · rw [e]
      exact ⟨vs, line_of (by rw [wellAll_len hall]; exact Nat.le_trans (PySem.W.length_le_weightAllW ds) z2), fun u hu => (h1 u hu).mono k, .inr ho⟩
    · exact (h2 b m).mono k
  | .float _, _, _, p, _ => Bool.noConfusion (show false = true from p)
  | .dict _, _, _, p, _ => Bool.noConfusion (show false = true from p)
  | .bytearray _, _, _, p, _ => Bool.noConfusion (show false = true from p)
  | .set _, _, _, p, _ => Bool.noConfusion (show false = true from p)
  | .frozenset _, _, _, p, _ => Bool.noConfusion (show false = true from p)
  | .obj _ _, _, _, p, _ => Bool.noConfusion (show false = true from p)
theorem area_all : ∀ (ds : List WData) (vs : List Value), WellAll P h vs ds → plWs ds = true → (∀ d ∈ ds, d.weight ≤ 1048576) → ∃ A : List Addr, (∀ u ∈ vs, OkU A u) ∧ ∀ a ∈ A, ArgOb h A a
  | [], _, x, _, _ => by
    cases x
    exact ⟨[], fun u m => absurd m (by simp), fun a m => absurd m (by simp)⟩
  | d :: ds, _, x, p, z => by
    obtain ⟨v, vs, rfl, x1, x2⟩ := well_cons x
    have q : plW d = true ∧ plWs ds = true := Bool.and_eq_true_iff.mp p
    obtain ⟨A, a1, a2⟩ := area_one d v x1 q.1 (z d (List.mem_cons_self ..))
    obtain ⟨B, b1, b2⟩ := area_all ds vs x2 q.2 fun e he => z e (List.mem_cons_of_mem _ he)
    have kA : ∀ b ∈ A, b ∈ A ++ B := fun b hb => List.mem_append.mpr (.inl hb)
    have kB : ∀ b ∈ B, b ∈ A ++ B := fun b hb => List.mem_append.mpr (.inr hb)
    refine ⟨A ++ B, fun u hu => ?_, fun b hb => ?_⟩
    · rcases List.mem_cons.mp hu with e | m
      · rw [e]
        exact a1.mono kA
      · exact (b1 u m).mono kB
    · rcases List.mem_append.mp hb with m | m
      · exact (a2 b m).mono kA
      · exact (b2 b m).mono kB
end
end
/-- what is tracked of an argument's object -/
def hoOf (o : Obj) : Option HO := match o.data with
  | .seq vs _ => if (o.cls == Value.type "list") = true then some (.frz o (.lst (vs.toList.map toV))) else some (.frz o (.tup (vs.toList.map toV)))
  | _ => none
def argH (K : PySem.W.Frag) (h : Heap) (A : List Addr) : Hp := fun b => if b ∈ A then (if (K.lookup b).isNone = true then (h.get? b).bind hoOf else none) else none
/-- nothing is tracked but what is known to the object -/
def OnlyF (H : Hp) : Prop := ∀ b, H b = none ∨ ∃ o u, H b = some (.frz o u)
theorem hoOf_lst (vs : List Value) : hoOf { cls := .type "list", data := .seq vs.toArray } = some (.frz { cls := .type "list", data := .seq vs.toArray } (.lst (vs.map toV))) := by
  show (if (Value.type "list" == Value.type "list") = true then some (HO.frz { cls := .type "list", data := .seq vs.toArray } (.lst (vs.toArray.toList.map toV))) else some (HO.frz { cls := .type "list", data := .seq vs.toArray } (.tup (vs.toArray.toList.map toV)))) = _
  rw [if_pos (beq_self_eq_true _)]
theorem hoOf_tup (vs : List Value) : hoOf { cls := .type "tuple", data := .seq vs.toArray } = some (.frz { cls := .type "tuple", data := .seq vs.toArray } (.tup (vs.map toV))) := by
  show (if (Value.type "tuple" == Value.type "list") = true then some (HO.frz { cls := .type "tuple", data := .seq vs.toArray } (.lst (vs.toArray.toList.map toV))) else some (HO.frz { cls := .type "tuple", data := .seq vs.toArray } (.tup (vs.toArray.toList.map toV)))) = _
  rw [if_neg (by decide)]
section
variable {P : Program} {w : World} {K : PySem.W.Frag} {h : Heap} {A : List Addr}
theorem argH_at {b : Addr} {o : Obj} (hb : b ∈ A) (hk : K.lookup b = none) (e : h.get? b = some o) : argH K h A b = hoOf o := by
  unfold argH
  rw [if_pos hb, hk, if_pos (show (none : Option Obj).isNone = true from rfl), e] <;> rfl
theorem of_argH {b : Addr} {u : HO} (q : argH K h A b = some u) : b ∈ A ∧ K.lookup b = none := by
  unfold argH at q
  by_cases hb : b ∈ A
  · rw [if_pos hb] at q
    cases hk : K.lookup b with
    | none => exact ⟨hb, rfl⟩
    | some o =>
      rw [hk, if_neg (by simp)] at q
      cases q
  · rw [if_neg hb] at q
    cases q
/-- what stands tracked -/
theorem argH_is (ar : ∀ a ∈ A, ArgOb h A a) {b : Addr} {u : HO} (q : argH K h A b = some u) : K.lookup b = none ∧ ∃ vs : List Value, vs.length ≤ sizeLine ∧ (∀ u ∈ vs, OkU A u) ∧
    ((h.get? b = some { cls := .type "list", data := .seq vs.toArray } ∧ u = .frz { cls := .type "list", data := .seq vs.toArray } (.lst (vs.map toV))) ∨
     (h.get? b = some { cls := .type "tuple", data := .seq vs.toArray } ∧ u = .frz { cls := .type "tuple", data := .seq vs.toArray } (.tup (vs.map toV)))) := by
  obtain ⟨hb, hk⟩ := of_argH q
  obtain ⟨vs, h1, h2, h3⟩ := ar b hb
  refine ⟨hk, vs, h1, h2, ?_⟩
  rcases h3 with e | e
  · rw [argH_at hb hk e, hoOf_lst] at q
    exact .inl ⟨e, (Option.some.inj q).symm⟩
  · rw [argH_at hb hk e, hoOf_tup] at q
    exact .inr ⟨e, (Option.some.inj q).symm⟩
theorem argH_only (ar : ∀ a ∈ A, ArgOb h A a) : OnlyF (argH K h A) := fun b => by
  cases q : argH K h A b with
  | none => exact .inl rfl
  | some u =>
    obtain ⟨_, vs, _, _, ⟨_, e⟩ | ⟨_, e⟩⟩ := argH_is ar q
    · exact .inr ⟨_, _, by rw [e]⟩
    · exact .inr ⟨_, _, by rw [e]⟩
theorem argH_ok (ar : ∀ a ∈ A, ArgOb h A a) : HOk P w (argH K h A) h := fun b u q => by
  obtain ⟨_, vs, h1, h2, ⟨e, rfl⟩ | ⟨e, rfl⟩⟩ := argH_is ar q
  · exact ⟨e, by rw [List.length_map]; exact h1, vs, _, vals_toV h2, e⟩
  · exact ⟨e, by rw [List.length_map]; exact h1, vs, vals_toV h2, _, e, rfl, _, rfl⟩
theorem seq_inj {c c' : Value} {vs us : List Value} (e : (some { cls := c, data := .seq vs.toArray } : Option Obj) = some { cls := c', data := .seq us.toArray }) : c = c' ∧ vs = us := by
  have e1 := Option.some.inj e
  have e2 : c = c' := congrArg Obj.cls e1
  have e3 : Data.seq vs.toArray = Data.seq us.toArray := congrArg Obj.data e1
  injection e3 with e4
  refine ⟨e2, ?_⟩
  have e5 := congrArg Array.toList e4
  simpa using e5
/-- a list argument -/
theorem argL (KX : K.In h) (ar : ∀ a ∈ A, ArgOb h A a) {a : Addr} {vs : List Value} (ha : a ∈ A) (e : h.get? a = some { cls := .type "list", data := .seq vs.toArray }) : (∀ u ∈ vs, OkU A u) ∧ SqL K (argH K h A) a (vs.map toV) := by
  obtain ⟨us, h1, h2, h3⟩ := ar a ha
  have hu : us = vs := by
    rcases h3 with q | q
    · rw [e] at q
      exact (seq_inj q).2.symm
    · rw [e] at q
      exact absurd (Value.type.inj (seq_inj q).1) (by decide)
  subst hu
  refine ⟨h2, ?_⟩
  cases hk : K.lookup a with
  | none => exact .inl (.inr ⟨_, by rw [argH_at ha hk e, hoOf_lst]⟩)
  | some o =>
    have e2 := KX a o hk
    rw [e] at e2
    obtain rfl := Option.some.inj e2
    exact .inr ⟨_, us.toArray, _, hk, rfl, rfl, rfl, by rw [List.size_toArray]; exact h1, by simpa using vals_toV h2⟩
theorem argT (KX : K.In h) (ar : ∀ a ∈ A, ArgOb h A a) {a : Addr} {vs : List Value} (ha : a ∈ A) (e : h.get? a = some { cls := .type "tuple", data := .seq vs.toArray }) : (∀ u ∈ vs, OkU A u) ∧ SqT K (argH K h A) a (vs.map toV) := by
  obtain ⟨us, h1, h2, h3⟩ := ar a ha
  have hu : us = vs := by
    rcases h3 with q | q
    · rw [e] at q
      exact absurd (Value.type.inj (seq_inj q).1) (by decide)
    · rw [e] at q
      exact (seq_inj q).2.symm
  subst hu
  refine ⟨h2, ?_⟩
  cases hk : K.lookup a with
  | none => exact .inl (.inr ⟨_, by rw [argH_at ha hk e, hoOf_tup]⟩)
  | some o =>
    have e2 := KX a o hk
    rw [e] at e2
    obtain rfl := Option.some.inj e2
    exact .inr ⟨_, us.toArray, _, hk, rfl, rfl, by rw [List.size_toArray]; exact h1, by simpa using vals_toV h2⟩
mutual
theorem dw_one {Pm : Params} (KX : K.In h) (ar : ∀ a ∈ A, ArgOb h A a) : ∀ (d : WData) (v : Value), Well Pm h v d → plW d = true → OkU A v → Dw K (argH K h A) (toV v) d
  | .none, _, x, _, _ => by
    cases x
    exact .non
  | .bool b, _, x, _, _ => by
    cases x
    exact .bl b
  | .int i, _, x, _, _ => by
    cases x
    exact .int i
  | .str s, _, x, _, _ => by
    cases x
    exact .str s
  | .bytes b, _, x, _, _ => by
    cases x
    have z := Dw.byt (K := K) (H := argH K h A) b.toArray
    exact z
  | .list ds, _, x, p, hu => by
    obtain ⟨a, vs, rfl, ho, hall⟩ := well_list x
    obtain ⟨h2, hs⟩ := argL KX ar hu ho
    exact .lst hs (dw_all KX ar ds _ hall p h2)
  | .tuple ds, _, x, p, hu => by
    obtain ⟨a, vs, rfl, ho, hall⟩ := well_tuple x
    obtain ⟨h2, hs⟩ := argT KX ar hu ho
    exact .tup hs (dw_all KX ar ds _ hall p h2)
  | .float _, _, _, p, _ => Bool.noConfusion (show false = true from p)
  | .dict _, _, _, p, _ => Bool.noConfusion (show false = true from p)
  | .bytearray _, _, _, p, _ => Bool.noConfusion (show false = true from p)
  | .set _, _, _, p, _ => Bool.noConfusion (show false = true from p)
  | .frozenset _, _, _, p, _ => Bool.noConfusion (show false = true from p)
  | .obj _ _, _, _, p, _ => Bool.noConfusion (show false = true from p)
theorem dw_all {Pm : Params} (KX : K.In h) (ar : ∀ a ∈ A, ArgOb h A a) : ∀ (ds : List WData) (vs : List Value), WellAll Pm h vs ds → plWs ds = true → (∀ u ∈ vs, OkU A u) → DwAll K (argH K h A) (vs.map toV) ds
  | [], _, x, _, _ => by
    cases x
    exact .nil
  | d :: ds, _, x, p, hu => by
    obtain ⟨v, vs, rfl, x1, x2⟩ := well_cons x
    have q : plW d = true ∧ plWs ds = true := Bool.and_eq_true_iff.mp p
    exact .cons (dw_one KX ar d v x1 q.1 (hu _ (List.mem_cons_self ..))) (dw_all KX ar ds vs x2 q.2 fun u m => hu u (List.mem_cons_of_mem _ m))
end
end
/-! ### the call -/
/-! ### the row -/
theorem layable_weight {ds : List WData} (h : WData.layableAll ds = true) : ∀ d ∈ ds, d.weight ≤ 1048576 := fun d hd =>
  (PySem.W.layableW_iff.mp (List.all_eq_true.mp h d hd)).2.2
theorem encAll_len : ∀ (cs : List Codec) (a : Codec.denoteAll cs), (Codec.encAll cs a).length = cs.length
  | [], _ => rfl
  | c :: cs, a => by
    show (Codec.encAll cs a.2).length + 1 = cs.length + 1
    rw [encAll_len cs a.2]
end L2
-- rests on (row put in by the clerk, for the bench that shows a file only what it spells): KE.SpHead KE.OsShapes
end
set_option Elab.async false
set_option linter.all false
set_option maxRecDepth 100000
set_option maxHeartbeats 2000000
/-! ### code tables and lambdas -/
namespace L2
open PySem PySem.Spec PyProof.Rows
open PySem.W (CodeHd tabObj kla_fn kla_obj kla_eval envX)

/-- where a lambda stands: the table of its def's code, its place, its full name -/
structure TabE where
  P : Addr
  pos : Pos
  qual : Str
def codeHO (c : Addr) (qual : Str) : HO := .ext fun h => h.CodeRec (.ref c) qual
def TabOk (H : Hp) (e : TabE) : Prop := ∃ ps, H e.P = some (.tbl ps) ∧ TriplesOk ps.toList ∧ (codeAmong e.pos ps.toList = none ∨ ∃ c, codeAmong e.pos ps.toList = some (.ref c) ∧ H c = some (codeHO c e.qual))
def Tabs (L : List TabE) (H : Hp) : Prop := (∀ e ∈ L, TabOk H e) ∧ ∀ e ∈ L, ∀ e' ∈ L, e.P = e'.P → e = e'
theorem TabOk.same {H H' : Hp} {e : TabE} (h : TabOk H e) (s : Same H H') : TabOk H' e := by
  obtain ⟨ps, h1, h2, h3⟩ := h
  refine ⟨ps, s _ _ h1, h2, ?_⟩
  rcases h3 with h3 | ⟨c, h3, h4⟩
  · exact .inl h3
  · exact .inr ⟨c, h3, s _ _ h4⟩
/-- all that was tracked is as it was, tables aside; tables stay in order -/
structure Gr (L : List TabE) (H H' : Hp) : Prop where
  k : ∀ b o, H b = some o → (∀ ps, o ≠ .tbl ps) → H' b = some o
  b : ∀ b ps, H b = some (.tbl ps) → ∃ qs, H' b = some (.tbl qs)
  t : Tabs L H → Tabs L H'
section
variable {L : List TabE} {H H1 H2 : Hp}
theorem Gr.trans (a : Gr L H H1) (b : Gr L H1 H2) : Gr L H H2 := ⟨fun c o h n => b.k c o (a.k c o h n) n, fun c ps h => let ⟨qs, q⟩ := a.b c ps h; b.b c qs q, fun h => b.t (a.t h)⟩
theorem Same.gr (s : Same H H1) : Gr L H H1 := ⟨fun b o h _ => s b o h, fun b ps h => ⟨ps, s b _ h⟩, fun h => ⟨fun e he => (h.1 e he).same s, h.2⟩⟩
/-- a fresh address of the later heap was fresh in the elder -/
theorem Gr.free {p : Addr} (g : Gr L H H1) (hp : H1 p = none) : H p = none := by
  cases q : H p with
  | none => rfl
  | some o =>
    exfalso
    by_cases ho : ∀ ps, o ≠ .tbl ps
    · have := g.k p o q ho
      rw [hp] at this
      cases this
    · have ⟨ps, e⟩ : ∃ ps, o = .tbl ps := Classical.byContradiction fun z => ho fun ps e => z ⟨ps, e⟩
      subst e
      obtain ⟨qs, r⟩ := g.b p ps q
      rw [hp] at r
      cases r
theorem Gr.lst (g : Gr L H H1) {a : Addr} {xs : List V} (h : H a = some (.lst xs)) : H1 a = some (.lst xs) := g.k a _ h fun _ z => nomatch z
theorem Gr.dK (g : Gr L H H1) {a : Addr} {xs : List (Key × V)} (h : H a = some (.dK xs)) : H1 a = some (.dK xs) := g.k a _ h fun _ z => nomatch z
theorem Gr.ins (g : Gr L H H1) {a C dx : Addr} {fs : List (Str × V)} (h : H a = some (.ins C dx fs)) : H1 a = some (.ins C dx fs) := g.k a _ h fun _ z => nomatch z
theorem Gr.seq {K : PySem.W.Frag} {a : Addr} {xs : List V} (g : Gr L H H1) (h : SqL K H a xs) : SqL K H1 a xs := by
  rcases h with (h | ⟨o, h⟩) | h
  · exact .inl (.inl (g.lst h))
  · exact .inl (.inr ⟨o, g.k _ _ h fun _ z => nomatch z⟩)
  · exact .inr h
end

/-- what the main module's builtins are -/
def BMain (mg : Str → Option Value) (base : Heap) : Prop := ∃ bm ob, mg "__builtins__" = some (.ref bm) ∧ bm ≠ builtinsNs ∧ base.get? bm = some ob ∧ ob.cls = .type "module" ∧ ob.dict = some builtinsNs ∧ ob.data = .plain

/-- a lambda's function object -/
def lamHO (f : Addr) (qual : Str) (params : Arguments) (body : Expr) (scope : Scope) (clos : List (Str × Addr)) (pm : Value) (c : Addr) : HO :=
  .ext fun h => ∃ ctv, h.get? f = some (kla_obj "<lambda>" qual params body scope clos pm c ctv)

section
variable {P : Program} {w : World} {H : Hp} {h : Heap}
theorem codeHO_ok {c : Addr} {qual : Str} (x : h.CodeRec (.ref c) qual) : ObjOk P w H h c (codeHO c qual) := by
  refine ⟨x, ?_, fun h1 h2 y k => ?_⟩
  · obtain ⟨c', o, _, _, e, g, _⟩ := x
    cases e
    exact ⟨o, g⟩
  · obtain ⟨c', o, vs, t, e, g, r⟩ := y
    cases e
    exact ⟨_, o, vs, t, rfl, k _ g, r⟩
theorem lamHO_ok {f : Addr} {qual : Str} {params : Arguments} {body : Expr} {scope : Scope} {clos : List (Str × Addr)} {pm : Value} {c : Addr} {ctv : Value} (x : h.get? f = some (kla_obj "<lambda>" qual params body scope clos pm c ctv)) :
    ObjOk P w H h f (lamHO f qual params body scope clos pm c) :=
  ⟨⟨ctv, x⟩, ⟨_, x⟩, fun h1 h2 ⟨ctv', y⟩ k => ⟨ctv', k _ y⟩⟩
end

section
variable {X : Cx} {pins : List (Addr × Obj)} {σ : St} {H : Hp} {s : Shared} {L : List TabE}
/-- THE LAMBDA IS MADE: the table may grow, its code and itself are new -/
theorem lam_new {c : Addr} {e : TabE} {params : Arguments} {body : Expr} {scope : Scope} {clos : List (Str × Addr)} {Q : VK} (I : Inv X pins σ H s) (BM : BMain X.mg X.base) (hT : Tabs L H) (he : e ∈ L) (hq : e.qual = X.env.qual ++ "<lambda>")
    (hc : X.env.code = .ref c) (C : CodeHd X.base c e.P) (hcl : closureFor scope X.env = pure clos) (hdef : defaultsOf params X.env = ([], []))
    (h : ∀ (H' : Hp) (f c' : Addr), Gr L H H' → H f = none → H' f = some (lamHO f e.qual params body scope clos ((X.mg "__name__").getD .none) c') → H' c' = some (codeHO c' e.qual) → Q (.ref f) H') :
    wpAny (model X.prog X.w) X.A (eval (.Lambda params body scope e.pos) X.env) (EP X pins σ Q) X.xe s := by
  obtain ⟨ps, hP, htr, hcase⟩ := hT.1 e he
  obtain ⟨bm, ob, b1, b2, b3, b4, b5, b6⟩ := BM
  have hgs := I.mod.glob.keeps I.bk
  have neP : ∀ b, H b = none → b ≠ e.P := fun b n z => by subst z; rw [hP] at n; cases n
  have hgP : mainGlobals ≠ e.P := by
    obtain ⟨o, _, _, eg, _⟩ := I.mod.glob
    exact neP _ (I.bs _ _ eg).2
  have hbP : bm ≠ e.P := neP _ (I.bs _ _ b3).2
  have hbG : bm ≠ mainGlobals := fun q => by
    obtain ⟨o, es, ep, eg, hd, _⟩ := I.mod.glob
    rw [q, eg] at b3
    cases b3
    rw [hd] at b6
    cases b6
  have hPh : s.heap.get? e.P = some (tabObj ps) := I.hok _ _ hP
  have hB : s.heap.BuiltinsAt X.mg e.P := ⟨bm, ob, b1, b2, hbG, hbP, I.bk _ _ b3, b4, b5, b6⟩
  refine kla_eval hdef ?_
  rw [← hq]
  rcases hcase with hnf | ⟨c', hf, hc'⟩
  · refine PySem.W.kla_makeFunction (mg := X.mg) hcl I.ok.glob hgs hc (C.keeps I.bk) hPh htr hnf hgP hB fun c' ctv h' tk hx hge hlt hrec htb => ?_
    have szH : ∀ {b o}, H b = some o → b < s.heap.objs.size := fun e => I.hok.lt e
    have nf : ∀ {b o}, H b = some o → b ≠ h'.objs.size := fun e => Nat.ne_of_lt (Nat.lt_trans (Nat.lt_of_lt_of_le (szH e) hge) hlt)
    have nc : ∀ {b o}, H b = some o → b ≠ c' := fun e => Nat.ne_of_lt (Nat.lt_of_lt_of_le (szH e) hge)
    have nf2 : ∀ {b o}, s.heap.get? b = some o → b ≠ h'.objs.size := fun e => Nat.ne_of_lt (Nat.lt_trans (Nat.lt_of_lt_of_le (Heap.lt_size e) hge) hlt)
    have nc2 : ∀ {b o}, s.heap.get? b = some o → b ≠ c' := fun e => Nat.ne_of_lt (Nat.lt_of_lt_of_le (Heap.lt_size e) hge)
    have cf : c' ≠ h'.objs.size := Nat.ne_of_lt hlt
    have Pf : e.P ≠ h'.objs.size := nf hP
    have Pc : e.P ≠ c' := nc hP
    have H'k : ∀ b o, H b = some o → b ≠ e.P → upd (upd (upd H e.P (.tbl (ps ++ #[rawInt e.pos.line, rawInt e.pos.col, .ref c']))) c' (codeHO c' e.qual)) h'.objs.size (lamHO h'.objs.size e.qual params body scope clos ((X.mg "__name__").getD .none) c') b = some o := fun b o q n => by
      rw [upd_ne (nf q), upd_ne (nc q), upd_ne n]
      exact q
    have H'P : upd (upd (upd H e.P (.tbl (ps ++ #[rawInt e.pos.line, rawInt e.pos.col, .ref c']))) c' (codeHO c' e.qual)) h'.objs.size (lamHO h'.objs.size e.qual params body scope clos ((X.mg "__name__").getD .none) c') e.P = some (.tbl (ps ++ #[rawInt e.pos.line, rawInt e.pos.col, .ref c'])) := by
      rw [upd_ne Pf, upd_ne Pc, upd_same]
    have H'c : upd (upd (upd H e.P (.tbl (ps ++ #[rawInt e.pos.line, rawInt e.pos.col, .ref c']))) c' (codeHO c' e.qual)) h'.objs.size (lamHO h'.objs.size e.qual params body scope clos ((X.mg "__name__").getD .none) c') c' = some (codeHO c' e.qual) := by
      rw [upd_ne cf, upd_same]
    have hk : ∀ b o, b ≠ e.P → s.heap.get? b = some o → (h'.push (kla_obj "<lambda>" e.qual params body scope clos ((X.mg "__name__").getD .none) c' ctv)).get? b = some o := fun b o n q => Heap.get?_push_of_some _ (hx b o n q)
    have hPn : (h'.push (kla_obj "<lambda>" e.qual params body scope clos ((X.mg "__name__").getD .none) c' ctv)).get? e.P = some (tabObj (ps ++ #[rawInt e.pos.line, rawInt e.pos.col, .ref c'])) := Heap.get?_push_of_some _ htb
    refine ⟨.ref h'.objs.size, _, I.step (g' := s.gens) (d' := s.drawn) (t' := tk) (ch := []) (fun _ z => nomatch z) (fun b o _ _ _ q n => hk b o (neP b n) q) (fun b o _ _ _ q n => ⟨o.slots, hk b o (neP b n) q⟩)
      (fun b o _ q n => by rw [upd_ne (nf2 q), upd_ne (nc2 q), upd_ne (neP b n)]; exact n) (fun b o _ q => ?_) (fun b xs q => H'k b _ q (by rintro rfl; rw [hP] at q; cases q)) (fun b o u q => H'k b _ q (by rintro rfl; rw [hP] at q; cases q))
      (fun b qs q => ?_) (fun m hm => ?_) ?_ I.bare, rfl, h _ _ c' ⟨?_, ?_, ?_⟩ (I.hok.fresh (Nat.le_of_lt (Nat.lt_of_le_of_lt hge hlt))) upd_same H'c⟩
    · by_cases hb : b = e.P
      · subst hb; exact ⟨_, hPn⟩
      · exact ⟨o, hk b o hb q⟩
    · by_cases hb : b = e.P
      · subst hb
        rw [hP] at q
        cases q
        exact ⟨_, H'P⟩
      · exact ⟨#[], by rw [H'k b _ q hb]; simp⟩
    · obtain ⟨o, es, ep, q, r⟩ := hm
      exact ⟨o, es, ep, hk _ o (neP _ I.free) q, r⟩
    · intro b u q
      by_cases hb : b = h'.objs.size
      · subst hb
        rw [upd_same] at q
        cases q
        exact lamHO_ok (Heap.get?_push_size _ rfl)
      · by_cases hb2 : b = c'
        · subst hb2
          rw [H'c] at q
          cases q
          exact codeHO_ok (hrec.push _)
        · by_cases hb3 : b = e.P
          · subst hb3
            rw [H'P] at q
            cases q
            exact hPn
          · have q' : H b = some u := by rw [upd_ne hb, upd_ne hb2, upd_ne hb3] at q; exact q
            refine (I.hok b u q').stay (fun d v hd r => hk d v ?_ r) (fun d r => H'k d _ r (by rintro rfl; rw [hP] at r; cases r)) fun d xs r => H'k d _ r (by rintro rfl; rw [hP] at r; cases r)
            rcases hd with rfl | hd
            · exact hb3
            · rintro rfl; rw [hP] at hd; cases hd
    · exact fun b o q n => H'k b o q (by rintro rfl; rw [hP] at q; cases q; exact n _ rfl)
    · intro b qs q
      by_cases hb : b = e.P
      · subst hb; exact ⟨_, H'P⟩
      · exact ⟨qs, H'k b _ q hb⟩
    · intro hT'
      refine ⟨fun e' he' => ?_, hT'.2⟩
      obtain ⟨qs, r1, r2, r3⟩ := hT'.1 e' he'
      by_cases ee : e'.P = e.P
      · have := hT'.2 e' he' e he ee
        subst this
        have hl : (ps ++ #[rawInt e'.pos.line, rawInt e'.pos.col, Value.ref c']).toList = ps.toList ++ [rawInt e'.pos.line, rawInt e'.pos.col, .ref c'] := by simp
        refine ⟨_, H'P, by rw [hl]; exact TriplesOk_snoc _ _ _ _ htr, .inr ⟨c', by rw [hl]; exact codeAmong_snoc _ htr hnf, H'c⟩⟩
      · refine ⟨qs, H'k _ _ r1 ee, r2, ?_⟩
        rcases r3 with r3 | ⟨d, r3, r4⟩
        · exact .inl r3
        · exact .inr ⟨d, r3, H'k _ _ r4 (by rintro rfl; rw [hP] at r4; cases r4)⟩
  · refine PySem.W.kla_makeFunctionHit (mg := X.mg) hcl I.ok.glob hgs hc (C.keeps I.bk) hPh htr hf hB fun ctv h' tk hk hsz => ?_
    have hfr : H h'.objs.size = none := I.hok.fresh hsz
    have hs : Same H (upd H h'.objs.size (lamHO h'.objs.size e.qual params body scope clos ((X.mg "__name__").getD .none) c')) := fun b o q => by rw [upd_ne (ne_of_none q hfr)]; exact q
    exact ⟨.ref h'.objs.size, _, I.laid (t' := tk) (fun b u q => Heap.get?_push_of_some _ (hk b u q)) hsz (lamHO_ok (Heap.get?_push_size _ rfl)), rfl, h _ _ c' hs.gr hfr upd_same (hs _ _ hc')⟩
end
end L2
set_option Elab.async false
set_option linter.all false
set_option maxRecDepth 100000
set_option maxHeartbeats 2000000
/-! ### a lambda called; sorted by a lambda that makes pairs of ints -/
namespace L2
open PySem PySem.Spec PyProof.Rows
open PySem.W (CodeHd tabObj kla_fn kla_obj kla_eval envX)

/-- the context of a lambda's body, called from X's body -/
def cxLam (X : Cx) (A : Around) (N : List Str) (qual : Str) (scope : Scope) (f c : Addr) (clos : List (Str × Addr)) (s : Shared) (H : Hp) : Cx where
  prog := X.prog
  w := X.w
  K := X.K
  mg := X.mg
  base := X.base
  A := A.deeper (envX qual scope s.heap.objs.size f (.ref c) clos)
  N := N
  s_0 := s
  H_0 := H
  env := envX qual scope s.heap.objs.size f (.ref c) clos
  outer := X.stack
  stack := envX qual scope s.heap.objs.size f (.ref c) clos :: X.stack
  ex := []
  fn := fun _ => false
  calm := true
  pn := []
  xe := fun _ _ => False

/-- what a lambda of one parameter x must be: the free names ys, where they stand in X's frame -/
structure LamOk (X : Cx) (params : Arguments) (body : Expr) (scope : Scope) (clos : List (Str × Addr)) (x : Str) (ys : List Str) : Prop where
  kind : scope.kind = .function
  co : scope.isCoroutine = false
  gen : scope.isGenerator = false
  cell : ∀ y ∈ scope.names, y.2 ≠ .cell
  loc : scope.names.lookup x = some .local
  nd : (x :: ys).Nodup
  bind : ∀ (qual : Str) (pm cd ctv u : Value), bindArgs (kla_fn "<lambda>" qual params body scope clos pm cd ctv) ⟨[u], []⟩ = pure [(x, u)]
  sub : ∀ y c, clos.lookup y = some c → X.env.cells.lookup y = some c
  has : ∀ y, scope.names.lookup y = some .free → ∃ c, clos.lookup y = some c
  fre : ∀ y ∈ ys, scope.names.lookup y = some .free
  own : ∀ y ∈ ys, X.env.kindOf y = some .cell

section
variable {X : Cx} {pins : List (Addr × Obj)} {σ : St} {H : Hp} {s : Shared}
theorem lam_run {A : Around} {f c : Addr} {qual : Str} {params : Arguments} {body : Expr} {scope : Scope} {clos : List (Str × Addr)} {pm : Value} {x : Str} {ys : List Str} {ws : List V} {v : V} {u : Value} {Q : VK} {t : TE}
    (I : Inv X pins σ H s) (hA : A.frames = some X.stack) (hd : A.handled = none) (hroom : A.depth < recursionLimit) (W : LamOk X params body scope clos x ys)
    (hf : H f = some (lamHO f qual params body scope clos pm c)) (hc : H c = some (codeHO c qual)) (rv : RelV v u)
    (hw : ws.length = ys.length) (hfv : ∀ (i : Nat) (y : Str) (z : V), ys[i]? = some y → ws[i]? = some z → ∃ k : Nat, X.N[k]? = some y ∧ σ[k]? = some (some z))
    (hb : PE (cxLam X A (x :: ys) qual scope f c clos s H) body t) (hq : t (some v :: ws.map some) H Q) : wpAny (model X.prog X.w) A (call (.ref f) [u]) (EP X pins σ Q) (fun _ _ => False) s := by
  obtain ⟨⟨ctv, hfo⟩, _, _⟩ := I.hok _ _ hf
  obtain ⟨hcd, _, _⟩ := I.hok _ _ hc
  have cellAt : ∀ (i : Nat) (y : Str) (z : V), ys[i]? = some y → ws[i]? = some z → ∃ cl uu, clos.lookup y = some cl ∧ RelV z uu ∧ s.heap.IsCell cl (some uu) := fun i y z h1 h2 => by
    obtain ⟨k, k1, k2⟩ := hfv i y z h1 h2
    have hm : y ∈ ys := List.mem_of_getElem? h1
    obtain ⟨m, _, hl⟩ := I.loc
    obtain ⟨uu, r, l⟩ := hl k y z k1 k2 (.inr (.inl (W.own y hm)))
    obtain ⟨cl, hcl⟩ := W.has y (W.fre y hm)
    rcases l with ⟨k3, _⟩ | ⟨_, cl', k4, k5⟩
    · rw [W.own y hm] at k3; cases k3
    · rw [W.sub y cl hcl] at k4
      cases k4
      exact ⟨cl, uu, hcl, r, k5⟩
  refine wpAny_call (PySem.W.kla_callFunE hroom hfo rfl W.co W.gen rfl hcd ?_)
  rw [W.bind]
  refine wpAny_pure (wpAny_newFunctionEnv W.cell (fun y hy => by rw [List.mem_singleton.mp hy]; exact W.loc) (fun h₁ hns hsb => ⟨I.nolimit.fresh _ hsb, ?_⟩) W.kind)
  show codeAny _ _ (.expr body (envX qual scope s.heap.objs.size f (.ref c) clos)) _ _
  have hk₁ : ∀ b o, s.heap.get? b = some o → h₁.get? b = some o := fun b o e => hsb.extBut b o (Nat.ne_of_lt (Heap.lt_size e)) (Heap.get?_push_of_some _ e)
  have noA : ∀ b : Addr, b ∉ (cxLam X A (x :: ys) qual scope f c clos s H).ex := fun b z => absurd (show b ∈ ([] : List Addr) from z) (by simp)
  have J : Inv (cxLam X A (x :: ys) qual scope f c clos s H) [] (some v :: ws.map some) H { s with heap := h₁, toks := s.toks + [(x, u)].length } := by
    refine ⟨⟨I.mod, W.kind, rfl, rfl, Nat.le_refl _, fun y z d h1 h2 => I.ok.inj y z d (W.sub _ _ h1) (W.sub _ _ h2), fun y hy => ?_, fun y d h => Bool.noConfusion (show false = true from h), fun _ => hd, Around.frames_deeper hA, .inr ⟨rfl, rfl⟩,
      fun b z => absurd z (noA b), I.bs, Nat.le_trans I.ok.bsz I.sz, fun b _ _ => noA b, fun b z => absurd z (noA b), I.stack, I.stkFree⟩,
      rfl, I.bare, Un.kept hk₁, ⟨_, hns, fun i y z h1 h2 h3 => ?_⟩, fun y d h => ?_, I.hok.fresh (Nat.le_refl _), fun y d h => I.freeC y d (W.sub _ _ h), fun p hp => absurd (show p ∈ ([] : List (Addr × Obj)) from hp) (by simp), I.hok.kept hk₁, ?_⟩
    · have hy : scope.names.lookup y = some .cell ∨ scope.names.lookup y = some .free := hy
      rcases hy with hy | hy
      · exact absurd rfl (W.cell _ (PySem.mem_of_lookup hy))
      · exact W.has y hy
    · cases i with
      | zero =>
        have e1 : x = y := Option.some.inj h1
        have e2 : v = z := Option.some.inj (Option.some.inj h2)
        subst e1 e2
        exact ⟨u, rv, .inl ⟨W.loc, by simp⟩⟩
      | succ i =>
        have h1' : ys[i]? = some y := h1
        have h2' : ws[i]? = some z := by
          have : (ws.map some)[i]? = some (some z) := h2
          rw [List.getElem?_map] at this
          cases q : ws[i]? with
          | none => rw [q] at this; cases this
          | some a => rw [q] at this; cases this; rfl
        obtain ⟨cl, uu, k1, k2, o, k3, k4⟩ := cellAt i y z h1' h2'
        exact ⟨uu, k2, .inr ⟨.inr (W.fre y (List.mem_of_getElem? h1')), cl, k1, o, hk₁ _ _ k3, k4⟩⟩
    · obtain ⟨z, o, k1, k2⟩ := I.cell y d (W.sub _ _ h)
      exact ⟨z, o, hk₁ _ _ k1, k2⟩
    · show (some v :: ws.map some).length = (x :: ys).length
      rw [List.length_cons, List.length_map, List.length_cons, hw]
  refine PySem.W.kla_codeExpr (wpAny_mono (hb [] _ _ H _ J hq) (fun r s' hr => ?_) fun _ _ z => False.elim z)
  obtain ⟨v', H', J', rv', q⟩ := hr
  exact I.after ⟨v', H', J'.os, J'.bare, J'.base, J'.hok, rv', q⟩
end

/-! ### the sort -/
/-- not behind, by two ints -/
def Lx (p q : Int × Int) : Prop := p.1 < q.1 ∨ (p.1 = q.1 ∧ p.2 ≤ q.2)
theorem paired_perm {α β : Type} {R : α → β → Prop} {l1 l2 : List β} (h : l1.Perm l2) : ∀ {xs : List α}, Paired R xs l2 → ∃ ys, ys.Perm xs ∧ Paired R ys l1 := by
  induction h with
  | nil => intro xs hx; exact ⟨xs, .refl _, hx⟩
  | cons x _ ih =>
    intro xs hx
    cases hx with
    | cons r t =>
      obtain ⟨ys, h1, h2⟩ := ih t
      exact ⟨_ :: ys, h1.cons _, .cons r h2⟩
  | swap x y l =>
    intro xs hx
    cases hx with
    | cons r t =>
      cases t with
      | cons r2 t2 => exact ⟨_, .swap _ _ _, .cons r2 (.cons r t2)⟩
  | trans _ _ ih1 ih2 =>
    intro xs hx
    obtain ⟨ys, h1, h2⟩ := ih2 hx
    obtain ⟨zs, h3, h4⟩ := ih1 h2
    exact ⟨zs, h3.trans h1, h4⟩
theorem Paired.at_ {α β : Type} {R : α → β → Prop} : ∀ {xs : List α} {ys : List β} {i : Nat} {x : α}, Paired R xs ys → xs[i]? = some x → ∃ y, ys[i]? = some y ∧ R x y
  | _, _, _, _, .nil, h => by simp at h
  | _, _, 0, _, .cons r _, h => by cases h; exact ⟨_, rfl, r⟩
  | _, _, i + 1, _, .cons _ t, h => Paired.at_ (i := i) t h
theorem Paired.at2 {α β : Type} {R : α → β → Prop} : ∀ {xs : List α} {ys : List β} {i : Nat} {y : β}, Paired R xs ys → ys[i]? = some y → ∃ x, xs[i]? = some x ∧ R x y
  | _, _, _, _, .nil, h => by simp at h
  | _, _, 0, _, .cons r _, h => by cases h; exact ⟨_, rfl, r⟩
  | _, _, i + 1, _, .cons _ t, h => Paired.at2 (i := i) t h
theorem Paired.len {α β : Type} {R : α → β → Prop} : ∀ {xs : List α} {ys : List β}, Paired R xs ys → xs.length = ys.length
  | _, _, .nil => rfl
  | _, _, .cons _ t => congrArg Nat.succ (Paired.len t)

/-- a pair of ints stands at a key -/
def KeyAt (h : Heap) (k : Int × Int) (v : Value) : Prop := ∃ t its, v = .ref t ∧ Vals [.int k.1, .int k.2] its ∧ IsTup h t its.toArray
theorem keyAt_key {h : Heap} {k : Int × Int} {v : Value} (x : KeyAt h k v) : PyProof.Rows.G.tupKeyC h (fun _ => false) v = some [Sum.inl k.1, Sum.inl k.2] := by
  obtain ⟨t, its, rfl, r, o, e, hc, n, hd⟩ := x
  cases r with
  | cons r1 r2 =>
    cases r2 with
    | cons r3 r4 =>
      cases r4
      obtain ⟨t1, rfl⟩ := r1
      obtain ⟨t2, rfl⟩ := r3
      simp [PyProof.Rows.G.tupKeyC, PyProof.Rows.G.isTupObj, PyProof.Rows.tupKey, e, hc, hd, PyProof.Rows.tupItems]
theorem keyAt_tup {h : Heap} {k : Int × Int} {v : Value} (x : KeyAt h k v) : ∃ f, PyProof.Rows.TupOf h (fun _ => false) v f := by
  obtain ⟨t, its, rfl, r, o, e, hc, n, hd⟩ := x
  cases r with
  | cons r1 r2 =>
    obtain ⟨t1, rfl⟩ := r1
    exact ⟨.int k.1 t1, t, o, _, n, rfl, e, hc, hd, by simp, fun _ => ⟨_, _, rfl⟩, fun z => Bool.noConfusion (show false = true from z)⟩
theorem keyAt_tups {h : Heap} : ∀ {ks : List (Int × Int)} {vs : List Value}, Paired (KeyAt h) ks vs → ∃ fs, PyProof.Rows.TupsOf h (fun _ => false) vs fs ∧ fs.length = vs.length
  | _, _, .nil => ⟨[], .nil, rfl⟩
  | _, _, .cons r t => by
    obtain ⟨f, hf⟩ := keyAt_tup r
    obtain ⟨fs, h1, h2⟩ := keyAt_tups t
    exact ⟨f :: fs, .cons hf h1, by simp [h2]⟩
theorem lx_of {a b : Int × Int} (h : PyProof.Rows.lexLt PyProof.Rows.itemOrd [Sum.inl b.1, Sum.inl b.2] [Sum.inl a.1, Sum.inl a.2] = false) : Lx a b := by
  rw [PyProof.Rows.lex_false] at h
  obtain ⟨h1, h2⟩ := h
  have e1 : decide (b.1 < a.1) = false := h1
  have e1' : ¬ b.1 < a.1 := of_decide_eq_false e1
  rcases h2 with h2 | h2
  · have e2 : decide (a.1 < b.1) = true := h2
    exact .inl (of_decide_eq_true e2)
  · rw [PyProof.Rows.lex_false] at h2
    have e3 : decide (b.2 < a.2) = false := h2.1
    have e3' : ¬ b.2 < a.2 := of_decide_eq_false e3
    unfold Lx
    omega

section
variable {X : Cx} {pins : List (Addr × Obj)} {σ : St} {H H0 : Hp} {s : Shared}
def exactHO (a : Addr) (o : Obj) : HO := .ext fun h => h.get? a = some o
theorem exactHO_ok {P : Program} {w : World} {H : Hp} {h : Heap} {a : Addr} {o : Obj} (e : h.get? a = some o) : ObjOk P w H h a (exactHO a o) := ⟨e, ⟨_, e⟩, fun _ _ x k => k _ x⟩

theorem sort_tail {a kS : Addr} {xs : List V} {vs its : List Value} {ks : List V} {e1 : Nat} {kf : V → Int × Int} {st : SortSt} {P : PySem.Fin → Shared → Prop} {A : Around} {E : Value → Shared → Prop}
    (I : Inv X pins σ H s) (hs0 : Same H0 H) (rv : Vals xs vs) (hZ : xs.length ≤ sizeLine) (ha : H a = some (exactHO a (seqObj "list" #[] e1))) (hk : H kS = some (.lst ks)) (na0 : H0 a = none) (nk0 : H0 kS = none)
    (hkey : Paired (KeyAt s.heap) (xs.map kf) its) (hp : (arrOf st).Perm (its.toArray.zip vs.toArray)) (hso : SortedToK (PyProof.Rows.G.tupKindC s.heap fun _ => false) (arrOf st) (its.toArray.zip vs.toArray).size) (hfl : failedOf st = none)
    (done : ∀ s' H' ys, Inv X pins σ H' s' → Same H0 H' → H' a = some (.lst ys) → ys.Perm xs → ys.Pairwise (fun x y => Lx (kf x) (kf y)) → P (.done (.ret .none)) s') :
    wpAny (model X.prog X.w) A (ksk_tail a false e1 (.ref kS) st) P E s := by
  have hlen := rv.length
  have hkl := Paired.len hkey
  rw [List.length_map] at hkl
  obtain ⟨zk, kits, nk, rk, lk, ek⟩ := I.lstM hk
  have hka : kS ≠ a := by
    rintro rfl
    rw [ha] at hk
    cases hk
  -- what stands sorted
  let R : V → Keyed → Prop := fun x p => RelV x p.2 ∧ KeyAt s.heap (kf x) p.1
  have pr : ∀ (xs : List V) (vs its : List Value), Vals xs vs → Paired (KeyAt s.heap) (xs.map kf) its → Paired R xs (its.zip vs) := by
    intro xs
    induction xs with
    | nil => intro vs its h1 h2; cases h1; cases h2; exact .nil
    | cons x xs ih =>
      intro vs its h1 h2
      cases h1 with
      | cons r1 t1 =>
        cases h2 with
        | cons r2 t2 => exact .cons ⟨r1, r2⟩ (ih _ _ t1 t2)
  have hz : (its.toArray.zip vs.toArray).toList = its.zip vs := by simp
  have hpl : (arrOf st).toList.Perm (its.zip vs) := by rw [← hz]; exact Array.perm_iff_toList_perm.mp hp
  obtain ⟨ys, y1, y2⟩ := paired_perm hpl (pr xs vs its rv hkey)
  have hsz : (arrOf st).size = xs.length := by rw [← Array.length_toList, ← Paired.len y2, y1.length_eq]
  have hout : ((arrOf st).map (·.2)).toList = (arrOf st).toList.map (·.2) := by simp
  have vy : Vals ys ((arrOf st).map (·.2)).toList := by
    rw [hout]
    have go : ∀ {ys : List V} {l : List Keyed}, Paired R ys l → Vals ys (l.map (·.2)) := fun h => by
      induction h with
      | nil => exact .nil
      | cons r _ ih => exact .cons r.1 ih
    exact go y2
  have py : ys.Pairwise (fun x y => Lx (kf x) (kf y)) := by
    rw [List.pairwise_iff_getElem]
    intro i j hi hj hij
    have hsi : (its.toArray.zip vs.toArray).size = xs.length := by rw [← hp.size_eq]; exact hsz
    have hjx : j < xs.length := by rw [← y1.length_eq]; exact hj
    have q := hso i j (Nat.le_of_lt hij) (by rw [hsi]; exact hjx)
    obtain ⟨p, p1, p2, p3⟩ := Paired.at_ y2 (List.getElem?_eq_getElem hi)
    obtain ⟨p', p1', p2', p3'⟩ := Paired.at_ y2 (List.getElem?_eq_getElem hj)
    have g1 : (arrOf st)[i]? = some p := by rw [← Array.getElem?_toList]; exact p1
    have g2 : (arrOf st)[j]? = some p' := by rw [← Array.getElem?_toList]; exact p1'
    unfold KK at q
    rw [g1, g2] at q
    simp only [Option.bind_some, Option.map_some, keyAt_key p3, keyAt_key p3', Option.getD_some] at q
    exact lx_of q
  unfold ksk_tail
  try dsimp only
  refine wpAny_bind (listUpdate_at ek rfl ?_ (by rw [List.size_toArray, ← lk]; exact zk) (Nat.zero_le _))
  have I2 : Inv X pins σ (upd H kS (.lst [])) { s with heap := s.heap.update kS (Obj.mapSeq fun _ => (#[] : Array Value)), toks := s.toks } := I.lset (its' := []) (ys := []) hk ek (by rfl) .nil (Nat.zero_le _)
  have ha2 : (upd H kS (.lst [])) a = some (exactHO a (seqObj "list" #[] e1)) := by rw [upd_ne (Ne.symm hka)]; exact ha
  refine wpAny_bind (wpAny_letGo ?_)
  have ea : (s.heap.update kS (Obj.mapSeq fun _ => (#[] : Array Value))).get? a = some (seqObj "list" #[] e1) := (I2.hok a _ ha2).1
  refine wpAny_bind (seqEpoch_at ea rfl ?_)
  refine wpAny_bind (listUpdate_at ea rfl ?_ (Nat.zero_le _) ?_)
  · rw [hfl]
    simp only [bne_self_eq_false, Bool.false_eq_true, if_false]
    obtain ⟨c2, hc2⟩ : ∃ c2, ((s.heap.update kS (Obj.mapSeq fun _ => (#[] : Array Value))).update a (Obj.mapSeq fun _ => (arrOf st).map (·.2))).get? a = some (seqObj "list" ((arrOf st).map (·.2)) c2) := ⟨_, get?_update_seq ea fun _ => (arrOf st).map (·.2)⟩
    refine wpAny_pure (done _ (upd (upd H kS (.lst [])) a (.lst ys)) ys (I2.write (x := a) (e := a) (t' := s.toks) (by rw [ha2]; exact trivial) (.inl rfl) (fun b u hb hu => ?_) ⟨_, hc2⟩ ⟨by rw [y1.length_eq]; exact hZ, _, c2, vy, by rw [Array.toArray_toList]; exact hc2⟩)
      (fun b o q => ?_) upd_same y1 py)
    · exact (Heap.get?_update_other _ _ (Ne.symm hb)).trans hu
    · rw [upd_ne (by rintro rfl; rw [na0] at q; cases q), upd_ne (by rintro rfl; rw [nk0] at q; cases q)]
      exact hs0 b o q
  · have : (if false = true then ((arrOf st).map (·.2)).reverse else (arrOf st).map (·.2)).size = xs.length := by
      rw [if_neg Bool.false_ne_true, Array.size_map, hsz]
    exact Nat.le_succ_of_le (Nat.le_trans (Nat.le_of_eq this) hZ)
end
end L2
set_option Elab.async false
set_option linter.all false
set_option maxRecDepth 100000
set_option maxHeartbeats 2000000
namespace L2
open PySem PySem.Spec PyProof.Rows
open PySem.W (CodeHd tabObj kla_fn kla_obj kla_eval envX)
section
variable {X : Cx} {pins : List (Addr × Obj)} {σ : St} {H H0 : Hp} {s : Shared}

/-- the key of one item is made -/
def TurnK (X : Cx) (pins : List (Addr × Obj)) (σ : St) (A : Around) (f : Value) (H0 : Hp) (xs : List V) (kf : V → Int × Int) : Prop :=
  ∀ x ∈ xs, ∀ (s' : Shared) (H' : Hp) (u : Value), Inv X pins σ H' s' → Same H0 H' → RelV x u →
    wpAny (model X.prog X.w) A (call f [u]) (EP X pins σ fun v H'' => ∃ t, v = .ref t ∧ H'' t = some (.tup [.int (kf x).1, .int (kf x).2]) ∧ Same H' H'') (fun _ _ => False) s'

theorem sort_rest {a kS : Addr} {f : Value} {xs : List V} {vs : List Value} {e1 : Nat} {kf : V → Int × Int} {P : PySem.Fin → Shared → Prop} {A : Around} {E : Value → Shared → Prop}
    (I : Inv X pins σ H s) (hs0 : Same H0 H) (rv : Vals xs vs) (hZ : xs.length ≤ sizeLine) (ha : H a = some (exactHO a (seqObj "list" #[] e1))) (hk : H kS = some (.lst [])) (na0 : H0 a = none) (nk0 : H0 kS = none)
    (turn : TurnK X pins σ A f H0 xs kf)
    (done : ∀ s' H' ys, Inv X pins σ H' s' → Same H0 H' → H' a = some (.lst ys) → ys.Perm xs → ys.Pairwise (fun x y => Lx (kf x) (kf y)) → P (.done (.ret .none)) s') :
    wpAny (model X.prog X.w) A (ksk_rest a f false vs.toArray e1 (.ref kS)) P E s := by
  have hlen := rv.length
  have hZ2 := hZ
  rw [sizeLine_eq] at hZ2
  have hka : kS ≠ a := by
    rintro rfl
    rw [ha] at hk
    cases hk
  unfold ksk_rest
  refine wpAny_bind (wpAny_rule ?_)
  first
    | rw [List.forIn_toArray]
    | (rw [← Array.forIn_toList]; simp only [List.toList_toArray])
    | rw [← Array.forIn_toList]
  refine wpAny_bind (ksk_fold (fun i s' => ∃ (H' : Hp) (ts : List Addr), Inv X pins σ H' s' ∧ Same H0 H' ∧ H' a = some (exactHO a (seqObj "list" #[] e1)) ∧ H' kS = some (.lst (ts.map V.ref)) ∧ ts.length = i ∧
    ∀ (j : Nat) (t : Addr), ts[j]? = some t → ∃ x, xs[j]? = some x ∧ H' t = some (.tup [.int (kf x).1, .int (kf x).2])) vs 0 s ⟨H, [], I, hs0, ha, hk, rfl, fun j t h => by simp at h⟩ ?step ?done)
  case step =>
    rintro j u s' hu ⟨H', ts, I', hs', ha', hk', hl', hts⟩
    simp only [Nat.zero_add] at hl' ⊢
    have hj : j < vs.length := (List.getElem?_eq_some_iff.mp hu).1
    obtain ⟨x, hx⟩ : ∃ x, xs[j]? = some x := ⟨_, List.getElem?_eq_getElem (by omega)⟩
    obtain ⟨u', hu', rx⟩ := rv.get hx
    rw [hu] at hu'
    cases hu'
    refine wpAny_bind (wpAny_attempt (wpAny_mono (turn x (List.mem_of_getElem? hx) s' H' u I' hs' rx) (fun v s'' he => ?_) fun _ _ hF => hF.elim))
    obtain ⟨v', H'', I'', rv', t, rfl, ht, sm⟩ := he
    obtain rfl : v = Value.ref t := rv'
    try dsimp only
    have hk'' := sm _ _ hk'
    have ha'' := sm _ _ ha'
    obtain ⟨zk, its, n, r, lk, ek⟩ := I''.lstM hk''
    rw [List.length_map, hl'] at lk
    refine wpAny_bind (listUpdate_at ek rfl ?_ (by rw [List.size_toArray, sizeLine_eq]; omega) (by rw [Array.size_push, List.size_toArray, sizeLine_eq]; omega))
    have nkt : t ≠ kS := by rintro rfl; rw [ht] at hk''; cases hk''
    refine wpAny_pure ⟨rfl, upd H'' kS (.lst ((ts ++ [t]).map V.ref)), ts ++ [t], ?_, fun b o q => ?_, ?_, upd_same, by simp [hl'], fun i t' h => ?_⟩
    · refine I''.lset (its' := its ++ [.ref t]) (t' := s''.toks) hk'' ek (by simp) ?_ ?_
      · rw [List.map_append]
        exact r.append (.cons rfl .nil)
      · rw [List.length_map, List.length_append, hl', List.length_singleton, sizeLine_eq]
        omega
    · rw [upd_ne (by rintro rfl; rw [nk0] at q; cases q)]
      exact sm _ _ (hs' b o q)
    · rw [upd_ne (Ne.symm hka)]
      exact ha''
    · by_cases hi : i < ts.length
      · rw [List.getElem?_append_left hi] at h
        obtain ⟨y, y1, y2⟩ := hts i t' h
        have y3 := sm _ _ y2
        exact ⟨y, y1, by rw [upd_ne (by rintro rfl; rw [y3] at hk''; cases hk'')]; exact y3⟩
      · rw [List.getElem?_append_right (by omega)] at h
        have e0 : i - ts.length = 0 := by
          have := (List.getElem?_eq_some_iff.mp h).1
          simp at this
          omega
        have ei : i = j := by omega
        rw [e0] at h
        cases h
        subst ei
        exact ⟨x, hx, by rw [upd_ne nkt]; exact ht⟩
  case done =>
    rintro s' ⟨H', ts, I', hs', ha', hk', hl', hts⟩
    simp only [Nat.zero_add] at hl'
    obtain ⟨zk, its, n, r, lk, ek⟩ := I'.lstM hk'
    try dsimp only
    refine wpAny_bind (listItems_at ek rfl ?_)
    rw [List.length_map] at lk
    have hkey : Paired (KeyAt s'.heap) (xs.map kf) its := by
      have all : ∀ (xs : List V) (ts : List Addr) (its : List Value), Vals (ts.map V.ref) its → xs.length = ts.length → (∀ (j : Nat) (t : Addr), ts[j]? = some t → ∃ x, xs[j]? = some x ∧ H' t = some (.tup [.int (kf x).1, .int (kf x).2])) →
          Paired (KeyAt s'.heap) (xs.map kf) its := by
        intro xs
        induction xs with
        | nil =>
          intro ts its h1 h2 _
          cases ts with
          | nil => cases h1; exact .nil
          | cons _ _ => simp at h2
        | cons x xs ih =>
          intro ts its h1 h2 h3
          cases ts with
          | nil => simp at h2
          | cons t ts =>
            cases h1 with
            | cons r1 t1 =>
              refine .cons ?_ (ih ts _ t1 (by simpa using h2) fun j t' hj => h3 (j + 1) t' hj)
              obtain ⟨y, y1, y2⟩ := h3 0 t rfl
              have e : x = y := Option.some.inj y1
              subst e
              obtain ⟨_, kits, kr, kt⟩ := I'.hok _ _ y2
              exact ⟨t, kits, r1, kr, kt⟩
      exact all xs ts its r (by omega) hts
    have hzs : (its.toArray.zip vs.toArray).size = vs.length := by rw [Array.size_zip, List.size_toArray, List.size_toArray]; omega
    unfold ksk_end
    try dsimp only
    rw [if_neg (show ¬ false = true from Bool.false_ne_true)]
    by_cases h2 : vs.toArray.size < 2
    · rw [if_pos h2, if_pos h2]
      refine wpAny_bind (wpAny_pure ?_)
      rw [StateT.run_pure]
      refine wpAny_bind (wpAny_pure ?_)
      try dsimp only
      refine sort_tail (st := SortSt.mk' general' (if false = true then (its.toArray.zip vs.toArray).reverse else its.toArray.zip vs.toArray) #[] 7 none) I' hs' rv hZ ha' hk' na0 nk0 hkey (Array.Perm.refl _) ?_ rfl done
      intro i j hij hj
      rw [hzs] at hj
      rw [List.size_toArray] at h2
      have : i = j := by omega
      subst this
      exact KeyOrd.kle_refl _
    · rw [if_neg h2, if_neg h2]
      rw [List.size_toArray] at h2
      obtain ⟨fs, f1, f2⟩ := keyAt_tups hkey
      refine wpAny_bind (tup_kind (vs := its) (shape := fun _ => false) (by omega) f1 ?_)
      refine wpAny_bind (wpAny_mono (PyProof.Rows.G.wpS_sortRunsSt (κ := PyProof.Rows.G.tupKindC s'.heap fun _ => false) (kd := tuples' true) (a₀ := its.toArray.zip vs.toArray)
        (st := SortSt.mk' (tuples' true) (if false = true then (its.toArray.zip vs.toArray).reverse else its.toArray.zip vs.toArray) #[] 7 none)
        (Q := fun _ st' => (arrOf st').Perm (its.toArray.zip vs.toArray) ∧ failedOf st' = none ∧ SortedToK (PyProof.Rows.G.tupKindC s'.heap fun _ => false) (arrOf st') (its.toArray.zip vs.toArray).size)
        (PyProof.Rows.G.tupC_ltAt true (PyProof.Rows.G.KeepsTups.refl _)) ?keys ⟨Array.Perm.refl _, rfl, rfl⟩ rfl (Stable.refl _) (by rw [hzs]; omega) fun st' a1 a2 a3 a4 => ⟨a1, a2, a3⟩) ?_ fun _ _ e => e)
      case keys =>
        intro p hp
        have hz : (its.toArray.zip vs.toArray).toList = its.zip vs := by simp
        rw [hz] at hp
        have hm : p.1 ∈ its := (List.of_mem_zip (show (p.1, p.2) ∈ its.zip vs from hp)).1
        obtain ⟨i, hi⟩ := List.getElem?_of_mem hm
        obtain ⟨k, _, hk2⟩ := Paired.at2 hkey hi
        exact ⟨_, keyAt_key hk2⟩
      rintro ⟨⟨⟩, st'⟩ s2 ⟨rfl, hp, hf, hs⟩
      try dsimp only
      exact sort_tail I' hs' rv hZ ha' hk' na0 nk0 hkey hp hs hf done

theorem sort_tree {a : Addr} {f : Value} {xs : List V} {kf : V → Int × Int} {P : PySem.Fin → Shared → Prop} {A : Around} {E : Value → Shared → Prop}
    (I : Inv X pins σ H s) (hs0 : Same H0 H) (ha : H a = some (.lst xs)) (na0 : H0 a = none) (turn : TurnK X pins σ A f H0 xs kf)
    (done : ∀ s' H' ys, Inv X pins σ H' s' → Same H0 H' → H' a = some (.lst ys) → ys.Perm xs → ys.Pairwise (fun x y => Lx (kf x) (kf y)) → P (.done (.ret .none)) s') :
    wpAny (model X.prog X.w) A (ksk_tree a f false) P E s := by
  obtain ⟨hZ, vs, n, rv, hlen, ho⟩ := I.lstM ha
  have hZ2 := hZ
  rw [sizeLine_eq] at hZ2
  obtain ⟨e1, ho1⟩ : ∃ e1, (s.heap.update a (Obj.mapSeq fun _ => (#[] : Array Value))).get? a = some (seqObj "list" #[] e1) := ⟨_, get?_update_seq ho fun _ => #[]⟩
  unfold ksk_tree
  refine wpAny_bind (listItems_at ho rfl ?_)
  refine wpAny_bind (listUpdate_at ho rfl ?_ (by rw [List.size_toArray, sizeLine_eq]; omega) (Nat.zero_le _))
  refine wpAny_bind (seqEpoch_at ho1 rfl ?_)
  have I1 : Inv X pins σ (upd H a (exactHO a (seqObj "list" #[] e1))) { s with heap := s.heap.update a (Obj.mapSeq fun _ => (#[] : Array Value)), toks := s.toks } :=
    I.write (x := a) (e := a) (by rw [ha]; exact trivial) (.inl rfl) (fun b u hb hu => (Heap.get?_update_other _ _ (Ne.symm hb)).trans hu) ⟨_, ho1⟩ (exactHO_ok ho1)
  refine wpAny_bind (wpAny_newTuple ?_ (by show vs.length ≤ _; rw [sizeLine_eq]; omega))
  refine wpAny_bind (wpAny_newList ?_ (Nat.zero_le _))
  refine wpAny_holding ?_
  have I2 : Inv X pins σ (upd H a (exactHO a (seqObj "list" #[] e1))) { s with heap := (s.heap.update a (Obj.mapSeq fun _ => (#[] : Array Value))).push (seqObj "tuple" vs.toArray 0), toks := s.toks } :=
    I1.kept (t' := s.toks) fun b u q => Heap.get?_push_of_some _ q
  have I3 := I2.lnew (its := []) (ys := []) (t' := s.toks) .nil (Nat.zero_le _)
  have nk : upd H a (exactHO a (seqObj "list" #[] e1)) ((s.heap.update a (Obj.mapSeq fun _ => (#[] : Array Value))).push (seqObj "tuple" vs.toArray 0)).objs.size = none := I2.fresh
  have nka : a ≠ ((s.heap.update a (Obj.mapSeq fun _ => (#[] : Array Value))).push (seqObj "tuple" vs.toArray 0)).objs.size := fun z => by
    rw [← z, upd_same] at nk
    cases nk
  have nk0 : H0 ((s.heap.update a (Obj.mapSeq fun _ => (#[] : Array Value))).push (seqObj "tuple" vs.toArray 0)).objs.size = none := by
    rw [upd_ne (Ne.symm nka)] at nk
    exact hs0.free nk
  refine sort_rest (a := a) (e1 := e1) I3 (fun b o q => ?_) rv hZ ?_ upd_same na0 nk0 turn done
  · have h1 := hs0 b o q
    rw [upd_ne (by rintro rfl; rw [nk0] at q; cases q), upd_ne (by rintro rfl; rw [na0] at q; cases q)]
    exact h1
  · rw [upd_ne nka, upd_same]

/-- sorted(xs, key = f) -/
theorem sorted_key {l f : Addr} {xs : List V} {kf : V → Int × Int} {Q : VK} (I : Inv X pins σ H s) (hl : SqL X.K H l xs) (turn : TurnK X pins σ X.A.in1.in1 (.ref f) H xs kf)
    (done : ∀ (H' : Hp) (D : Addr) (ys : List V), Same H H' → H D = none → H' D = some (.lst ys) → ys.Perm xs → ys.Pairwise (fun x y => Lx (kf x) (kf y)) → Q (.ref D) H') :
    wpAny (model X.prog X.w) X.A (call (.builtin "sorted") [.ref l] [(Str.ofString "key", .ref f)]) (EP X pins σ Q) X.xe s := by
  obtain ⟨vs, rv, pl, hZ⟩ := I.list hl
  have hlen := rv.length
  have hZ2 := hZ
  rw [sizeLine_eq] at hZ2
  refine call_function_entry_kw kind_sorted plain_sorted entry_sorted (ksk_s1 _ _) ?_
  unfold Builtin.«sorted»
  refine wpAny_bind (m := checkCount "sorted" 1 1 _) (wpAny_pure ?_)
  refine wpAny_bind (collect_list pl.isList ?_ (by rw [sizeLine_eq]; omega))
  refine wpAny_bind (wpAny_newList ?_ (by rw [sizeLine_eq]; omega))
  have hsz : ((s.heap.push (seqObj "list" #[] 0)).update s.heap.objs.size (Obj.mapSeq (· ++ vs.toArray))).objs.size = s.heap.objs.size + 1 := by
    rw [Heap.size_update, size_push']
  have keep : ∀ b o, s.heap.get? b = some o → ((s.heap.push (seqObj "list" #[] 0)).update s.heap.objs.size (Obj.mapSeq (· ++ vs.toArray))).get? b = some o := fun b o q => by
    have hlt : b < s.heap.objs.size := Heap.lt_size q
    rw [Heap.get?_update_ne _ _ _ _ (Nat.ne_of_lt hlt), Heap.get?_push_ne _ _ _ (Nat.ne_of_lt hlt)]
    exact q
  have I1 : Inv X pins σ H { s with heap := (s.heap.push (seqObj "list" #[] 0)).update s.heap.objs.size (Obj.mapSeq (· ++ vs.toArray)), toks := s.toks } := I.kept (t' := s.toks) keep
  have I2 := I1.lnew (its := vs) (ys := xs) (t' := s.toks) rv hZ
  have hoL : (((s.heap.push (seqObj "list" #[] 0)).update s.heap.objs.size (Obj.mapSeq (· ++ vs.toArray))).push (seqObj "list" vs.toArray 0)).get? ((s.heap.push (seqObj "list" #[] 0)).update s.heap.objs.size (Obj.mapSeq (· ++ vs.toArray))).objs.size = some (seqObj "list" vs.toArray 0) := Heap.get?_push_size _ rfl
  have nD : H ((s.heap.push (seqObj "list" #[] 0)).update s.heap.objs.size (Obj.mapSeq (· ++ vs.toArray))).objs.size = none := I1.fresh
  refine wpAny_bind (wpAny_holding (wpAny_call_entry_kw slot_list_sort ⟨_, hoL, rfl⟩ entry_list_sort ?body (ksk_l1 _ _)))
  case body =>
    have ht' := ksk_t1 f ((s.heap.push (seqObj "list" #[] 0)).update s.heap.objs.size (Obj.mapSeq (· ++ vs.toArray))).objs.size
    refine Eq.mpr (congrArg (fun z => wpAny (model X.prog X.w) X.A.in1.in1 z _ _ _) ht') ?_
    refine sort_tree (H0 := H) I2 (fun b o q => by rw [upd_ne (ne_of_none q nD)]; exact q) upd_same nD turn fun s' H' ys I' hs hD hp hw => ⟨_, rfl, ?_⟩
    exact wpAny_pure ⟨_, rfl, .ref _, H', I', rfl, done H' _ ys hs nD hD hp hw⟩
end
end L2
set_option Elab.async false
set_option linter.all false
set_option maxRecDepth 100000
set_option maxHeartbeats 2000000
namespace L2
open PySem PySem.Spec PyProof.Rows
open PySem.W (CodeHd tabObj kla_fn kla_obj kla_eval envX)
/-- sorted(e, key = lambda x: ..): tb the reading of the lambda's body, fv where its free names stand in the frame -/
def tSortK (X : Cx) (L : List TabE) (te tb : TE) (fv : List Nat) : TE := fun σ H Q => te σ H fun v H1 => ∃ (l : Addr) (xs ws : List V) (kf : V → Int × Int), v = .ref l ∧ SqL X.K H1 l xs ∧ Tabs L H1 ∧
  Paired (fun (i : Nat) (z : V) => σ[i]? = some (some z)) fv ws ∧
  (∀ x ∈ xs, ∀ H', Gr L H1 H' → tb (some x :: ws.map some) H' fun u H'' => ∃ t, u = .ref t ∧ H'' t = some (.tup [.int (kf x).1, .int (kf x).2]) ∧ Same H' H'') ∧
  ∀ (H' : Hp) (D : Addr) (ys : List V), Gr L H1 H' → H1 D = none → H' D = some (.lst ys) → ys.Perm xs → ys.Pairwise (fun x y => Lx (kf x) (kf y)) → Q (.ref D) H'
section
variable {X : Cx} {L : List TabE}
theorem pe_sortKey {e : Expr} {te tb : TE} {p pos kpos : Pos} {params : Arguments} {body : Expr} {scope : Scope} {clos : List (Str × Addr)} {x : Str} {ys : List Str} {fv : List Nat} {ent : TabE} {c : Addr}
    (hd : X.A.handled = none) (hdep : X.A.depth < recursionLimit) (BM : BMain X.mg X.base) (he : ent ∈ L) (hq : ent.qual = X.env.qual ++ "<lambda>") (hc : X.env.code = .ref c) (C : CodeHd X.base c ent.P)
    (hcl : closureFor scope X.env = pure clos) (hdef : defaultsOf params X.env = ([], [])) (W : LamOk X params body scope clos x ys) (hfv : Paired (fun (j : Nat) (y : Str) => X.N[j]? = some y) fv ys)
    (hb : ∀ (f c : Addr) (s : Shared) (H : Hp), PE (cxLam X X.A.in1.in1 (x :: ys) ent.qual scope f c clos s H) body tb) (hexp : PE X e te) (hg : Gl X "sorted") (hm : X.mg "sorted" = none) (hv : bootBuiltins "sorted" = some (.builtin "sorted"))
    (hst : starEach [e] X.env = [(false, eval e X.env)] := by rfl) :
    PE X (.Call (.Name "sorted" p) [e] [⟨some "key", .Lambda params body scope ent.pos, kpos⟩] pos) (tSortK X L te tb fv) := by
  intro pins s σ H Q I h
  refine wpAny_Call_Name_kw (ld_blt I hg hm hv ?_)
  have hA := (pa_cons hexp pa_nil hst) pos pins s σ H (fun vs H1 => match vs with
    | [v] => ∃ (l : Addr) (xs ws : List V) (kf : V → Int × Int), v = .ref l ∧ SqL X.K H1 l xs ∧ Tabs L H1 ∧ Paired (fun (i : Nat) (z : V) => σ[i]? = some (some z)) fv ws ∧
      (∀ x ∈ xs, ∀ H', Gr L H1 H' → tb (some x :: ws.map some) H' fun u H'' => ∃ t, u = .ref t ∧ H'' t = some (.tup [.int (kf x).1, .int (kf x).2]) ∧ Same H' H'') ∧
      ∀ (H' : Hp) (D : Addr) (ys : List V), Gr L H1 H' → H1 D = none → H' D = some (.lst ys) → ys.Perm xs → ys.Pairwise (fun x y => Lx (kf x) (kf y)) → Q (.ref D) H'
    | _ => False) I h
  refine callWith_kw (thn hA fun us s1 ⟨vs, H1, I1, r, q⟩ => ?_) (by rw [hst]; rfl) (by rw [hst]; rfl)
  cases r with
  | nil => exact False.elim q
  | cons r1 r2 =>
    cases r2 with
    | cons _ _ => exact False.elim q
    | nil =>
      obtain ⟨l, xs, ws, kf, rfl, hl, hT, hws, hkey, hQ⟩ := q
      cases r1
      refine kws_cons (thn (lam_new (L := L) (Q := fun v H' => ∃ f c', v = .ref f ∧ Gr L H1 H' ∧ H' f = some (lamHO f ent.qual params body scope clos ((X.mg "__name__").getD .none) c') ∧ H' c' = some (codeHO c' ent.qual)) I1 BM hT he hq hc C hcl hdef
        fun H' f c' g _ h1 h2 => ⟨f, c', rfl, g, h1, h2⟩) fun fv' s2 ⟨v', H2, I2, rf, f, c', ev, g, hf, hcc⟩ => kws_nil ?_)
      subst ev
      cases rf
      show wpAny (model X.prog X.w) X.A (call (.builtin "sorted") [.ref l] [(Str.ofString "key", .ref f)]) (EP X pins σ Q) X.xe s2
      have hwl : ws.length = ys.length := by rw [← Paired.len hws, Paired.len hfv]
      refine sorted_key (kf := kf) I2 (g.seq hl) (fun x hx s' H' u I' hs rx => ?_) fun H' D zs hs hD hD' hp hw => hQ H' D zs (g.trans hs.gr) (g.free hD) hD' hp hw
      refine lam_run (ws := ws) I' I'.ok.frames hd hdep W (hs _ _ hf) (hs _ _ hcc) rx hwl (fun i y z h1 h2 => ?_) (hb f c' s' H') (hkey x hx H' (g.trans hs.gr))
      obtain ⟨j, hj, hj2⟩ := Paired.at2 hws h2
      obtain ⟨y', hy, hy2⟩ := Paired.at_ hfv hj
      rw [h1] at hy
      cases hy
      exact ⟨j, hy2, hj2⟩
end

/-! ### loops over the keys of a locked dict, and over a list from behind -/
theorem for_keys {d : Addr} {o : Obj} {kvs : List (Key × V)} {g : TG} {tb : TS} {D : Ends} {σ : St} {H : Hp} (Pv : Nat → St → Hp → Prop) (h0 : Pv 0 σ H) (hl : ∀ i σ H, i ≤ kvs.length → Pv i σ H → H d = some (.frz o (.dK kvs)))
    (hs : ∀ i k v σ H, kvs[i]? = some (k, v) → Pv i σ H → g (kV k) σ H fun σ2 H2 => tb { D with nx := Pv (i + 1), ct := Pv (i + 1), bk := D.nx } σ2 H2) (hd : ∀ σ H, Pv kvs.length σ H → D.nx σ H) :
    ∃ W : Nat → Nat → St → Hp → Prop, (∃ m, W 0 m σ H) ∧ ∀ i m σ H, W i m σ H →
      ((Itk d o kvs).stop i H ∧ D.nx σ H) ∨ ((Itk d o kvs).go i H ∧ ∃ N : St → Hp → Prop, (∀ σ' H', N σ' H' → ∃ m', m' < m ∧ W (i + 1) m' σ' H') ∧ ∀ x H', (Itk d o kvs).yld i H x H' → g x σ H' fun σ2 H2 => tb { D with nx := N, ct := N, bk := D.nx } σ2 H2) := by
  refine ⟨fun i m σ H => m = kvs.length - i ∧ i ≤ kvs.length ∧ Pv i σ H, ⟨kvs.length, by simp, Nat.zero_le _, h0⟩, ?_⟩
  rintro i m σ H ⟨rfl, hi, p⟩
  have q := hl i σ H hi p
  by_cases hlt : i < kvs.length
  · refine .inr ⟨⟨q, hlt⟩, Pv (i + 1), fun σ' H' p' => ⟨kvs.length - (i + 1), by omega, rfl, hlt, p'⟩, fun x H' y => ?_⟩
    obtain ⟨e, k, v, y, rfl⟩ := y
    subst e
    exact hs i k v σ _ y p
  · have e : i = kvs.length := by omega
    subst e
    exact .inl ⟨⟨q, Nat.le_refl _⟩, hd σ H p⟩
end L2
set_option Elab.async false
set_option linter.all false
set_option maxRecDepth 100000
set_option maxHeartbeats 2000000
/-! ### set(xs) of a list of ints, len of a set -/
namespace L2
open PySem PySem.Spec PyProof.Rows
theorem met_nd : ∀ (ns acc : List Int), acc.Nodup → (ns.foldl step_dedup acc).Nodup ∧ ∀ k, k ∈ ns.foldl step_dedup acc ↔ k ∈ ns ∨ k ∈ acc
  | [], acc, h => ⟨h, fun k => by simp⟩
  | n :: ns, acc, h => by
    rw [List.foldl_cons]
    by_cases q : n ∈ acc
    · have e : step_dedup acc n = acc := by
        unfold step_dedup
        simp [q]
      rw [e]
      obtain ⟨h1, h2⟩ := met_nd ns acc h
      refine ⟨h1, fun k => ?_⟩
      rw [h2, List.mem_cons]
      constructor
      · rintro (z | z)
        · exact .inl (.inr z)
        · exact .inr z
      · rintro ((rfl | z) | z)
        · exact .inr q
        · exact .inl z
        · exact .inr z
    · have e : step_dedup acc n = acc ++ [n] := by
        unfold step_dedup
        simp [q]
      rw [e]
      have h' : (acc ++ [n]).Nodup := List.nodup_append.mpr ⟨h, by simp, fun a ha b hb => by rw [List.mem_singleton.mp hb]; rintro rfl; exact q ha⟩
      obtain ⟨h1, h2⟩ := met_nd ns (acc ++ [n]) h'
      refine ⟨h1, fun k => ?_⟩
      rw [h2, List.mem_append, List.mem_singleton, List.mem_cons]
      constructor
      · rintro (z | z | z)
        · exact .inl (.inr z)
        · exact .inr z
        · exact .inl (.inl z)
      · rintro ((z | z) | z)
        · exact .inr (.inr z)
        · exact .inl z
        · exact .inr (.inl z)
theorem met_all (ns : List Int) : firstMet (fun i => ns.getD i 0) ns.length = ns.foldl step_dedup [] := by
  unfold firstMet
  congr 1
  refine List.ext_getElem (by simp) fun i h1 h2 => ?_
  simp only [List.getElem_map, List.getElem_range]
  rw [List.getD_eq_getElem?_getD, List.getElem?_eq_getElem h2]
  rfl
/-- how many differ -/
def diff (ns : List Int) : Nat := (ns.foldl step_dedup []).length
theorem diff_is {ns ms : List Int} (h : ms.Nodup) (hm : ∀ k, k ∈ ms ↔ k ∈ ns) : diff ns = ms.length := by
  obtain ⟨h1, h2⟩ := met_nd ns [] .nil
  refine ((List.perm_ext_iff_of_nodup h1 h).mpr fun k => ?_).length_eq
  rw [h2, hm]
  simp
section
variable {X : Cx}
theorem call_setL (hc : X.calm = true) : CallR X (.type "set") (fun xs H Q => ∃ (a : Addr) (ns : List Int), xs = [.ref a] ∧ SqL X.K H a (ns.map V.int) ∧ ns.length + 1 < scanBound ∧ ∀ p S, H p = none → Q (.ref p) (upd H p (.set S (diff ns)))) := by
  intro pins s σ H xs us Q I r h
  obtain ⟨a, ns, rfl, hs, hb, q⟩ := h
  obtain ⟨its, rv, hl, _⟩ := I.list hs
  rw [Vals.ref1 r]
  have hi := rv.ints
  have hlen := hi.length
  refine PySem.call_set_list (items := its.toArray) (ns := ns) (I.ok.hd hc) hl.isList (by simpa using hi) (by rw [List.size_toArray, hlen]; exact hb) fun h' tk hS hk => ?_
  have e0 : its.toArray.size = ns.length := by rw [List.size_toArray, hlen]
  rw [e0, met_all] at hS
  exact ⟨.ref s.heap.objs.size, _, I.laid (t' := tk) (o := .set _ (diff ns)) (fun b u e => hk b u (Heap.lt_size e) e) (Nat.le_refl _) hS, rfl, q _ _ (I.hok.fresh (Nat.le_refl _))⟩
theorem call_lenS : CallR X (.builtin "len") (fun xs H Q => ∃ a S n, xs = [V.ref a] ∧ H a = some (.set S n) ∧ Q (.int n) H) := by
  intro pins s σ H xs us Q I r h
  obtain ⟨a, S, n, rfl, ha, q⟩ := h
  rw [Vals.ref1 r]
  obtain ⟨o, es, ep, t, ho, hex, hd, _, _, hz, hf, rfl⟩ := (show ObjOk X.prog X.w H s.heap a (.set S n) from I.hok a _ ha)
  have hz2 : es.size < 4096 := hz
  exact call_len_set ho hex hd hf (by omega) ⟨.int es.size, H, (I.tok _).tok _, ⟨_, rfl⟩, q⟩
end
end L2
set_option Elab.async false
set_option linter.all false
set_option maxRecDepth 100000
set_option maxHeartbeats 2000000
/-! ### sorted(d, key = lambda ..) of a dict: its keys -/
namespace L2
open PySem PySem.Spec PyProof.Rows
open PySem.W (CodeHd tabObj kla_fn kla_obj kla_eval envX)
theorem paired_of {α β : Type} {R : α → β → Prop} : ∀ {xs : List α} {us : List β}, xs.length = us.length → (∀ (i : Nat) (x : α) (u : β), xs[i]? = some x → us[i]? = some u → R x u) → Paired R xs us
  | [], [], _, _ => .nil
  | [], _ :: _, h, _ => by simp at h
  | _ :: _, [], h, _ => by simp at h
  | x :: xs, u :: us, h, k => .cons (k 0 x u rfl rfl) (paired_of (by simpa using h) fun i x u h1 h2 => k (i + 1) x u (by simpa using h1) (by simpa using h2))
def keysV (kvs : List (Key × V)) : List V := kvs.map fun p => kV p.1
theorem is_kV {P : Program} {w : World} {k : Key} {u : Value} (h : (mixKind P w).is k u = true) : RelV (kV k) u := by
  rcases keyIs_shape (k := k) (v := u) h with ⟨i, t, rfl, rfl⟩ | ⟨x, t, rfl, rfl⟩
  · exact ⟨t, rfl⟩
  · exact ⟨t, rfl⟩
section
variable {X : Cx} {pins : List (Addr × Obj)} {σ : St} {H : Hp} {s : Shared}
theorem sorted_keyD {l f : Addr} {kvs : List (Key × V)} {kf : V → Int × Int} {Q : VK} (hh : X.A.handled = none) (I : Inv X pins σ H s) (hl : Rd H l (.dK kvs)) (turn : TurnK X pins σ X.A.in1.in1 (.ref f) H (keysV kvs) kf)
    (done : ∀ (H' : Hp) (D : Addr) (ys : List V), Same H H' → H D = none → H' D = some (.lst ys) → ys.Perm (keysV kvs) → ys.Pairwise (fun x y => Lx (kf x) (kf y)) → Q (.ref D) H') :
    wpAny (model X.prog X.w) X.A (call (.builtin "sorted") [.ref l] [(Str.ofString "key", .ref f)]) (EP X pins σ Q) X.xe s := by
  obtain ⟨hz, hd, ds, rel, o, es, ep, dd⟩ := dk_rd I.hok hl
  have hlen0 : kvs.length = ds.length := Paired.length rel
  have hA : s.heap.DictAt (mixKind X.prog X.w) l ds ep := ⟨o, es, dd⟩
  refine call_function_entry_kw kind_sorted plain_sorted entry_sorted (ksk_s1 _ _) ?_
  unfold Builtin.«sorted»
  refine wpAny_bind (m := checkCount "sorted" 1 1 _) (wpAny_pure ?_)
  refine wpAny_bind (PySem.W.kdu_collect (A := X.A.in1) (PySem.W.kdl_dict (knd := mixKind X.prog X.w) (kvs := ds) (ep := ep) hd) hh hA (by rw [← hlen0]; exact hz) fun h' tk acc hk hacc => ?_)
  have hl2 : acc.toList.length = ds.length := by rw [Array.length_toList]; exact hacc.1
  have rv : Vals (keysV kvs) acc.toList := by
    refine paired_of (by unfold keysV; rw [List.length_map, hl2, hlen0]) fun i x u hx hu => ?_
    rw [Array.getElem?_toList] at hu
    obtain ⟨k, z, hk1, hk2⟩ := hacc.2 i u hu
    unfold keysV at hx
    rw [List.getElem?_map] at hx
    obtain ⟨p, hp1, hp2, hp3⟩ := Paired.at2 rel hk1
    rw [hp1] at hx
    have ex : kV p.1 = x := Option.some.inj hx
    rw [← ex, hp2]
    exact is_kV hk2
  have hZ : (keysV kvs).length ≤ sizeLine := by unfold keysV; rw [List.length_map]; exact hz
  have hZ2 := hZ
  rw [rv.length] at hZ2
  rw [sizeLine_eq] at hZ2
  generalize acc.toList = vs at rv hZ2 hl2 ⊢
  refine wpAny_bind (wpAny_newList ?_ (by rw [sizeLine_eq]; omega))
  have I1 : Inv X pins σ H { s with heap := h', toks := tk } := I.kept (t' := tk) hk
  have I2 := I1.lnew (its := vs) (ys := keysV kvs) (t' := tk) rv hZ
  have hoL : (h'.push (seqObj "list" vs.toArray 0)).get? h'.objs.size = some (seqObj "list" vs.toArray 0) := Heap.get?_push_size _ rfl
  have nD : H h'.objs.size = none := I1.fresh
  refine wpAny_bind (wpAny_holding (wpAny_call_entry_kw slot_list_sort ⟨_, hoL, rfl⟩ entry_list_sort ?body (ksk_l1 _ _)))
  case body =>
    have ht' := ksk_t1 f h'.objs.size
    refine Eq.mpr (congrArg (fun z => wpAny (model X.prog X.w) X.A.in1.in1 z _ _ _) ht') ?_
    refine sort_tree (H0 := H) I2 (fun b o q => by rw [upd_ne (ne_of_none q nD)]; exact q) upd_same nD turn fun s' H' ys I' hs hD hp hw => ⟨_, rfl, ?_⟩
    exact wpAny_pure ⟨_, rfl, .ref _, H', I', rfl, done H' _ ys hs nD hD hp hw⟩
end
/-- sorted(e, key = lambda x: ..): tb the reading of the lambda's body, fv where its free names stand in the frame -/
def tSortKD (X : Cx) (L : List TabE) (te tb : TE) (fv : List Nat) : TE := fun σ H Q => te σ H fun v H1 => ∃ (l : Addr) (kvs : List (Key × V)) (ws : List V) (kf : V → Int × Int), v = .ref l ∧ Rd H1 l (.dK kvs) ∧ Tabs L H1 ∧
  Paired (fun (i : Nat) (z : V) => σ[i]? = some (some z)) fv ws ∧
  (∀ x ∈ keysV kvs, ∀ H', Gr L H1 H' → tb (some x :: ws.map some) H' fun u H'' => ∃ t, u = .ref t ∧ H'' t = some (.tup [.int (kf x).1, .int (kf x).2]) ∧ Same H' H'') ∧
  ∀ (H' : Hp) (D : Addr) (ys : List V), Gr L H1 H' → H1 D = none → H' D = some (.lst ys) → ys.Perm (keysV kvs) → ys.Pairwise (fun x y => Lx (kf x) (kf y)) → Q (.ref D) H'
section
variable {X : Cx} {L : List TabE}
theorem pe_sortKeyD {e : Expr} {te tb : TE} {p pos kpos : Pos} {params : Arguments} {body : Expr} {scope : Scope} {clos : List (Str × Addr)} {x : Str} {ys : List Str} {fv : List Nat} {ent : TabE} {c : Addr}
    (hd : X.A.handled = none) (hdep : X.A.depth < recursionLimit) (BM : BMain X.mg X.base) (he : ent ∈ L) (hq : ent.qual = X.env.qual ++ "<lambda>") (hc : X.env.code = .ref c) (C : CodeHd X.base c ent.P)
    (hcl : closureFor scope X.env = pure clos) (hdef : defaultsOf params X.env = ([], [])) (W : LamOk X params body scope clos x ys) (hfv : Paired (fun (j : Nat) (y : Str) => X.N[j]? = some y) fv ys)
    (hb : ∀ (f c : Addr) (s : Shared) (H : Hp), PE (cxLam X X.A.in1.in1 (x :: ys) ent.qual scope f c clos s H) body tb) (hexp : PE X e te) (hg : Gl X "sorted") (hm : X.mg "sorted" = none) (hv : bootBuiltins "sorted" = some (.builtin "sorted"))
    (hst : starEach [e] X.env = [(false, eval e X.env)] := by rfl) :
    PE X (.Call (.Name "sorted" p) [e] [⟨some "key", .Lambda params body scope ent.pos, kpos⟩] pos) (tSortKD X L te tb fv) := by
  intro pins s σ H Q I h
  refine wpAny_Call_Name_kw (ld_blt I hg hm hv ?_)
  have hA := (pa_cons hexp pa_nil hst) pos pins s σ H (fun vs H1 => match vs with
    | [v] => ∃ (l : Addr) (kvs : List (Key × V)) (ws : List V) (kf : V → Int × Int), v = .ref l ∧ Rd H1 l (.dK kvs) ∧ Tabs L H1 ∧ Paired (fun (i : Nat) (z : V) => σ[i]? = some (some z)) fv ws ∧
      (∀ x ∈ keysV kvs, ∀ H', Gr L H1 H' → tb (some x :: ws.map some) H' fun u H'' => ∃ t, u = .ref t ∧ H'' t = some (.tup [.int (kf x).1, .int (kf x).2]) ∧ Same H' H'') ∧
      ∀ (H' : Hp) (D : Addr) (ys : List V), Gr L H1 H' → H1 D = none → H' D = some (.lst ys) → ys.Perm (keysV kvs) → ys.Pairwise (fun x y => Lx (kf x) (kf y)) → Q (.ref D) H'
    | _ => False) I h
  refine callWith_kw (thn hA fun us s1 ⟨vs, H1, I1, r, q⟩ => ?_) (by rw [hst]; rfl) (by rw [hst]; rfl)
  cases r with
  | nil => exact False.elim q
  | cons r1 r2 =>
    cases r2 with
    | cons _ _ => exact False.elim q
    | nil =>
      obtain ⟨l, kvs, ws, kf, rfl, hl, hT, hws, hkey, hQ⟩ := q
      cases r1
      refine kws_cons (thn (lam_new (L := L) (Q := fun v H' => ∃ f c', v = .ref f ∧ Gr L H1 H' ∧ H' f = some (lamHO f ent.qual params body scope clos ((X.mg "__name__").getD .none) c') ∧ H' c' = some (codeHO c' ent.qual)) I1 BM hT he hq hc C hcl hdef
        fun H' f c' g _ h1 h2 => ⟨f, c', rfl, g, h1, h2⟩) fun fv' s2 ⟨v', H2, I2, rf, f, c', ev, g, hf, hcc⟩ => kws_nil ?_)
      subst ev
      cases rf
      show wpAny (model X.prog X.w) X.A (call (.builtin "sorted") [.ref l] [(Str.ofString "key", .ref f)]) (EP X pins σ Q) X.xe s2
      have hwl : ws.length = ys.length := by rw [← Paired.len hws, Paired.len hfv]
      refine sorted_keyD (kf := kf) hd I2 (hl.elim (fun q => .inl (g.dK q)) fun ⟨o, q⟩ => .inr ⟨o, g.k _ _ q fun _ z => nomatch z⟩) (fun x hx s' H' u I' hs rx => ?_) fun H' D zs hs hD hD' hp hw => hQ H' D zs (g.trans hs.gr) (g.free hD) hD' hp hw
      refine lam_run (ws := ws) I' I'.ok.frames hd hdep W (hs _ _ hf) (hs _ _ hcc) rx hwl (fun i y z h1 h2 => ?_) (hb f c' s' H') (hkey x hx H' (g.trans hs.gr))
      obtain ⟨j, hj, hj2⟩ := Paired.at2 hws h2
      obtain ⟨y', hy, hy2⟩ := Paired.at_ hfv hj
      rw [h1] at hy
      cases hy
      exact ⟨j, hy2, hj2⟩
end
end L2
set_option Elab.async false
set_option linter.all false
set_option maxRecDepth 100000
set_option maxHeartbeats 2000000
/-! ### the call of the row's def where code tables may grow -/
namespace L2
open PySem PySem.Spec PyProof.Rows
open PySem.W (WData Codec OpenSpec Well WellAll ReadsW ReadsAllW CodeHd tabObj)
theorem Same.seqT {K : PySem.W.Frag} {H H' : Hp} {a : Addr} {xs : List V} (e : Same H H') (h : SqT K H a xs) : SqT K H' a xs := by
  rcases h with (h | ⟨o, h⟩) | h
  · exact .inl (.inl (e _ _ h))
  · exact .inl (.inr ⟨o, e _ _ h⟩)
  · exact .inr h
mutual
theorem Dw.same {K : PySem.W.Frag} {H H' : Hp} (e : Same H H') : ∀ {v : V} {d : WData}, Dw K H v d → Dw K H' v d
  | _, _, .non => .non
  | _, _, .bl b => .bl b
  | _, _, .int i => .int i
  | _, _, .str x => .str x
  | _, _, .byt b => .byt b
  | _, _, .lst s a => .lst (e.seq s) (DwAll.same e a)
  | _, _, .tup s a => .tup (e.seqT s) (DwAll.same e a)
theorem DwAll.same {K : PySem.W.Frag} {H H' : Hp} (e : Same H H') : ∀ {vs : List V} {ds : List WData}, DwAll K H vs ds → DwAll K H' vs ds
  | _, _, .nil => .nil
  | _, _, .cons a b => .cons (Dw.same e a) (DwAll.same e b)
end
def withT (tabs : List Addr) (H : Hp) : Hp := fun b => if b ∈ tabs then some (.tbl #[]) else H b
theorem spec_callT {P : Program} {w : World} {K : PySem.W.Frag} {mg mb : Str → Option Value} {CX : CXT} {k : Nat} {fa : Addr} {fd : FuncData} {ps : List Str} {sp : Sp} {s₁ : Shared} {vals : List Value} {ds : List WData} {R : PySem.W.WRecords} {cl : Str → Option Addr} {d0 : WData} {tabs : List (Addr × Addr)}
    (KX : K.In s₁.heap) (hns : s₁.heap.Ns mainGlobals mg) (hb : s₁.heap.Ns builtinsNs mb) (hbb : ∀ x : Str, x ≠ "__name__" → mb x = bootBuiltins x) (hlim : s₁.heap.NoLimit) (hg : s₁.gens = #[]) (hBM : BMain mg s₁.heap)
    (hT : ∀ q ∈ tabs, CodeHd s₁.heap q.1 q.2 ∧ s₁.heap.get? q.2 = some (tabObj #[])) (hTK : ∀ q ∈ tabs, K.lookup q.2 = none)
    (hwl : WellAll w.params s₁.heap vals ds) (hpl : plWs ds = true) (hwt : ∀ d ∈ ds, d.weight ≤ 1048576) (hr : Room k callerA)
    (F : ∀ base : Heap, K.In base → base.Ns mainGlobals mg → BMain mg base → (∀ q ∈ tabs, CodeHd base q.1 q.2) → FnOk P w K mg base CX k fa fd ps sp) (hbind : ∀ (s : Shared) (us : List Value), us.length = ps.length → BindsTo s fd ⟨us, []⟩ (ps.zip us)) (hlen : ds.length = ps.length)
    (hsp : ∀ (H : Hp) (xs : List V), (∀ q ∈ tabs, H q.2 = some (.tbl #[])) → DwAll K H xs ds → sp xs H (fun v H' => Dw K H' v d0) fun _ _ _ => False)
    (hCX : ∀ H e s', CX [] H s₁ (fun _ _ _ => False) e s' → False) :
    codeAny (model P w) callerA (.call (.ref fa) ⟨vals, []⟩) (fun r s' => ∃ u as, r = .ok (.ret u) ∧ ReadsW R cl s'.heap u d0 as ∧ OldK s₁.heap s'.heap ∧ s'.os = s₁.os ∧ AllBare s'.gens) s₁ := by
  obtain ⟨A, ho, ar⟩ := area_all ds vals hwl hpl hwt
  have hV := vals_toV ho
  have hObj : ∀ {b : Addr} {u : HO}, argH K s₁.heap A b = some u → ∀ q ∈ tabs, b ≠ q.2 := fun {b u} e q hq z => by
    obtain ⟨_, vs, _, _, ⟨e2, _⟩ | ⟨e2, _⟩⟩ := argH_is ar e
    · rw [z, (hT q hq).2] at e2; cases e2
    · rw [z, (hT q hq).2] at e2; cases e2
  have inT : ∀ {b : Addr}, b ∈ tabs.map (·.2) → ∃ q ∈ tabs, b = q.2 := fun h => by
    obtain ⟨q, hq, e⟩ := List.mem_map.mp h
    exact ⟨q, hq, e.symm⟩
  have hsame : Same (argH K s₁.heap A) (withT (tabs.map (·.2)) (argH K s₁.heap A)) := fun b u e => by
    unfold withT
    rw [if_neg fun z => by
      obtain ⟨q, hq, eq⟩ := inT z
      exact hObj e q hq eq]
    exact e
  have hTb : ∀ q ∈ tabs, withT (tabs.map (·.2)) (argH K s₁.heap A) q.2 = some (.tbl #[]) := fun q hq => by
    unfold withT
    rw [if_pos (List.mem_map_of_mem hq)]
  have hcase : ∀ b, withT (tabs.map (·.2)) (argH K s₁.heap A) b = none ∨ (∃ o u, withT (tabs.map (·.2)) (argH K s₁.heap A) b = some (.frz o u)) ∨ ∃ q ∈ tabs, b = q.2 := fun b => by
    by_cases hb : b ∈ tabs.map (·.2)
    · exact .inr (.inr (inT hb))
    · have e : withT (tabs.map (·.2)) (argH K s₁.heap A) b = argH K s₁.heap A b := by unfold withT; rw [if_neg hb]
      rw [e]
      rcases argH_only ar b with z | z
      · exact .inl z
      · exact .inr (.inl z)
  have hok : HOk P w (withT (tabs.map (·.2)) (argH K s₁.heap A)) s₁.heap := fun b u e => by
    by_cases hb : b ∈ tabs.map (·.2)
    · obtain ⟨q, hq, rfl⟩ := inT hb
      rw [hTb q hq] at e
      cases e
      exact (hT q hq).2
    · have e2 : argH K s₁.heap A b = some u := by unfold withT at e; rw [if_neg hb] at e; exact e
      exact (argH_ok (P := P) (w := w) ar b u e2).stay (fun _ _ _ z => z) (fun c z => hsame c _ z) fun c xs z => hsame c _ z
  have hS := DwAll.same hsame (dw_all KX ar ds vals hwl hpl ho)
  have hK : ∀ b u, withT (tabs.map (·.2)) (argH K s₁.heap A) b = some u → K.lookup b = none := fun b u q => by
    by_cases hb : b ∈ tabs.map (·.2)
    · obtain ⟨r, hr, rfl⟩ := inT hb
      exact hTK r hr
    · unfold withT at q
      rw [if_neg hb] at q
      exact (argH_is ar q).1
  have noC : ∀ {b : Addr} {o : Obj}, s₁.heap.get? b = some o → (∀ vs n, o.data ≠ .seq vs n) → o ≠ tabObj #[] → withT (tabs.map (·.2)) (argH K s₁.heap A) b = none := fun {b o} e d n => by
    have hb : b ∉ tabs.map (·.2) := fun z => by
      obtain ⟨r, hr, rfl⟩ := inT z
      rw [(hT r hr).2] at e
      exact n (Option.some.inj e).symm
    unfold withT
    rw [if_neg hb]
    cases q : argH K s₁.heap A b with
    | none => rfl
    | some u =>
      obtain ⟨_, vs, _, _, ⟨e2, _⟩ | ⟨e2, _⟩⟩ := argH_is ar q
      · rw [e2] at e
        cases e
        exact absurd rfl (d _ _)
      · rw [e2] at e
        cases e
        exact absurd rfl (d _ _)
  generalize withT (tabs.map (·.2)) (argH K s₁.heap A) = H at hok hS hK noC hTb hcase
  have noA : ∀ {b : Addr} {o : Obj} {es : Array DictEntry} {ep : Nat}, s₁.heap.get? b = some o → o.data = .dict es ep → H b = none := fun {b o es ep} e d => noC e (fun vs n z => by rw [d] at z; cases z) (fun z => by rw [z] at d; cases d)
  have base_of : ∀ {b : Addr} {o : Obj}, s₁.heap.get? b = some o → H b = none → (hidT s₁.heap H).get? b = some o := fun e n => hidT_get e n
  have nsK : ∀ {b : Addr} {m : Str → Option Value}, s₁.heap.Ns b m → (hidT s₁.heap H).Ns b m := fun {b m} ⟨o, es, ep, e, d, r⟩ => ⟨o, es, ep, base_of e (noA e d), d, r⟩
  have nK : ∀ b o, K.lookup b = some o → H b = none := fun b o e => by
    cases q : H b with
    | none => rfl
    | some u =>
      rw [hK b u q] at e
      cases e
  have hKb : K.In (hidT s₁.heap H) := fun b o e => base_of (KX b o e) (nK b o e)
  have hM : Mod K mg (hidT s₁.heap H) := ⟨hKb, nsK hns, ⟨mb, nsK hb, hbb⟩, let ⟨mc, h1, h2⟩ := hlim; ⟨mc, nsK h1, h2⟩⟩
  have hBMb : BMain mg (hidT s₁.heap H) := by
    obtain ⟨bm, ob, b1, b2, b3, b4, b5, b6⟩ := hBM
    exact ⟨bm, ob, b1, b2, base_of b3 (noC b3 (fun vs n z => by rw [b6] at z; cases z) fun z => by rw [z] at b4; cases b4), b4, b5, b6⟩
  have hCb : ∀ q ∈ tabs, CodeHd (hidT s₁.heap H) q.1 q.2 := fun q hq => by
    obtain ⟨o, vs, file, tf, flags, tg, inF, text, tt, e1, e2, e3, r⟩ := (hT q hq).1
    exact ⟨o, vs, file, tf, flags, tg, inF, text, tt, base_of e1 (noC e1 (fun vs n z => by rw [e3] at z; cases z) fun z => by rw [z] at e2; cases e2), e2, e3, r⟩
  have e0 : Env0 P w K mg (hidT s₁.heap H) callerA [] s₁ H := ⟨rfl, hM, fun b o e => of_hidT e, Nat.le_of_eq (hidT_size _ _), trivial, fun b hb => absurd (show b ∈ ([] : List Addr) from hb) (by simp), hok, .of_eq hg⟩
  have hl : vals.length = ps.length := by rw [wellAll_len hwl]; exact hlen
  refine codeAny_mono ((F _ hKb (nsK hns) hBMb hCb).run callerA [] s₁ H ⟨vals, []⟩ vals (vals.map toV) _ _ hr e0 (hbind s₁ vals hl) hV (hsp H _ hTb hS)) fun r s' x => ?_
  cases r with
  | error e => exact (hCX H e s' x).elim
  | ok fl =>
    cases fl with
    | next => exact False.elim x
    | brk => exact False.elim x
    | cont => exact False.elim x
    | ret u =>
      obtain ⟨v, H', os, bare, un, hok', r', q⟩ := x
      have kept : ∀ b o, s₁.heap.get? b = some o → (∀ q ∈ tabs, b ≠ q.2) → s'.heap.get? b = some o := fun b o e nt => by
        rcases hcase b with z | ⟨ob, u3, z⟩ | ⟨q, hq, z⟩
        · exact un.keep b o e z (by intro z; exact absurd (show b ∈ ([] : List Addr) from z) (by simp)) (by simp)
        · have z2 := un.frzs b ob _ z
          obtain ⟨e1, _⟩ := hok b _ z
          obtain ⟨e2, _⟩ := hok' b _ z2
          rw [e] at e1
          cases e1
          exact e2
        · exact absurd z (nt q hq)
      have KX' : K.In s'.heap := fun b o e => kept b o (KX b o e) fun q hq z => by
        rw [z, hTK q hq] at e
        cases e
      have grown : ∀ q ∈ tabs, ∃ more, s'.heap.get? q.2 = some (tabObj (#[] ++ more)) := fun q hq => by
        obtain ⟨more, z⟩ := un.tbls q.2 _ (hTb q hq)
        exact ⟨more, hok' _ _ z⟩
      obtain ⟨as, hrd⟩ := Dw.reads (R := R) (cl := cl) hok' KX' d0 v u q r'
      refine ⟨u, as, rfl, hrd, ⟨fun b o e => ?_, fun b o e => ?_⟩, os, bare⟩
      · by_cases hb : ∃ q ∈ tabs, b = q.2
        · obtain ⟨q, hq, rfl⟩ := hb
          obtain ⟨more, z⟩ := grown q hq
          have e2 := (hT q hq).2
          rw [e] at e2
          cases e2
          exact .inr (.inl ⟨((hT q hq).1.tab (hT q hq).2).isCodeTable, rfl, #[], more, rfl, z⟩)
        · exact .inl (kept b o e fun q hq z => hb ⟨q, hq, z⟩)
      · by_cases hb : ∃ q ∈ tabs, b = q.2
        · obtain ⟨q, hq, rfl⟩ := hb
          obtain ⟨more, z⟩ := grown q hq
          exact ⟨_, z⟩
        · exact ⟨o, kept b o e fun q hq z => hb ⟨q, hq, z⟩⟩
theorem walk_specT {r : OpenSpec} {k : Nat} {q : Program} {loose : List Str} {XP : (Str → Option Value) → Heap → Prop} {YP : World → Heap → Prop} {d : DefRec} {K : Params → PySem.W.Frag} {CX : CXT} {ps : List Str}
    (hwell : r.wellSaid = true) (hdf : d.params.defaults = []) (hlen : r.args.length = ps.length) (hr : Room k callerA)
    (hY : ∀ (w : World) (h : Heap), YP w h → (K w.params).In h)
    (F : ∀ (w : World) (mg mb : Str → Option Value) (mean : PySem.ExcName → Option Value) (fa : Addr) (h : Heap), Top q (PySem.W.looseW q loose) mean mg mb h → YP w h → (K w.params).In h → h.Ns mainGlobals mg → mg d.name = some (.ref fa) →
      ∃ (fd : FuncData) (tabs : List (Addr × Addr)) (sp : Sp), (∀ (s : Shared) (us : List Value), us.length = ps.length → BindsTo s fd ⟨us, []⟩ (ps.zip us)) ∧
        (∀ t ∈ tabs, CodeHd h t.1 t.2 ∧ h.get? t.2 = some (tabObj #[])) ∧ (∀ t ∈ tabs, (K w.params).lookup t.2 = none) ∧
        (∀ base : Heap, (K w.params).In base → base.Ns mainGlobals mg → BMain mg base → (∀ t ∈ tabs, CodeHd base t.1 t.2) → FnOk r.prog w (K w.params) mg base CX k fa fd ps sp) ∧
        ∀ (H : Hp) (xs : List V) (a : Codec.denoteAll r.args), (∀ t ∈ tabs, H t.2 = some (.tbl #[])) → Codec.withinAll r.args a = true → Codec.app r.args r.asked a = true → DwAll (K w.params) H xs (Codec.encAll r.args a) →
          sp xs H (fun v H' => Dw (K w.params) H' v (r.ret.enc (Codec.app r.args r.f a))) fun _ _ _ => False)
    (hCX : ∀ (H : Hp) (s : Shared) (e : Value) (s' : Shared), CX [] H s (fun _ _ _ => False) e s' → False) :
    PySem.W.WalkOS q loose XP YP r d [] (fun f vs => PySem.call f vs) := by
  intro w s_0 s₁ mg mb G Y fa o pm cd doc dV kV ho hd hcd hD hmg hg args vals as hpre hlay hrd hwl hlo
  obtain ⟨a, e1, e2⟩ := PySem.W.os_pre_some hpre
  obtain ⟨e3, hwi⟩ := Codec.encAll_of_decAll r.args args a e1
  subst e3
  have KX := hY w _ Y
  obtain ⟨fd, tabs, sp, hb, hT, hTK, hF, hsp⟩ := F w mg mb _ fa _ G.T Y KX G.T.g hmg
  refine PySem.W.enter_call (codeAny_mono (spec_callT (R := []) (cl := classAt s_0.heap) (d0 := r.ret.enc (Codec.app r.args r.f a)) KX G.T.g G.T.b G.T.builtins G.T.nolimit hg G.T.bmain hT hTK hwl (pl_encAll _ _) (layable_weight hlay) hr hF hb (by rw [encAll_len]; exact hlen)
    (fun H xs hO hS => hsp H xs a hO hwi e2 hS) fun H e s' => hCX H s₁ e s') fun r' s' hq => ?_)
  obtain ⟨u, as', rfl, h1, h2, h3, h4⟩ := hq
  exact ⟨.inl ⟨u, _, as', rfl, fun _ => rfl, h1, (OpenSpec.post_iff hwell hwi _ _).mpr rfl, fun z => Bool.noConfusion (show false = true from z)⟩, h2, h3, h4⟩
end L2
set_option Elab.async false
namespace TM
open Ks322 (Letter once find earlier first before named claim said up all ring ahead cut answers table look chain chainOf shownOf shown root okLetters okLetter here)

/-! ### lists without doubles -/
theorem mem_once {x : Nat} : ∀ {l : List Nat}, x ∈ once l ↔ x ∈ l
  | [] => by simp [once]
  | a :: l => by
    simp only [once, List.mem_cons, List.mem_filter, mem_once (l := l)]
    by_cases h : x = a
    · simp [h]
    · simp [h]
theorem once_nodup : ∀ (l : List Nat), (once l).Nodup
  | [] => by simp [once]
  | a :: l => by
    simp only [once, List.nodup_cons, List.mem_filter]
    exact ⟨by simp, (once_nodup l).sublist List.filter_sublist⟩
theorem once_id : ∀ {l : List Nat}, l.Nodup → once l = l
  | [], _ => rfl
  | a :: l, h => by
    obtain ⟨h1, h2⟩ := List.nodup_cons.mp h
    simp only [once, once_id h2]
    rw [List.filter_eq_self.mpr]
    intro x hx
    simp only [bne_iff_ne]
    rintro rfl
    exact h1 hx
theorem once_len : ∀ (l : List Nat), (once l).length ≤ l.length
  | [] => Nat.le_refl _
  | a :: l => by
    simp only [once, List.length_cons]
    exact Nat.succ_le_succ (Nat.le_trans (List.length_filter_le _ _) (once_len l))
theorem once_len_iff : ∀ {l : List Nat}, (once l).length = l.length ↔ l.Nodup
  | [] => by simp [once]
  | a :: l => by
    constructor
    · intro h
      simp only [once, List.length_cons, Nat.succ.injEq] at h
      have h1 := List.length_filter_le (fun y => y != a) (once l)
      have h2 := once_len l
      have h3 : (once l).length = l.length := by omega
      have h4 : (List.filter (fun y => y != a) (once l)).length = (once l).length := by omega
      have h5 := List.length_filter_eq_length_iff.mp h4
      refine List.nodup_cons.mpr ⟨fun hm => ?_, once_len_iff.mp h3⟩
      have := h5 a (mem_once.mpr hm)
      simp at this
    · intro h
      rw [once_id h]

/-! ### which numbers there are -/
theorem mem_all {ls : List Letter} {i : Nat} : i ∈ all ls ↔ ∃ l ∈ ls, i = l.id ∨ i ∈ l.refs := by
  simp only [all, mem_once, List.mem_flatMap, List.mem_cons]
theorem id_mem {ls : List Letter} {l : Letter} (h : l ∈ ls) : l.id ∈ all ls := mem_all.mpr ⟨l, h, .inl rfl⟩
theorem named_sub {l : Letter} {i : Nat} (h : i ∈ named l) : i ∈ l.refs ∧ i ≠ l.id := by
  simp only [named, List.mem_filter, bne_iff_ne] at h
  exact h
theorem named_mem {ls : List Letter} {l : Letter} (h : l ∈ ls) {i : Nat} (hi : i ∈ named l) : i ∈ all ls := mem_all.mpr ⟨l, h, .inr (named_sub hi).1⟩
theorem mem_all' {ls : List Letter} {i : Nat} : i ∈ all ls ↔ ∃ l ∈ ls, i = l.id ∨ i ∈ named l := by
  rw [mem_all]
  constructor
  · rintro ⟨l, hl, h⟩
    refine ⟨l, hl, ?_⟩
    by_cases e : i = l.id
    · exact .inl e
    · rcases h with h | h
      · exact .inl h
      · exact .inr (by simp only [named, List.mem_filter, bne_iff_ne]; exact ⟨h, e⟩)
  · rintro ⟨l, hl, h | h⟩
    · exact ⟨l, hl, .inl h⟩
    · exact ⟨l, hl, .inr (named_sub h).1⟩

/-! ### what stands right before -/
theorem before_mem {i p : Nat} : ∀ {l : List Nat}, before i l = some p → p ∈ l
  | [], h => by simp [before] at h
  | [_], h => by simp [before] at h
  | a :: b :: l, h => by
    simp only [before] at h
    split at h
    · simp at h; subst h; exact List.mem_cons_self
    · exact List.mem_cons_of_mem _ (before_mem h)
theorem claim_mem {i p : Nat} {l : Letter} (h : claim i l = some p) : p ∈ named l ∧ p ≠ i := by
  unfold claim at h
  split at h
  · rename_i q hq
    split at h
    · cases h
    · rename_i hne
      simp at h
      subst h
      exact ⟨before_mem hq, hne⟩
  · cases h

/-! ### the earliest -/
theorem earlier_iff {a b : Letter} : earlier a b = true ↔ a.time < b.time ∨ (a.time = b.time ∧ a.id < b.id) := by
  simp [earlier]
theorem earlier_irr {a b : Letter} (h : earlier a b = true) : earlier b a = false := by
  rw [earlier_iff] at h
  rw [Bool.eq_false_iff]
  intro h2
  rw [earlier_iff] at h2
  omega
theorem earlier_trans {a b c : Letter} (h : earlier a b = true) (h2 : earlier b c = true) : earlier a c = true := by
  rw [earlier_iff] at h h2 ⊢
  omega
def pick (b : Option Letter) (l : Letter) : Option Letter := match b with
  | none => some l
  | some x => if earlier l x then some l else b
theorem first_eq_foldl (ls : List Letter) : first ls = ls.foldl pick none := rfl
theorem pick_fold : ∀ (ls : List Letter) (x : Letter), ∃ y, ls.foldl pick (some x) = some y ∧ (y = x ∨ y ∈ ls) ∧ (∀ z, z = x ∨ z ∈ ls → earlier z y = false)
  | [], x => ⟨x, rfl, .inl rfl, fun z hz => by
      rcases hz with rfl | hz
      · simp [earlier]
      · cases hz⟩
  | l :: ls, x => by
    rw [List.foldl_cons]
    by_cases h : earlier l x = true
    · have e : pick (some x) l = some l := by simp [pick, h]
      rw [e]
      obtain ⟨y, h1, h2, h3⟩ := pick_fold ls l
      refine ⟨y, h1, .inr ?_, fun z hz => ?_⟩
      · rcases h2 with rfl | h2
        · exact List.mem_cons_self
        · exact List.mem_cons_of_mem _ h2
      · rcases hz with rfl | hz
        · cases q : earlier z y with
          | false => rfl
          | true =>
            have := h3 l (.inl rfl)
            rw [earlier_trans h q] at this
            cases this
        · exact h3 z (List.mem_cons.mp hz)
    · have e : pick (some x) l = some x := by simp [pick, h]
      rw [e]
      obtain ⟨y, h1, h2, h3⟩ := pick_fold ls x
      refine ⟨y, h1, ?_, fun z hz => ?_⟩
      · rcases h2 with rfl | h2
        · exact .inl rfl
        · exact .inr (List.mem_cons_of_mem _ h2)
      · rcases hz with rfl | hz
        · exact h3 z (.inl rfl)
        · rcases List.mem_cons.mp hz with rfl | hz
          · cases q : earlier z y with
            | false => rfl
            | true =>
              rcases h2 with rfl | h2
              · exact absurd q h
              · have hx := h3 x (.inl rfl)
                -- z before y, and x not before z or equal: by cases
                rw [Bool.not_eq_true] at h
                have hh : ¬ (earlier z x = true) := by rw [h]; simp
                rw [earlier_iff] at hh q
                have hx' : ¬ (earlier x y = true) := by rw [hx]; simp
                rw [earlier_iff] at hx'
                omega
          · exact h3 z (.inr hz)
theorem first_spec {ls : List Letter} {y : Letter} (h : first ls = some y) : y ∈ ls ∧ ∀ z ∈ ls, earlier z y = false := by
  rw [first_eq_foldl] at h
  cases ls with
  | nil => cases h
  | cons l ls =>
    rw [List.foldl_cons] at h
    obtain ⟨y', h1, h2, h3⟩ := pick_fold ls l
    have e : pick none l = some l := rfl
    rw [e, h1] at h
    cases h
    exact ⟨List.mem_cons.mpr h2, fun z hz => h3 z (List.mem_cons.mp hz)⟩
theorem first_none {ls : List Letter} : first ls = none ↔ ls = [] := by
  constructor
  · intro h
    cases ls with
    | nil => rfl
    | cons l ls =>
      rw [first_eq_foldl, List.foldl_cons] at h
      obtain ⟨y', h1, _⟩ := pick_fold ls l
      have e : pick none l = some l := rfl
      rw [e, h1] at h
      cases h
  · rintro rfl; rfl
theorem first_is {ls : List Letter} {l : Letter} (hl : l ∈ ls) (h : ∀ y ∈ ls, y ≠ l → earlier l y = true) : first ls = some l := by
  cases q : first ls with
  | none => rw [first_none.mp q] at hl; cases hl
  | some y =>
    obtain ⟨h1, h2⟩ := first_spec q
    by_cases e : y = l
    · rw [e]
    · have := h2 l hl
      rw [h y h1 e] at this
      cases this

/-! ### letters by age -/
/-- the letters by their age -/
structure Aged (ls bs : List Letter) : Prop where
  perm : bs.Perm ls
  ord : bs.Pairwise fun a b => earlier a b = true
section
variable {ls bs : List Letter}
theorem Aged.mem (h : Aged ls bs) {l : Letter} : l ∈ bs ↔ l ∈ ls := h.perm.mem_iff
theorem Aged.ids (h : Aged ls bs) : (bs.map Letter.id).Perm (ls.map Letter.id) := h.perm.map _
/-- the first letter by age of which something is true is the earliest of which it is -/
theorem Aged.first (h : Aged ls bs) {p : Letter → Bool} {A B : List Letter} {l : Letter} (e : bs = A ++ l :: B) (hA : ∀ a ∈ A, p a = false) (hl : p l = true) : first (ls.filter p) = some l := by
  refine first_is (List.mem_filter.mpr ⟨h.mem.mp (by rw [e]; simp), hl⟩) fun y hy hne => ?_
  obtain ⟨hy1, hy2⟩ := List.mem_filter.mp hy
  have hy3 := h.mem.mpr hy1
  have ho := h.ord
  rw [e] at hy3 ho
  rcases List.mem_append.mp hy3 with q | q
  · rw [hA y q] at hy2; cases hy2
  · rcases List.mem_cons.mp q with q | q
    · exact absurd q hne
    · have := (List.pairwise_append.mp ho).2.1
      exact (List.pairwise_cons.mp this).1 y q
end

/-! ### a letter by its number -/
theorem find_some {ls : List Letter} {i : Nat} {l : Letter} (h : find ls i = some l) : l ∈ ls ∧ l.id = i := by
  unfold find at h
  exact ⟨List.mem_of_find?_eq_some h, by have := List.find?_some h; simpa using this⟩
theorem find_none {ls : List Letter} {i : Nat} : find ls i = none ↔ ∀ l ∈ ls, l.id ≠ i := by
  unfold find
  simp [List.find?_eq_none]
theorem find_is {ls : List Letter} (hn : (ls.map Letter.id).Nodup) {l : Letter} (h : l ∈ ls) : find ls l.id = some l := by
  cases q : find ls l.id with
  | none => exact absurd rfl (find_none.mp q l h)
  | some y =>
    obtain ⟨h1, h2⟩ := find_some q
    have : y = l := by
      have hp : ls.Pairwise fun a b => a.id ≠ b.id := List.pairwise_map.mp hn
      by_cases e : y = l
      · exact e
      · exfalso
        obtain ⟨i, hi, rfl⟩ := List.getElem_of_mem h
        obtain ⟨j, hj, rfl⟩ := List.getElem_of_mem h1
        rw [List.pairwise_iff_getElem] at hp
        rcases Nat.lt_trichotomy i j with c | c | c
        · exact hp i j hi hj c h2.symm
        · subst c; exact e rfl
        · exact hp j i hj hi c h2
    rw [this]

/-! ### what one is said to answer -/
theorem said_here {ls : List Letter} (hn : (ls.map Letter.id).Nodup) {l : Letter} (h : l ∈ ls) : said ls l.id = (named l).getLast? := by
  unfold said
  rw [find_is hn h]
theorem said_lack {ls bs : List Letter} (h : Aged ls bs) {i : Nat} (hi : find ls i = none) {A B : List Letter} {l : Letter} (e : bs = A ++ l :: B) (hA : ∀ a ∈ A, claim i a = none) {p : Nat} (hl : claim i l = some p) : said ls i = some p := by
  unfold said
  rw [hi, h.first (p := fun l => (claim i l).isSome) e (fun a ha => by rw [hA a ha]; rfl) (by rw [hl]; rfl)]
  exact hl
theorem said_lack_none {ls bs : List Letter} (h : Aged ls bs) {i : Nat} (hi : find ls i = none) (hA : ∀ a ∈ bs, claim i a = none) : said ls i = none := by
  unfold said
  rw [hi]
  have : ls.filter (fun l => (claim i l).isSome) = [] := List.filter_eq_nil_iff.mpr fun a ha => by rw [hA a (h.mem.mpr ha)]; simp
  rw [this]
  rfl
theorem said_mem {ls : List Letter} {i p : Nat} (h : said ls i = some p) : p ∈ all ls := by
  unfold said at h
  split at h
  · rename_i l hl
    exact named_mem (find_some hl).1 (List.mem_of_getLast? h)
  · split at h
    · rename_i l hl
      have := (first_spec hl).1
      exact named_mem (List.mem_filter.mp this).1 (claim_mem h).1
    · cases h
theorem answers_said {ls : List Letter} {i p : Nat} (h : answers ls i = some p) : said ls i = some p := by
  unfold answers at h
  split at h
  · cases h
  · exact h
theorem answers_mem {ls : List Letter} {i p : Nat} (h : answers ls i = some p) : p ∈ all ls := said_mem (answers_said h)
end TM
set_option Elab.async false
namespace TM
open Ks322 (Letter once find earlier first before named claim said up all ring ahead cut answers table look chain chainOf shownOf shown root okLetters okLetter here)

/-! ### paths: from i through W, the last of W goes on to q -/
def Path (f : Nat → Option Nat) : Nat → List Nat → Option Nat → Prop
  | _, [], _ => False
  | i, [x], q => x = i ∧ f i = q
  | i, x :: y :: r, q => x = i ∧ f i = some y ∧ Path f y (y :: r) q
section
variable {f g : Nat → Option Nat}
theorem Path.one {i : Nat} : Path f i [i] (f i) := ⟨rfl, rfl⟩
theorem Path.ne {i : Nat} {W : List Nat} {q : Option Nat} (h : Path f i W q) : W ≠ [] := by
  rintro rfl; exact h
theorem Path.head {i : Nat} : ∀ {W : List Nat} {q : Option Nat}, Path f i W q → ∃ r, W = i :: r
  | [], _, h => h.elim
  | [x], _, h => ⟨[], by rw [h.1]⟩
  | x :: y :: r, _, h => ⟨y :: r, by rw [h.1]⟩
theorem Path.mem {i : Nat} {W : List Nat} {q : Option Nat} (h : Path f i W q) : i ∈ W := by
  obtain ⟨r, rfl⟩ := h.head
  exact List.mem_cons_self
theorem Path.cons {i y : Nat} {W : List Nat} {q : Option Nat} (e : f i = some y) (h : Path f y W q) : Path f i (i :: W) q := by
  obtain ⟨r, rfl⟩ := h.head
  exact ⟨rfl, e, h⟩
theorem Path.append : ∀ {W V : List Nat} {i y : Nat} {q : Option Nat}, Path f i W (some y) → Path f y V q → Path f i (W ++ V) q
  | [], _, _, _, _, h, _ => h.elim
  | [x], V, i, y, q, h, k => by
    obtain ⟨rfl, e⟩ := h
    exact Path.cons e k
  | x :: z :: r, V, i, y, q, h, k => by
    obtain ⟨rfl, e, h⟩ := h
    exact Path.cons e (Path.append h k)
theorem Path.snoc {i p : Nat} {W : List Nat} (h : Path f i W (some p)) : Path f i (W ++ [p]) (f p) := h.append .one
theorem Path.split : ∀ {A : List Nat} {B : List Nat} {i j : Nat} {q : Option Nat}, Path f i (A ++ j :: B) q → Path f j (j :: B) q ∧ (A ≠ [] → Path f i A (some j))
  | [], B, i, j, q, h => by
    obtain ⟨r, e⟩ := h.head
    have e2 : j = i := (List.cons.inj e).1
    subst e2
    exact ⟨h, fun z => absurd rfl z⟩
  | [x], B, i, j, q, h => by
    obtain ⟨rfl, e, h⟩ := h
    exact ⟨h, fun _ => ⟨rfl, e⟩⟩
  | x :: y :: r, B, i, j, q, h => by
    obtain ⟨rfl, e, h⟩ := h
    obtain ⟨h1, h2⟩ := Path.split (A := y :: r) h
    exact ⟨h1, fun _ => Path.cons e (h2 (by simp))⟩
theorem Path.imp {i : Nat} : ∀ {W : List Nat} {q : Option Nat}, (∀ x y, f x = some y → g x = some y) → Path f i W q → (∀ y, q = some y → Path g i W q)
  | [], _, _, h => h.elim
  | [x], q, k, h => fun y e => ⟨h.1, by subst e; exact k _ _ h.2⟩
  | x :: z :: r, q, k, h => fun y e => ⟨h.1, k _ _ h.2.1, Path.imp k h.2.2 y e⟩
/-- all on it that aren't the last go on to one on it -/
theorem Path.next : ∀ {W : List Nat} {i : Nat} {q : Option Nat}, Path f i W q → ∀ x ∈ W, ∀ y, f x = some y → y ∈ W.tail ∨ q = some y
  | [], _, _, h => h.elim
  | [z], i, q, h => fun x hx y e => by
    obtain ⟨rfl, e2⟩ := h
    rw [List.mem_singleton.mp hx] at e
    exact .inr (by rw [← e2, e])
  | z :: w :: r, i, q, h => fun x hx y e => by
    obtain ⟨rfl, e2, h⟩ := h
    rcases List.mem_cons.mp hx with rfl | hx
    · rw [e2] at e; cases e
      exact .inl List.mem_cons_self
    · rcases Path.next h x hx y e with q1 | q1
      · exact .inl (List.mem_cons_of_mem _ q1)
      · exact .inr q1
theorem Path.some_of : ∀ {W : List Nat} {i y : Nat}, Path f i W (some y) → ∀ x ∈ W, ∃ z, f x = some z
  | [], _, _, h => h.elim
  | [z], i, y, h => fun x hx => by
    rw [List.mem_singleton.mp hx, h.1]
    exact ⟨y, h.2⟩
  | z :: w :: r, i, y, h => fun x hx => by
    obtain ⟨rfl, e2, h⟩ := h
    rcases List.mem_cons.mp hx with rfl | hx
    · exact ⟨w, e2⟩
    · exact Path.some_of h x hx
theorem Path.same : ∀ {W V : List Nat} {i : Nat}, Path f i W none → Path f i V none → W = V
  | [], _, _, h, _ => h.elim
  | _, [], _, _, h => h.elim
  | [x], [y], i, h, k => by rw [h.1, k.1]
  | [x], y :: z :: r, i, h, k => by have := h.2; rw [k.2.1] at this; cases this
  | x :: y :: r, [z], i, h, k => by have := k.2; rw [h.2.1] at this; cases this
  | x :: y :: r, x' :: y' :: r', i, h, k => by
    obtain ⟨rfl, e, h⟩ := h
    obtain ⟨rfl, e', k⟩ := k
    rw [e] at e'; cases e'
    rw [Path.same h k]
/-- a longest path without doubles -/
theorem Path.longest {S : List Nat} (hS : ∀ x y, f x = some y → y ∈ S) : ∀ (n : Nat) {i : Nat} {W : List Nat} {q : Option Nat}, S.length - W.length ≤ n → Path f i W q → W.Nodup → (∀ x ∈ W, x ∈ S) →
    ∃ V p, Path f i (W ++ V) p ∧ (W ++ V).Nodup ∧ (∀ x ∈ W ++ V, x ∈ S) ∧ ∀ y, p = some y → y ∈ W ++ V
  | n, i, W, none, hn, h, nd, sub => ⟨[], none, by simpa using h, by simpa using nd, by simpa using sub, fun y e => by cases e⟩
  | n, i, W, some y, hn, h, nd, sub => by
    by_cases hy : y ∈ W
    · exact ⟨[], some y, by simpa using h, by simpa using nd, by simpa using sub, fun z e => by cases e; simpa using hy⟩
    · have nd2 : (W ++ [y]).Nodup := List.nodup_append.mpr ⟨nd, by simp, fun a ha b hb => by rw [List.mem_singleton.mp hb]; rintro rfl; exact hy ha⟩
      have sub2 : ∀ x ∈ W ++ [y], x ∈ S := fun x hx => by
        rcases List.mem_append.mp hx with hx | hx
        · exact sub x hx
        · rw [List.mem_singleton.mp hx]
          obtain ⟨x0, h0⟩ : ∃ x0, f x0 = some y := by
            have hne := h.ne
            obtain ⟨A, j, e⟩ : ∃ A j, W = A ++ [j] := ⟨W.dropLast, W.getLast hne, (List.dropLast_concat_getLast hne).symm⟩
            rw [e] at h
            exact ⟨j, (Path.split h).1.2⟩
          exact hS _ _ h0
      have hl := nd2.length_le_of_subset sub2
      simp only [List.length_append, List.length_cons, List.length_nil] at hl
      cases n with
      | zero => omega
      | succ n =>
        obtain ⟨V, p, h1, h2, h3, h4⟩ := Path.longest hS n (W := W ++ [y]) (by simp only [List.length_append, List.length_cons, List.length_nil]; omega) h.snoc nd2 sub2
        exact ⟨y :: V, p, by simpa using h1, by simpa using h2, by simpa using h3, by simpa using h4⟩
end

/-! ### going up -/
section
variable {ls : List Letter}
theorem up_sub {C : List Nat} (hC : ∀ x ∈ C, ∀ y, said ls x = some y → y ∈ C) : ∀ (n : Nat) (i : Nat), (∀ y, said ls i = some y → y ∈ C) → ∀ j ∈ up ls n i, j ∈ C
  | 0, i, _, j, hj => by simp [up] at hj
  | n + 1, i, hi, j, hj => by
    unfold up at hj
    split at hj
    · cases hj
    · rename_i p hp
      rcases List.mem_cons.mp hj with rfl | hj
      · exact hi _ hp
      · exact up_sub hC n p (fun y e => hC p (hi _ hp) y e) j hj
theorem up_mono : ∀ {n m : Nat} {i j : Nat}, n ≤ m → j ∈ up ls n i → j ∈ up ls m i
  | 0, _, i, j, _, hj => by simp [up] at hj
  | n + 1, 0, i, j, h, hj => by omega
  | n + 1, m + 1, i, j, h, hj => by
    unfold up at hj ⊢
    split at hj
    · cases hj
    · rename_i p hp
      rcases List.mem_cons.mp hj with rfl | hj
      · exact List.mem_cons_self
      · exact List.mem_cons_of_mem _ (up_mono (by omega) hj)
theorem up_path : ∀ {W : List Nat} {i : Nat} {q : Option Nat}, Path (said ls) i W q → up ls W.length i = W.tail ++ q.toList
  | [], _, _, h => h.elim
  | [x], i, q, h => by
    obtain ⟨rfl, e⟩ := h
    simp only [List.length_cons, List.length_nil, Nat.zero_add, up, e]
    cases q <;> rfl
  | x :: y :: r, i, q, h => by
    obtain ⟨rfl, e, h⟩ := h
    have ih := up_path h
    show up ls ((y :: r).length + 1) x = _
    unfold up
    rw [e]
    simp only
    rw [ih]
    simp
/-- a path that comes back to where it began -/
structure Ring (ls : List Letter) (i : Nat) (R : List Nat) : Prop where
  path : Path (said ls) i R (some i)
  nd : R.Nodup
theorem Ring.sub {i : Nat} {R : List Nat} (h : Ring ls i R) : ∀ x ∈ R, x ∈ all ls := fun x hx => by
  obtain ⟨A, B, rfl⟩ := List.append_of_mem hx
  obtain ⟨h1, h2⟩ := h.path.split
  cases A with
  | nil =>
    obtain ⟨r, e⟩ := h.path.head
    have e2 : x = i := (List.cons.inj e).1
    have hne : (x :: B) ≠ [] := by simp
    obtain ⟨A', j, e'⟩ : ∃ A j, x :: B = A ++ [j] := ⟨(x :: B).dropLast, (x :: B).getLast hne, (List.dropLast_concat_getLast hne).symm⟩
    have h3 := h.path
    rw [List.nil_append, e'] at h3
    rw [e2]
    exact said_mem (Path.split h3).1.2
  | cons a A =>
    have h3 := h2 (by simp)
    obtain ⟨A', j, e'⟩ : ∃ A' j, a :: A = A' ++ [j] := ⟨(a :: A).dropLast, (a :: A).getLast (by simp), (List.dropLast_concat_getLast (by simp)).symm⟩
    rw [e'] at h3
    exact said_mem (Path.split h3).1.2
theorem Ring.len {i : Nat} {R : List Nat} (h : Ring ls i R) : R.length ≤ (all ls).length := h.nd.length_le_of_subset h.sub
theorem Ring.mem_up {i : Nat} {R : List Nat} (h : Ring ls i R) {j : Nat} : j ∈ up ls (all ls).length i ↔ j ∈ R := by
  obtain ⟨r, e⟩ := h.path.head
  have cl : ∀ x ∈ R, ∀ y, said ls x = some y → y ∈ R := fun x hx y hy => by
    rcases h.path.next x hx y hy with q | q
    · exact List.mem_of_mem_tail q
    · cases q; exact h.path.mem
  constructor
  · exact up_sub cl _ i (fun y hy => cl i h.path.mem y hy) j
  · intro hj
    refine up_mono h.len ?_
    rw [up_path h.path, e]
    rw [e] at hj
    simp only [List.tail_cons, Option.toList_some, List.mem_append, List.mem_singleton]
    rcases List.mem_cons.mp hj with rfl | hj
    · exact .inr rfl
    · exact .inl hj
theorem Ring.is {i : Nat} {R : List Nat} (h : Ring ls i R) : ring ls i = true := by
  unfold ring
  rw [List.contains_iff_mem]
  exact h.mem_up.mpr h.path.mem
/-- the same ring, from another on it -/
theorem Ring.turn {i j : Nat} {R : List Nat} (h : Ring ls i R) (hj : j ∈ R) : ∃ R', Ring ls j R' ∧ ∀ x, x ∈ R' ↔ x ∈ R := by
  obtain ⟨A, B, rfl⟩ := List.append_of_mem hj
  obtain ⟨h1, h2⟩ := h.path.split
  cases A with
  | nil =>
    obtain ⟨r, e⟩ := h.path.head
    have e2 : j = i := (List.cons.inj e).1
    subst e2
    exact ⟨_, h, fun _ => .rfl⟩
  | cons a A =>
    refine ⟨j :: B ++ (a :: A), ⟨h1.append (h2 (by simp)), ?_⟩, fun x => ?_⟩
    · exact (List.perm_append_comm.nodup_iff).mpr h.nd
    · exact List.perm_append_comm.mem_iff
/-- not on a ring: a path without doubles that ends, or runs into itself elsewhere -/
theorem ring_not {i : Nat} {W : List Nat} {q : Option Nat} (h : Path (said ls) i W q) (nd : W.Nodup) (hq : ∀ y, q = some y → y ∈ W) (hi : q ≠ some i) : ring ls i = false := by
  unfold ring
  rw [Bool.eq_false_iff]
  intro hc
  rw [List.contains_iff_mem] at hc
  obtain ⟨r, e⟩ := h.head
  have hin : i ∉ r := by rw [e] at nd; exact (List.nodup_cons.mp nd).1
  have cl : ∀ x ∈ W, ∀ y, said ls x = some y → y ∈ r := fun x hx y hy => by
    rcases h.next x hx y hy with q1 | q1
    · rw [e] at q1; exact q1
    · have := hq y q1
      rw [e] at this
      rcases List.mem_cons.mp this with rfl | this
      · exact absurd q1 hi
      · exact this
  exact hin (up_sub (C := r) (fun x hx y hy => cl x (by rw [e]; exact List.mem_cons_of_mem _ hx) y hy) _ i (fun y hy => cl i h.mem y hy) i hc)

/-! ### the first on a ring -/
def lead (R : List Nat) : List Letter → Option Nat
  | [] => R.min?
  | l :: bs => if l.id ∈ R then some l.id else lead R bs
theorem cut_ring {i : Nat} {R : List Nat} (h : Ring ls i R) : cut ls i = true ↔ ∀ j ∈ R, j = i ∨ ahead ls i j = true := by
  unfold cut
  rw [h.is, Bool.true_and, List.all_eq_true]
  constructor
  · intro k j hj
    have := k j (h.mem_up.mpr hj)
    obtain ⟨R', h', _⟩ := h.turn hj
    rw [h'.is] at this
    simpa using this
  · intro k j hj
    rcases k j (h.mem_up.mp hj) with q | q
    · simp [q]
    · simp [q]
theorem lead_split {R : List Nat} : ∀ (bs : List Letter), (∃ A l B, bs = A ++ l :: B ∧ (∀ a ∈ A, a.id ∉ R) ∧ l.id ∈ R ∧ lead R bs = some l.id) ∨ ((∀ a ∈ bs, a.id ∉ R) ∧ lead R bs = R.min?)
  | [] => .inr ⟨by simp, rfl⟩
  | l :: bs => by
    by_cases hl : l.id ∈ R
    · exact .inl ⟨[], l, bs, rfl, by simp, hl, by simp [lead, hl]⟩
    · rcases lead_split (R := R) bs with ⟨A, l', B, e, h1, h2, h3⟩ | ⟨h1, h2⟩
      · refine .inl ⟨l :: A, l', B, by rw [e]; rfl, fun a ha => ?_, h2, by simp [lead, hl, h3]⟩
        rcases List.mem_cons.mp ha with rfl | ha
        · exact hl
        · exact h1 a ha
      · refine .inr ⟨fun a ha => ?_, by simp [lead, hl, h2]⟩
        rcases List.mem_cons.mp ha with rfl | ha
        · exact hl
        · exact h1 a ha
theorem lead_cut {bs : List Letter} (hb : Aged ls bs) (hn : (ls.map Letter.id).Nodup) {i : Nat} {R : List Nat} (h : Ring ls i R) : cut ls i = true ↔ lead R bs = some i := by
  rw [cut_ring h]
  have hi := h.path.mem
  rcases lead_split (R := R) bs with ⟨A, l, B, e, h1, h2, h3⟩ | ⟨h1, h2⟩
  · have lb : l ∈ bs := by rw [e]; simp
    have ll := hb.mem.mp lb
    have fl := find_is hn ll
    rw [h3]
    constructor
    · intro k
      rcases k l.id h2 with q | q
      · rw [q]
      · exfalso
        unfold ahead at q
        rw [fl] at q
        cases qf : find ls i with
        | none => rw [qf] at q; simp at q
        | some a =>
          rw [qf] at q
          simp only at q
          obtain ⟨a1, a2⟩ := find_some qf
          have a3 := hb.mem.mpr a1
          rw [e] at a3
          rcases List.mem_append.mp a3 with z | z
          · exact h1 a z (by rw [a2]; exact hi)
          · rcases List.mem_cons.mp z with z | z
            · subst z; simp [earlier] at q
            · have ho := hb.ord
              rw [e] at ho
              have := (List.pairwise_cons.mp (List.pairwise_append.mp ho).2.1).1 a z
              rw [earlier_irr this] at q
              cases q
    · intro k j hj
      have ei : l.id = i := Option.some.inj k
      subst ei
      by_cases ej : j = l.id
      · exact .inl ej
      · refine .inr ?_
        unfold ahead
        rw [fl]
        cases qf : find ls j with
        | none => rfl
        | some b =>
          simp only
          obtain ⟨b1, b2⟩ := find_some qf
          have b3 := hb.mem.mpr b1
          have ho := hb.ord
          rw [e] at b3 ho
          rcases List.mem_append.mp b3 with z | z
          · exact absurd (by rw [b2]; exact hj) (h1 b z)
          · rcases List.mem_cons.mp z with z | z
            · subst z; exact absurd b2.symm ej
            · exact (List.pairwise_cons.mp (List.pairwise_append.mp ho).2.1).1 b z
  · have nf : ∀ j ∈ R, find ls j = none := fun j hj => find_none.mpr fun l hl e => h1 l (hb.mem.mpr hl) (by rw [e]; exact hj)
    rw [h2]
    have hah : ∀ j ∈ R, ahead ls i j = decide (i < j) := fun j hj => by
      unfold ahead
      rw [nf i hi, nf j hj]
    constructor
    · intro k
      rw [List.min?_eq_some_iff]
      refine ⟨hi, fun b hb' => ?_⟩
      rcases k b hb' with q | q
      · omega
      · rw [hah b hb'] at q
        simp at q
        omega
    · intro k j hj
      rw [List.min?_eq_some_iff] at k
      have := k.2 j hj
      rw [hah j hj]
      by_cases e : j = i
      · exact .inl e
      · refine .inr ?_
        simp
        omega
theorem lead_mem {bs : List Letter} {R : List Nat} {m : Nat} (h : lead R bs = some m) : m ∈ R := by
  rcases lead_split (R := R) bs with ⟨A, l, B, e, h1, h2, h3⟩ | ⟨h1, h2⟩
  · rw [h3] at h; cases h; exact h2
  · rw [h2] at h
    exact (List.min?_eq_some_iff.mp h).1
theorem lead_some {bs : List Letter} {R : List Nat} (h : R ≠ []) : ∃ m, lead R bs = some m := by
  rcases lead_split (R := R) bs with ⟨A, l, B, e, h1, h2, h3⟩ | ⟨h1, h2⟩
  · exact ⟨_, h3⟩
  · rw [h2]
    cases q : R.min? with
    | none => exact absurd (List.min?_eq_none_iff.mp q) h
    | some m => exact ⟨m, rfl⟩
theorem lead_congr {R R' : List Nat} (h : ∀ x, x ∈ R ↔ x ∈ R') : ∀ (bs : List Letter), lead R bs = lead R' bs
  | [] => by
    show R.min? = R'.min?
    cases q : R.min? with
    | none =>
      have : R = [] := List.min?_eq_none_iff.mp q
      subst this
      have : R' = [] := List.eq_nil_iff_forall_not_mem.mpr fun x hx => by simpa using (h x).mpr hx
      subst this; rfl
    | some m =>
      rw [List.min?_eq_some_iff] at q
      exact (List.min?_eq_some_iff.mpr ⟨(h m).mp q.1, fun b hb => q.2 b ((h b).mpr hb)⟩).symm
  | l :: bs => by
    unfold lead
    by_cases hl : l.id ∈ R
    · rw [if_pos hl, if_pos ((h _).mp hl)]
    · rw [if_neg hl, if_neg fun z => hl ((h _).mpr z), lead_congr h bs]

/-! ### chains end -/
/-- letters by age, no two with one number -/
structure Desk (ls bs : List Letter) : Prop where
  aged : Aged ls bs
  nd : (ls.map Letter.id).Nodup
theorem no_ring {bs : List Letter} (D : Desk ls bs) {p : Nat} {R : List Nat} (h : Path (answers ls) p R (some p)) (nd : R.Nodup) : False := by
  have h2 : Path (said ls) p R (some p) := h.imp (fun x y e => answers_said e) p rfl
  have hr : Ring ls p R := ⟨h2, nd⟩
  obtain ⟨m, hm⟩ := lead_some (bs := bs) (R := R) h.ne
  have mm := lead_mem hm
  obtain ⟨R', hr', hx⟩ := hr.turn mm
  have hc : cut ls m = true := (lead_cut D.aged D.nd hr').mpr (by rw [lead_congr hx]; exact hm)
  obtain ⟨z, hz⟩ := h.some_of m mm
  unfold answers at hz
  rw [hc] at hz
  simp at hz
theorem chain_ends {bs : List Letter} (D : Desk ls bs) {i : Nat} (hi : i ∈ all ls) : ∃ W, Path (answers ls) i W none ∧ W.Nodup ∧ ∀ x ∈ W, x ∈ all ls := by
  obtain ⟨V, p, h1, h2, h3, h4⟩ := Path.longest (f := answers ls) (S := all ls) (fun x y e => answers_mem e) (all ls).length (i := i) (W := [i]) (Nat.sub_le _ _) Path.one (by simp) (by simpa using hi)
  cases p with
  | none => exact ⟨_, h1, h2, h3⟩
  | some y =>
    exfalso
    have hy := h4 y rfl
    obtain ⟨A, B, e⟩ := List.append_of_mem hy
    rw [e] at h1 h2
    exact no_ring D h1.split.1 (List.nodup_append.mp h2).2.1
theorem look_table {i : Nat} (hi : i ∈ all ls) : look (table ls) i = answers ls i := by
  unfold look table
  have : ∀ (L : List Nat), i ∈ L → (L.map fun i => (i, answers ls i)).find? (fun x => x.1 == i) = some (i, answers ls i) := by
    intro L
    induction L with
    | nil => intro h; cases h
    | cons a L ih =>
      intro h
      rw [List.map_cons, List.find?_cons]
      by_cases e : a = i
      · subst e; simp
      · have : ((a, answers ls a).1 == i) = false := by simpa using e
        rw [this]
        exact ih ((List.mem_cons.mp h).resolve_left fun z => e z.symm)
  rw [this _ hi]
theorem chain_path : ∀ {W : List Nat} {i n : Nat}, (∀ x ∈ W, x ∈ all ls) → Path (answers ls) i W none → W.length ≤ n + 1 → chain (table ls) n i = W
  | [], _, _, _, h, _ => h.elim
  | [x], i, n, hs, h, hn => by
    obtain ⟨rfl, e⟩ := h
    cases n with
    | zero => rfl
    | succ n =>
      unfold chain
      rw [look_table (hs x (by simp)), e]
  | x :: y :: r, i, n, hs, h, hn => by
    obtain ⟨rfl, e, h⟩ := h
    cases n with
    | zero => simp at hn
    | succ n =>
      unfold chain
      rw [look_table (hs x (by simp)), e]
      simp only
      rw [chain_path (fun z hz => hs z (List.mem_cons_of_mem _ hz)) h (by simpa using hn)]
theorem chainOf_path {bs : List Letter} (D : Desk ls bs) {i : Nat} (hi : i ∈ all ls) : Path (answers ls) i (chainOf ls i) none ∧ (chainOf ls i).Nodup ∧ ∀ x ∈ chainOf ls i, x ∈ all ls := by
  obtain ⟨W, h1, h2, h3⟩ := chain_ends D hi
  have : chainOf ls i = W := chain_path h3 h1 (Nat.le_succ_of_le (h2.length_le_of_subset h3))
  rw [this]
  exact ⟨h1, h2, h3⟩
theorem chainOf_len {bs : List Letter} (D : Desk ls bs) {i : Nat} (hi : i ∈ all ls) : (chainOf ls i).length ≤ (all ls).length :=
  (chainOf_path D hi).2.1.length_le_of_subset (chainOf_path D hi).2.2
theorem chainOf_none {bs : List Letter} (D : Desk ls bs) {i : Nat} (hi : i ∈ all ls) (e : answers ls i = none) : chainOf ls i = [i] :=
  (chainOf_path D hi).1.same ⟨rfl, e⟩
/-- a part of a chain, then the rest -/
theorem chainOf_part {bs : List Letter} (D : Desk ls bs) {i p : Nat} (hi : i ∈ all ls) {W : List Nat} (h : Path (answers ls) i W (some p)) (hp : p ∈ all ls) : chainOf ls i = W ++ chainOf ls p :=
  (chainOf_path D hi).1.same (h.append (chainOf_path D hp).1)
theorem path_end_mem {f : Nat → Option Nat} {i p : Nat} {W : List Nat} (h : Path f i W (some p)) : ∃ x, f x = some p := by
  obtain ⟨A, j, e⟩ : ∃ A j, W = A ++ [j] := ⟨W.dropLast, W.getLast h.ne, (List.dropLast_concat_getLast h.ne).symm⟩
  rw [e] at h
  exact ⟨j, (Path.split h).1.2⟩
theorem chain_trans {bs : List Letter} (D : Desk ls bs) {i j : Nat} (hi : i ∈ all ls) (hj : j ∈ chainOf ls i) : ∃ A, chainOf ls i = A ++ chainOf ls j := by
  obtain ⟨A, B, e⟩ := List.append_of_mem hj
  have hp := (chainOf_path D hi).1
  rw [e] at hp
  obtain ⟨h1, h2⟩ := hp.split
  have hja : j ∈ all ls := (chainOf_path D hi).2.2 j hj
  refine ⟨A, ?_⟩
  rw [e, h1.same (chainOf_path D hja).1]
end
end TM
set_option Elab.async false
namespace TM
open Ks322 (Letter once find earlier first before named claim said up all ring ahead cut answers table look chain chainOf shownOf shown root okLetters okLetter here)
open Ks323 (View under timeOf viewOf timeIn beforeIt sorted answersTo tree)

section
variable {ls bs : List Letter}
/-! ### what is shown -/
theorem mem_shown {j : Nat} : j ∈ shownOf ls ↔ ∃ l ∈ ls, j ∈ chainOf ls l.id := by
  show j ∈ once _ ↔ _
  rw [mem_once, List.mem_flatMap]
  exact .rfl
theorem shown_nd : (shownOf ls).Nodup := once_nodup _
theorem shown_all (D : Desk ls bs) {j : Nat} (h : j ∈ shownOf ls) : j ∈ all ls := by
  obtain ⟨l, hl, h⟩ := mem_shown.mp h
  exact (chainOf_path D (id_mem hl)).2.2 j h
theorem chain_self (D : Desk ls bs) {i : Nat} (h : i ∈ all ls) : i ∈ chainOf ls i := (chainOf_path D h).1.mem
theorem shown_here (D : Desk ls bs) {l : Letter} (h : l ∈ ls) : l.id ∈ shownOf ls := mem_shown.mpr ⟨l, h, chain_self D (id_mem h)⟩
theorem shown_chain (D : Desk ls bs) {i j : Nat} (h : i ∈ shownOf ls) (hj : j ∈ chainOf ls i) : j ∈ shownOf ls := by
  obtain ⟨l, hl, h⟩ := mem_shown.mp h
  obtain ⟨A, e⟩ := chain_trans D (id_mem hl) h
  exact mem_shown.mpr ⟨l, hl, by rw [e]; exact List.mem_append_right _ hj⟩

/-! ### times -/

/-! ### in their order -/

/-! ### answers to one -/

/-! ### a thread told -/

/-! ### the first of a thread -/
theorem root_last (D : Desk ls bs) {i : Nat} (h : i ∈ all ls) : (chainOf ls i).getLast? = some (root ls i) := by
  unfold root
  have hne := (chainOf_path D h).1.ne
  cases q : (chainOf ls i).getLast? with
  | none => exact absurd (List.getLast?_eq_none_iff.mp q) hne
  | some r => rfl
theorem root_shown (D : Desk ls bs) {i : Nat} (h : i ∈ shownOf ls) : root ls i ∈ shownOf ls :=
  shown_chain D h (List.mem_of_getLast? (root_last D (shown_all D h)))
end
end TM
set_option Elab.async false
namespace TM
open Ks322 (Letter once find earlier first before named claim said up all ring ahead cut answers table look chain chainOf shownOf shown root okLetters okLetter here)
open Ks323Neutral (letters lettersOk)

/-! ### letters out of numbers -/
theorem letters_fuel : ∀ (n m : Nat) (l : List Nat), l.length < n → l.length < m → letters n l = letters m l
  | 0, _, l, h, _ => by omega
  | _, 0, l, _, h => by omega
  | n + 1, m + 1, [], _, _ => rfl
  | n + 1, m + 1, [_], _, _ => rfl
  | n + 1, m + 1, [_, _], _, _ => rfl
  | n + 1, m + 1, i :: t :: k :: r, h1, h2 => by
    show (⟨i, t, r.take k⟩ : Letter) :: letters n (r.drop k) = ⟨i, t, r.take k⟩ :: letters m (r.drop k)
    simp only [List.length_cons] at h1 h2
    rw [letters_fuel n m (r.drop k) (by rw [List.length_drop]; omega) (by rw [List.length_drop]; omega)]
theorem lettersOk_fuel : ∀ (n m : Nat) (l : List Nat), l.length < n → l.length < m → lettersOk n l = lettersOk m l
  | 0, _, l, h, _ => by omega
  | _, 0, l, _, h => by omega
  | n + 1, m + 1, [], _, _ => rfl
  | n + 1, m + 1, [_], _, _ => rfl
  | n + 1, m + 1, [_, _], _, _ => rfl
  | n + 1, m + 1, i :: t :: k :: r, h1, h2 => by
    show (decide (k ≤ r.length) && lettersOk n (r.drop k)) = (decide (k ≤ r.length) && lettersOk m (r.drop k))
    simp only [List.length_cons] at h1 h2
    rw [lettersOk_fuel n m (r.drop k) (by rw [List.length_drop]; omega) (by rw [List.length_drop]; omega)]
def RD (l : List Nat) : List Letter := letters (l.length + 1) l
def OK (l : List Nat) : Bool := lettersOk (l.length + 1) l
theorem RD_nil : RD [] = [] := rfl
theorem RD_cons (i t k : Nat) (r : List Nat) : RD (i :: t :: k :: r) = ⟨i, t, r.take k⟩ :: RD (r.drop k) := by
  show (⟨i, t, r.take k⟩ : Letter) :: letters (r.length + 3) (r.drop k) = _
  unfold RD
  rw [letters_fuel (r.length + 3) ((r.drop k).length + 1) _ (by rw [List.length_drop]; omega) (by omega)]
theorem OK_cons (i t k : Nat) (r : List Nat) : OK (i :: t :: k :: r) = (decide (k ≤ r.length) && OK (r.drop k)) := by
  show (decide (k ≤ r.length) && lettersOk (r.length + 3) (r.drop k)) = _
  unfold OK
  rw [lettersOk_fuel (r.length + 3) ((r.drop k).length + 1) _ (by rw [List.length_drop]; omega) (by omega)]
/-- what stands at a place where letters begin -/
structure Turn (ns : List Nat) (p : Nat) (l : Letter) (e : Nat) : Prop where
  a0 : ns[p]? = some l.id
  a1 : ns[p + 1]? = some l.time
  a2 : ns[p + 2]? = some l.refs.length
  cutp : (ns.drop (p + 3)).take (e - (p + 3)) = l.refs
  e_eq : e = p + 3 + l.refs.length
  le : e ≤ ns.length
  rd : RD (ns.drop p) = l :: RD (ns.drop e)
  ok : OK (ns.drop e) = true
theorem turn_of {ns : List Nat} {p : Nat} (hp : p < ns.length) (ho : OK (ns.drop p) = true) : ∃ l e, Turn ns p l e := by
  have hl : (ns.drop p).length = ns.length - p := List.length_drop
  match q : ns.drop p, hl, ho with
  | [], hl, _ => simp at hl; omega
  | [_], _, ho => cases ho
  | [_, _], _, ho => cases ho
  | i :: t :: k :: r, hl, ho =>
    rw [OK_cons, Bool.and_eq_true, decide_eq_true_eq] at ho
    have g : ∀ j, ns[p + j]? = (i :: t :: k :: r)[j]? := fun j => by rw [← q, List.getElem?_drop]
    have d3 : ns.drop (p + 3) = r := by rw [← List.drop_drop, q]; rfl
    have hr : (r.take k).length = k := by rw [List.length_take]; omega
    simp only [List.length_cons] at hl
    have de : ns.drop (p + 3 + k) = r.drop k := by rw [← List.drop_drop, d3]
    refine ⟨⟨i, t, r.take k⟩, p + 3 + k, ?_, ?_, ?_, ?_, ?_, ?_, ?_, ?_⟩
    · exact g 0
    · exact g 1
    · show _ = some (r.take k).length
      rw [hr]; exact g 2
    · rw [d3]
      show r.take (p + 3 + k - (p + 3)) = r.take k
      rw [show p + 3 + k - (p + 3) = k by omega]
    · show _ = p + 3 + (r.take k).length
      rw [hr]
    · omega
    · rw [q, RD_cons, de]
    · rw [de]; exact ho.2

/-! ### what is due -/
theorem okLetters_iff {ls : List Letter} : okLetters ls = true ↔ ls.length ≤ 16 ∧ (∀ l ∈ ls, okLetter l = true) ∧ (ls.map Letter.id).Nodup := by
  unfold okLetters
  rw [Bool.and_eq_true, Bool.and_eq_true, decide_eq_true_eq, List.all_eq_true, beq_iff_eq]
  have h : (once (ls.map Letter.id)).length = ls.length ↔ (ls.map Letter.id).Nodup := by
    have := once_len_iff (l := ls.map Letter.id)
    rw [List.length_map] at this
    exact this
  rw [h]
  constructor
  · rintro ⟨⟨a, b⟩, c⟩; exact ⟨a, b, c⟩
  · rintro ⟨a, b, c⟩; exact ⟨⟨a, b⟩, c⟩
theorem okLetter_iff {l : Letter} : okLetter l = true ↔ (1 ≤ l.id ∧ l.id ≤ 65535) ∧ l.refs.length ≤ 4 ∧ ∀ r ∈ l.refs, 1 ≤ r ∧ r ≤ 65535 := by
  unfold okLetter Ks322.NUMBER Ks322.REFS
  simp only [Bool.and_eq_true, decide_eq_true_eq, List.all_eq_true]
  constructor
  · rintro ⟨⟨⟨a, b⟩, c⟩, d⟩; exact ⟨⟨a, b⟩, c, d⟩
  · rintro ⟨⟨a, b⟩, c, d⟩; exact ⟨⟨⟨a, b⟩, c⟩, d⟩
theorem all_len {ls : List Letter} (h : okLetters ls = true) : (all ls).length ≤ 80 := by
  obtain ⟨h1, h2, _⟩ := okLetters_iff.mp h
  have : ∀ (L : List Letter), (∀ l ∈ L, okLetter l = true) → (L.flatMap fun l => l.id :: l.refs).length ≤ 5 * L.length := by
    intro L
    induction L with
    | nil => intro _; simp
    | cons a L ih =>
      intro hL
      have h3 := ih fun l hl => hL l (List.mem_cons_of_mem _ hl)
      have h4 := (okLetter_iff.mp (hL a List.mem_cons_self)).2.1
      rw [List.flatMap_cons, List.length_append, List.length_cons, List.length_cons]
      omega
  have h3 := this ls h2
  have h4 := once_len (ls.flatMap fun l => l.id :: l.refs)
  show (once _).length ≤ 80
  omega
end TM
set_option Elab.async false
namespace TM
open Ks322 (Letter once find earlier first before named claim said up all ring ahead cut answers table look chain chainOf shownOf shown root okLetters okLetter here)
open Ks323 (View under timeOf viewOf timeIn beforeIt sorted answersTo tree insertRoot roots threads)
section
variable {ls bs : List Letter}
/-! ### each is told once -/

/-! ### firsts -/
theorem root_none (D : Desk ls bs) {i : Nat} (h : i ∈ all ls) : answers ls (root ls i) = none := by
  obtain ⟨ys, e⟩ := List.getLast?_eq_some_iff.mp (root_last D h)
  have hp := (chainOf_path D h).1
  rw [e] at hp
  exact hp.split.1.2
theorem root_of (D : Desk ls bs) {i r : Nat} (h : i ∈ all ls) (hr : r ∈ chainOf ls i) (hn : answers ls r = none) : root ls i = r := by
  obtain ⟨A, e⟩ := chain_trans D h hr
  rw [chainOf_none D ((chainOf_path D h).2.2 r hr) hn] at e
  have := root_last D h
  rw [e, List.getLast?_append] at this
  simp at this
  exact this.symm
theorem root_mem (D : Desk ls bs) {i : Nat} (h : i ∈ all ls) : root ls i ∈ chainOf ls i := List.mem_of_getLast? (root_last D h)
/-- the firsts of threads -/
theorem firsts_iff (D : Desk ls bs) {r : Nat} : (r ∈ shownOf ls ∧ answers ls r = none) ↔ ∃ l ∈ bs, r = root ls l.id := by
  constructor
  · rintro ⟨h1, h2⟩
    obtain ⟨l, hl, h⟩ := mem_shown.mp h1
    exact ⟨l, D.aged.mem.mpr hl, (root_of D (id_mem hl) h h2).symm⟩
  · rintro ⟨l, hl, rfl⟩
    have hl' := D.aged.mem.mp hl
    exact ⟨root_shown D (shown_here D hl'), root_none D (id_mem hl')⟩
/-- when the last letter of a thread was written -/
def lt (ls : List Letter) (r : Nat) : Nat := ((under ls (table ls) (all ls).length r).map Letter.time).foldl max 0
theorem foldl_max (l : List Nat) : ∀ (a : Nat), a ≤ l.foldl max a ∧ (∀ x ∈ l, x ≤ l.foldl max a) ∧ (l.foldl max a = a ∨ l.foldl max a ∈ l) := by
  induction l with
  | nil => intro a; simp
  | cons b l ih =>
    intro a
    obtain ⟨h1, h2, h3⟩ := ih (max a b)
    rw [List.foldl_cons]
    refine ⟨by omega, fun x hx => ?_, ?_⟩
    · rcases List.mem_cons.mp hx with rfl | hx
      · omega
      · exact h2 x hx
    · rcases h3 with h3 | h3
      · rw [h3]
        by_cases c : a ≤ b
        · right
          rw [Nat.max_eq_right c]
          exact List.mem_cons_self
        · left
          omega
      · right
        exact List.mem_cons_of_mem _ h3
theorem mem_under (D : Desk ls bs) {r : Nat} (hn : answers ls r = none) {l : Letter} : l ∈ under ls (table ls) (all ls).length r ↔ l ∈ bs ∧ root ls l.id = r := by
  unfold under
  rw [List.mem_filter, List.contains_iff_mem, ← D.aged.mem]
  constructor
  · rintro ⟨h1, h2⟩
    exact ⟨h1, root_of D (id_mem (D.aged.mem.mp h1)) h2 hn⟩
  · rintro ⟨h1, rfl⟩
    exact ⟨h1, root_mem D (id_mem (D.aged.mem.mp h1))⟩
/-- the last one by age writes the latest time -/
theorem lt_last (D : Desk ls bs) {A B : List Letter} {l : Letter} (e : bs = A ++ l :: B) (hB : ∀ b ∈ B, root ls b.id ≠ root ls l.id) : lt ls (root ls l.id) = l.time := by
  have hl : l ∈ bs := by rw [e]; simp
  have hn := root_none D (id_mem (D.aged.mem.mp hl))
  obtain ⟨h1, h2, h3⟩ := foldl_max ((under ls (table ls) (all ls).length (root ls l.id)).map Letter.time) 0
  have hm : l.time ∈ (under ls (table ls) (all ls).length (root ls l.id)).map Letter.time := List.mem_map.mpr ⟨l, (mem_under D hn).mpr ⟨hl, rfl⟩, rfl⟩
  have g1 := h2 _ hm
  have g2 : ∀ x ∈ (under ls (table ls) (all ls).length (root ls l.id)).map Letter.time, x ≤ l.time := fun x hx => by
    obtain ⟨b, hb, rfl⟩ := List.mem_map.mp hx
    obtain ⟨hb1, hb2⟩ := (mem_under D hn).mp hb
    have ho := D.aged.ord
    rw [e] at hb1 ho
    obtain ⟨_, o2, o3⟩ := List.pairwise_append.mp ho
    rcases List.mem_append.mp hb1 with z | z
    · have := o3 b z l List.mem_cons_self
      rw [earlier_iff] at this
      omega
    · rcases List.mem_cons.mp z with z | z
      · rw [z]; exact Nat.le_refl _
      · exact absurd hb2 (hB b z)
  show ((under ls (table ls) (all ls).length (root ls l.id)).map Letter.time).foldl max 0 = l.time
  rcases h3 with h3 | h3
  · omega
  · have := g2 _ h3
    omega
/-- greater time first, of like ones the lesser number -/
def Lr (t : Nat → Nat) (i j : Nat) : Prop := t j < t i ∨ (t i = t j ∧ i ≤ j)
theorem Lr.anti {t : Nat → Nat} {i j : Nat} (h : Lr t i j) (k : Lr t j i) : i = j := by
  unfold Lr at h k
  omega
theorem insR_perm (r : Nat × Nat) : ∀ (l : List (Nat × Nat)), (insertRoot r l).Perm (r :: l)
  | [] => .refl _
  | s :: l => by
    unfold insertRoot
    split
    · exact .refl _
    · exact ((insR_perm r l).cons s).trans (.swap r s l)
theorem insR_ord {r : Nat × Nat} : ∀ {l : List (Nat × Nat)}, l.Pairwise (fun a b => b.2 < a.2 ∨ (a.2 = b.2 ∧ a.1 ≤ b.1)) → (insertRoot r l).Pairwise (fun a b => b.2 < a.2 ∨ (a.2 = b.2 ∧ a.1 ≤ b.1))
  | [], _ => by simp [insertRoot]
  | s :: l, h => by
    obtain ⟨h1, h2⟩ := List.pairwise_cons.mp h
    unfold insertRoot
    split
    · rename_i hb
      refine List.pairwise_cons.mpr ⟨fun z hz => ?_, h⟩
      rcases List.mem_cons.mp hz with rfl | hz
      · omega
      · have := h1 z hz
        omega
    · rename_i hb
      refine List.pairwise_cons.mpr ⟨fun z hz => ?_, insR_ord h2⟩
      rcases List.mem_cons.mp ((insR_perm r l).mem_iff.mp hz) with rfl | hz
      · omega
      · exact h1 z hz
theorem insR_fold : ∀ (l acc : List (Nat × Nat)), acc.Pairwise (fun a b => b.2 < a.2 ∨ (a.2 = b.2 ∧ a.1 ≤ b.1)) → (l.foldl (fun s r => insertRoot r s) acc).Perm (l ++ acc) ∧ (l.foldl (fun s r => insertRoot r s) acc).Pairwise (fun a b => b.2 < a.2 ∨ (a.2 = b.2 ∧ a.1 ≤ b.1))
  | [], acc, h => ⟨.refl _, h⟩
  | r :: l, acc, h => by
    rw [List.foldl_cons]
    obtain ⟨h1, h2⟩ := insR_fold l (insertRoot r acc) (insR_ord h)
    exact ⟨h1.trans (((insR_perm r acc).append_left l).trans List.perm_middle), h2⟩
theorem roots_eq (D : Desk ls bs) : roots ls = ((shownOf ls).filter fun i => decide (answers ls i = none)).map fun i => (i, lt ls i) := by
  show ((shownOf ls).filter fun i => (look (table ls) i).isNone).map (fun i => (i, lt ls i)) = _
  congr 1
  refine List.filter_congr fun j hj => ?_
  rw [look_table (shown_all D hj)]
  cases answers ls j <;> simp
/-- whatever list of the firsts stands in this order is the one -/
theorem threads_is (D : Desk ls bs) {ks L : List Nat} (hk : ks.Nodup) (hm : ∀ r, r ∈ ks ↔ ∃ l ∈ bs, r = root ls l.id) (hp : L.Perm ks) (ho : L.Pairwise (Lr (lt ls))) : L = threads ls := by
  obtain ⟨h1, h2⟩ := insR_fold (roots ls) [] .nil
  rw [List.append_nil] at h1
  have e : threads ls = ((roots ls).foldl (fun s r => insertRoot r s) []).map Prod.fst := rfl
  have hr := roots_eq D
  have p1 : (threads ls).Perm ((shownOf ls).filter fun i => decide (answers ls i = none)) := by
    rw [e]
    refine (h1.map Prod.fst).trans ?_
    rw [hr, List.map_map]
    have : (Prod.fst ∘ fun i => (i, lt ls i)) = (id : Nat → Nat) := rfl
    rw [this, List.map_id]
  have tv : ∀ p ∈ (roots ls).foldl (fun s r => insertRoot r s) [], p.2 = lt ls p.1 := fun p hp => by
    have := h1.mem_iff.mp hp
    rw [hr] at this
    obtain ⟨i, _, rfl⟩ := List.mem_map.mp this
    rfl
  have o1 : (threads ls).Pairwise (Lr (lt ls)) := by
    rw [e, List.pairwise_map]
    refine h2.imp_of_mem fun {a b} ha hb h => ?_
    rw [tv a ha, tv b hb] at h
    exact h
  refine List.Perm.eq_of_pairwise (le := Lr (lt ls)) (fun a b _ _ h k => h.anti k) ho o1 (hp.trans (List.Perm.trans ?_ p1.symm))
  refine (List.perm_ext_iff_of_nodup hk (shown_nd.sublist List.filter_sublist)).mpr fun r => ?_
  rw [hm, ← firsts_iff D, List.mem_filter, decide_eq_true_eq]
end
end TM
set_option Elab.async false
set_option linter.all false
set_option maxRecDepth 100000
set_option maxHeartbeats 2000000
/-! ### the text by places -/
namespace TH
open PySem PySem.Spec PyProof.Rows L2
def top (i : Nat) : Stmt := PySem.Challenge.pw_letterthreadsdesk_s02_threads.main.body.getD i (.Pass ⟨0, 0, 0, 0⟩)
abbrev sInit : Stmt := inClass (top 6) 0
abbrev sRead : Stmt := top 7
abbrev sIsNum : Stmt := top 8
abbrev sIsLet : Stmt := top 9
abbrev sAre : Stmt := top 10
abbrev sEarly : Stmt := top 11
abbrev sTold : Stmt := top 12
abbrev sLack : Stmt := top 13
abbrev sSaid : Stmt := top 14
abbrev sRing : Stmt := top 15
abbrev sFirst : Stmt := top 16
abbrev sCut : Stmt := top 17
abbrev sAmong : Stmt := top 18
abbrev sChain : Stmt := top 19
abbrev sRoot : Stmt := top 20
abbrev sLatest : Stmt := top 21
abbrev sThreads : Stmt := top 22
end TH
set_option Elab.async false
set_option linter.all false
set_option maxRecDepth 100000
set_option maxHeartbeats 2000000
/-! ### the data -/
namespace TH
open PySem PySem.Spec PyProof.Rows L2 TM
open Ks322 (Letter once find earlier first before named claim said up all ring ahead cut answers table look chain chainOf shownOf shown root okLetters okLetter here)
abbrev iv (n : Nat) : V := .int (n : Int)
def ivs (l : List Nat) : List V := l.map iv
def oV : Option Nat → V
  | none => .non
  | some n => iv n
theorem ivs_get {l : List Nat} {i : Nat} {x : V} (h : (ivs l)[i]? = some x) : ∃ n, l[i]? = some n ∧ x = iv n := by
  unfold ivs at h
  rw [List.getElem?_map] at h
  cases e : l[i]? with
  | none => rw [e] at h; cases h
  | some n => rw [e] at h; exact ⟨n, rfl, (Option.some.inj h).symm⟩
theorem ivs_at {l : List Nat} {i n : Nat} (h : l[i]? = some n) : (ivs l)[i]? = some (iv n) := by
  unfold ivs
  rw [List.getElem?_map, h]
  rfl
theorem ivs_len (l : List Nat) : (ivs l).length = l.length := List.length_map ..
theorem ivs_app (l m : List Nat) : ivs (l ++ m) = ivs l ++ ivs m := List.map_append ..
theorem ivs_flat (l : List Nat) : (ivs l).all flatV = true := by
  induction l with
  | nil => rfl
  | cons a l ih => exact ih
theorem inV_ivs (i : Nat) (l : List Nat) : inV (iv i) (ivs l) = decide (i ∈ l) := by
  induction l with
  | nil => rfl
  | cons a l ih =>
    show (eqV (iv a) (iv i) || inV (iv i) (ivs l)) = _
    rw [ih]
    have : eqV (iv a) (iv i) = decide (a = i) := by
      show ((a : Int) == (i : Int)) = _
      rw [Bool.eq_iff_iff, beq_iff_eq, decide_eq_true_eq]
      omega
    rw [this, Bool.eq_iff_iff, Bool.or_eq_true, decide_eq_true_eq, decide_eq_true_eq, decide_eq_true_eq, List.mem_cons]
    constructor
    · rintro (z | z)
      · exact .inl z.symm
      · exact .inr z
    · rintro (z | z)
      · exact .inl z.symm
      · exact .inr z
/-- the attributes of a letter -/
def lf (i t : Nat) (n o : Addr) : List (Str × V) := putF "others" (.ref o) (putF "named" (.ref n) (putF "written" (iv t) (putF "number" (iv i) [])))
section
variable {i t : Nat} {n o : Addr}
theorem lf_number : (lf i t n o).lookup ("number" : Str) = some (iv i) := by
  unfold lf
  rw [lookup_putF, if_neg (by decide +kernel), lookup_putF, if_neg (by decide +kernel), lookup_putF, if_neg (by decide +kernel), lookup_putF, if_pos rfl]
theorem lf_written : (lf i t n o).lookup ("written" : Str) = some (iv t) := by
  unfold lf
  rw [lookup_putF, if_neg (by decide +kernel), lookup_putF, if_neg (by decide +kernel), lookup_putF, if_pos rfl]
theorem lf_named : (lf i t n o).lookup ("named" : Str) = some (.ref n) := by
  unfold lf
  rw [lookup_putF, if_neg (by decide +kernel), lookup_putF, if_pos rfl]
theorem lf_others : (lf i t n o).lookup ("others" : Str) = some (.ref o) := by
  unfold lf
  rw [lookup_putF, if_pos rfl]
end
/-- the letter l stands at a -/
def LetAt (C : Addr) (H : Hp) (a : Addr) (l : Letter) : Prop := ∃ dx n o, H a = some (.ins C dx (lf l.id l.time n o)) ∧ H n = some (.lst (ivs l.refs)) ∧ H o = some (.lst (ivs (named l)))
def LV (C : Addr) (H : Hp) (l : Letter) (v : V) : Prop := ∃ a, v = .ref a ∧ LetAt C H a l
/-- the list at p holds the letters ls -/
structure LetsAt (C : Addr) (H : Hp) (p : Addr) (vs : List V) (ls : List Letter) : Prop where
  lst : H p = some (.lst vs)
  all : Paired (LV C H) ls vs
section
variable {C p a : Addr} {H H' : Hp} {L : List TabE} {vs : List V} {ls : List Letter} {l : Letter}
theorem LetAt.gr (h : LetAt C H a l) (g : Gr L H H') : LetAt C H' a l := by
  obtain ⟨dx, n, o, h1, h2, h3⟩ := h
  exact ⟨dx, n, o, g.ins h1, g.lst h2, g.lst h3⟩
theorem LetAt.same (h : LetAt C H a l) (g : Same H H') : LetAt C H' a l := h.gr (L := []) g.gr
theorem LetsAt.gr (h : LetsAt C H p vs ls) (g : Gr L H H') : LetsAt C H' p vs ls := ⟨g.lst h.lst, Paired.mapP h.all fun l v ⟨a, e, q⟩ => ⟨a, e, q.gr g⟩⟩
theorem LetsAt.same (h : LetsAt C H p vs ls) (g : Same H H') : LetsAt C H' p vs ls := h.gr (L := []) g.gr
theorem LetsAt.len (h : LetsAt C H p vs ls) : ls.length = vs.length := Paired.length h.all
theorem LetsAt.get (h : LetsAt C H p vs ls) {i : Nat} {x : V} (e : vs[i]? = some x) : ∃ a l, x = .ref a ∧ ls[i]? = some l ∧ LetAt C H a l := by
  obtain ⟨l, hl, a, ea, q⟩ := Paired.at2 h.all e
  exact ⟨a, l, ea, hl, q⟩
end
/-- a new object elsewhere leaves all as it was -/
theorem same_new {H : Hp} {p : Addr} {o : HO} (h : H p = none) : Same H (upd H p o) := fun b u e => by
  rw [upd_ne (ne_of_none e h)]
  exact e
theorem same_put {H H' : Hp} {p : Addr} {o : HO} (s : Same H H') (h : H p = none) : Same H (upd H' p o) := fun b u e => by
  rw [upd_ne (ne_of_none e h)]
  exact s b u e
theorem same_refl (H : Hp) : Same H H := fun _ _ e => e
/-! ### dicts by number -/
def fD (ks : List Nat) (g : Nat → V) : List (Key × V) := ks.map fun (k : Nat) => (Sum.inl ((k : Nat) : Int), g k)
def addK (ks : List Nat) (i : Nat) : List Nat := if i ∈ ks then ks else ks ++ [i]
theorem fD_len (ks : List Nat) (g : Nat → V) : (fD ks g).length = ks.length := List.length_map ..
theorem fD_congr {ks : List Nat} {g g' : Nat → V} (h : ∀ k ∈ ks, g k = g' k) : fD ks g = fD ks g' := by
  unfold fD
  refine List.map_congr_left fun k hk => ?_
  rw [h k hk]
theorem fD_get {ks : List Nat} {g : Nat → V} {i : Nat} {k : Key} {v : V} (h : (fD ks g)[i]? = some (k, v)) : ∃ n, ks[i]? = some n ∧ k = Sum.inl (n : Int) ∧ v = g n := by
  unfold fD at h
  rw [List.getElem?_map] at h
  cases e : ks[i]? with
  | none => rw [e] at h; cases h
  | some n =>
    rw [e] at h
    have := Option.some.inj h
    exact ⟨n, rfl, (congrArg Prod.fst this).symm, (congrArg Prod.snd this).symm⟩
theorem inl_eq {a b : Nat} : (Sum.inl (a : Int) : Key) = Sum.inl (b : Int) ↔ a = b := by
  constructor
  · intro h
    have := Sum.inl.inj h
    omega
  · rintro rfl; rfl
theorem valV_fD (ks : List Nat) (g : Nat → V) (i : Nat) : valV (fD ks g) (Sum.inl (i : Int)) = if i ∈ ks then some (g i) else none := by
  induction ks with
  | nil => rfl
  | cons a ks ih =>
    show valV ((Sum.inl (a : Int), g a) :: fD ks g) _ = _
    by_cases e : a = i
    · subst e
      rw [valV_pos rfl, if_pos List.mem_cons_self]
    · rw [valV_neg fun z => e (inl_eq.mp z), ih]
      by_cases h : i ∈ ks
      · rw [if_pos h, if_pos (List.mem_cons_of_mem _ h)]
      · rw [if_neg h, if_neg fun z => (List.mem_cons.mp z).elim (fun q => e q.symm) h]
theorem fD_any (ks : List Nat) (g : Nat → V) (i : Nat) : ((fD ks g).any fun kv => decide (kv.1 = Sum.inl (i : Int))) = decide (i ∈ ks) := by
  rw [Bool.eq_iff_iff, List.any_eq_true, decide_eq_true_eq]
  constructor
  · rintro ⟨kv, h1, h2⟩
    obtain ⟨k, hk, rfl⟩ := List.mem_map.mp h1
    rw [decide_eq_true_eq] at h2
    rw [← inl_eq.mp h2]
    exact hk
  · intro h
    exact ⟨_, List.mem_map.mpr ⟨i, h, rfl⟩, by simp⟩
theorem putK_fD (ks : List Nat) (g : Nat → V) (i : Nat) (v : V) : putK (fD ks g) (Sum.inl (i : Int)) v = fD (addK ks i) fun (k : Nat) => if k = i then v else g k := by
  unfold putK addK
  rw [fD_any]
  by_cases h : i ∈ ks
  · rw [if_pos (by simpa using h), if_pos h]
    unfold fD
    rw [List.map_map]
    refine List.map_congr_left fun k _ => ?_
    show (if (Sum.inl (k : Int) : Key) = Sum.inl (i : Int) then ((Sum.inl (k : Int) : Key), v) else (Sum.inl (k : Int), g k)) = (Sum.inl (k : Int), if k = i then v else g k)
    by_cases e : k = i
    · rw [if_pos (inl_eq.mpr e), if_pos e]
    · rw [if_neg (fun z => e (inl_eq.mp z)), if_neg e]
  · rw [if_neg (by simpa using h), if_neg h]
    unfold fD
    rw [List.map_append, List.map_singleton]
    simp only [if_true]
    congr 1
    refine List.map_congr_left fun k hk => ?_
    rw [if_neg]
    rintro rfl
    exact h hk
theorem putK_new {ks : List Nat} {g : Nat → V} {i : Nat} : putK (fD ks g) (Sum.inl (i : Int)) (g i) = fD (addK ks i) g := by
  rw [putK_fD]
  refine fD_congr fun k _ => ?_
  by_cases e : k = i
  · rw [if_pos e, e]
  · rw [if_neg e]
theorem addK_mem {ks : List Nat} {i k : Nat} : k ∈ addK ks i ↔ k ∈ ks ∨ k = i := by
  unfold addK
  by_cases h : i ∈ ks
  · rw [if_pos h]
    constructor
    · exact .inl
    · rintro (z | rfl)
      · exact z
      · exact h
  · rw [if_neg h, List.mem_append, List.mem_singleton]
theorem addK_nd {ks : List Nat} {i : Nat} (h : ks.Nodup) : (addK ks i).Nodup := by
  unfold addK
  by_cases q : i ∈ ks
  · rw [if_pos q]; exact h
  · rw [if_neg q]
    exact List.nodup_append.mpr ⟨h, by simp, fun a ha b hb => by rw [List.mem_singleton.mp hb]; rintro rfl; exact q ha⟩
theorem dget {H : Hp} {d : Addr} {ks : List Nat} {g : Nat → V} {i : Nat} (h : Rd H d (.dK (fD ks g))) : DGet H d (iv i) (if i ∈ ks then some (g i) else none) := .inl ⟨_, Sum.inl (i : Int), h, rfl, (valV_fD ks g i).symm⟩
theorem dget1 {H : Hp} {d : Addr} {ks : List Nat} {g : Nat → V} {i : Nat} (h : Rd H d (.dK (fD ks g))) (hi : i ∈ ks) : DGet H d (iv i) (some (g i)) := by
  have := dget (i := i) h
  rw [if_pos hi] at this
  exact this
theorem dput {H : Hp} {d : Addr} {ks : List Nat} {g : Nat → V} {i : Nat} {v : V} (h : H d = some (.dK (fD ks g))) (hl : ks.length < sizeLine) : DPut H d (iv i) v (upd H d (.dK (fD (addK ks i) fun (k : Nat) => if k = i then v else g k))) :=
  .inl ⟨_, Sum.inl (i : Int), h, rfl, by rw [fD_len]; exact hl, by rw [putK_fD]⟩
theorem dput1 {H : Hp} {d : Addr} {ks : List Nat} {g : Nat → V} {i : Nat} (h : H d = some (.dK (fD ks g))) (hl : ks.length < sizeLine) : DPut H d (iv i) (g i) (upd H d (.dK (fD (addK ks i) g))) :=
  .inl ⟨_, Sum.inl (i : Int), h, rfl, by rw [fD_len]; exact hl, by rw [putK_new]⟩
theorem Rd.same {H H' : Hp} {a : Addr} {u : HO} (s : Same H H') (h : Rd H a u) : Rd H' a u := h.elim (fun q => .inl (s _ _ q)) fun ⟨o, q⟩ => .inr ⟨o, s _ _ q⟩
theorem small {n : Nat} (h : n ≤ 100000) : n < sizeLine := by
  rw [show sizeLine = 16777216 from sizeLine_eq]
  omega
theorem take_snoc {α : Type} {l : List α} {i : Nat} {x : α} (h : l[i]? = some x) : l.take (i + 1) = l.take i ++ [x] := by
  rw [List.take_add_one, h]
  rfl
theorem filter_snoc {α : Type} {p : α → Bool} {l : List α} {i : Nat} {x : α} (h : l[i]? = some x) : (l.take (i + 1)).filter p = (l.take i).filter p ++ (if p x = true then [x] else []) := by
  rw [take_snoc h, List.filter_append]
  congr 1
  by_cases q : p x = true
  · simp [q]
  · simp [q]
theorem drop_cons {α : Type} {l : List α} {i : Nat} {x : α} (h : l[i]? = some x) : l = l.take i ++ x :: l.drop (i + 1) := by
  have := List.getElem?_eq_some_iff.mp h
  obtain ⟨h1, h2⟩ := this
  rw [← h2, List.getElem_cons_drop, List.take_append_drop]
theorem iv_ne {a b : Nat} : (!decide (iv a = iv b)) = (a != b) := by
  rw [Bool.eq_iff_iff]
  simp [Int.ofNat_inj]
theorem iv_eq {a b : Nat} : decide (iv a = iv b) = decide (a = b) := by
  rw [Bool.eq_iff_iff]
  simp [Int.ofNat_inj]
theorem bAll : bootBuiltins "all" = some (.builtin "all") := by decide +kernel
theorem bSet : bootBuiltins "set" = some (.type "set") := by decide +kernel
theorem bMin : bootBuiltins "min" = some (.builtin "min") := by decide +kernel
theorem bSorted : bootBuiltins "sorted" = some (.builtin "sorted") := by decide +kernel
theorem yesL {σ : L2.St} {H : Hp} {F G : Hp → Prop} (h : F H) : tYes σ H (fun b H3 => if b = true then F H3 else G H3) := by
  show (if true = true then F H else G H)
  rw [if_pos rfl]
  exact h
theorem ivs_ints (l : List Nat) : ivs l = (l.map fun (n : Nat) => (n : Int)).map V.int := by
  unfold ivs
  rw [List.map_map]
  rfl
/-! ### the facts of the text -/
structure Txt (K : PySem.W.Frag) (mg : Str → Option Value) (C : Addr) : Prop where
  cl : Cls K C
  nN : NoAttr K C "number"
  nW : NoAttr K C "written"
  nM : NoAttr K C "named"
  nO : NoAttr K C "others"
  mgC : mg "Letter" = some (.ref C)
  most : ∃ t, mg "MOST_LETTERS" = some (.int 16 t)
  mostN : ∃ t, mg "MOST_NAMED" = some (.int 4 t)
  least : ∃ t, mg "LEAST_NUMBER" = some (.int 1 t)
  great : ∃ t, mg "GREATEST_NUMBER" = some (.int 65535 t)
  refused : ∃ t, mg "LETTERS_REFUSED" = some (.int (-22) t)
  len : mg "len" = none
  all : mg "all" = none
  set : mg "set" = none
  range : mg "range" = none
  min : mg "min" = none
  sorted : mg "sorted" = none
  reversed : mg "reversed" = none
end TH
set_option Elab.async false
set_option linter.all false
set_option maxRecDepth 100000
set_option maxHeartbeats 2000000
namespace TH
open PySem PySem.Spec PyProof.Rows L2 TM
open Ks322 (Letter once find earlier first before named claim said up all ring ahead cut answers table look chain chainOf shownOf shown root okLetters okLetter here)
/-- a def of the module -/
structure Dn (K : PySem.W.Frag) (mg : Str → Option Value) (x : Str) (st : Stmt) (ps : List Str) (f : Addr) (fd : FuncData) : Prop where
  F : Fun K x x st f fd
  b : Binds K fd ps []
  g : mg x = some (.ref f)
/-! ### promises -/
def spInit (C : Addr) : Sp := fun vs H Q _ => ∃ (p dx n : Addr) (i t : Nat) (rs : List Nat), vs = [.ref p, iv i, iv t, .ref n] ∧ H p = some (.ins C dx []) ∧ H n = some (.lst (ivs rs)) ∧ rs.length ≤ 1000 ∧
  ∀ (H' : Hp) (o : Addr), H o = none → H' p = some (.ins C dx (lf i t n o)) → H' o = some (.lst (ivs (rs.filter fun r => r != i))) → (∀ b u, H b = some u → b ≠ p → H' b = some u) → Q .non H'
def spIsNum : Sp := fun vs H Q _ => ∃ n : Nat, vs = [iv n] ∧ Q (.bl (decide (1 ≤ n) && decide (n ≤ 65535))) H
section
variable {P : Program} {w : World} {K : PySem.W.Frag} {mg : Str → Option Value} {base : Heap} {C : Addr}
theorem scNum : FnScope ["value"] ["value"] (defScope sIsNum) := ⟨rfl, rfl, rfl, by decide +kernel, rfl, by decide +kernel, by decide +kernel⟩
theorem ok_num {f : Addr} {fd : FuncData} (D : Dn K mg "is_number" sIsNum ["value"] f fd) (T : Txt K mg C) : FnOk P w K mg base CX0 1 f fd ["value"] spIsNum := by
  refine D.F.ok scNum (fun vs H Q E h => ?_) (fun cdv A outer s H vs Q E hr h => ?_)
  · obtain ⟨n, rfl, _⟩ := h
    rfl
  · obtain ⟨n, rfl, k⟩ := h
    obtain ⟨t1, h1⟩ := T.least
    obtain ⟨t2, h2⟩ := T.great
    refine ⟨_, pss_one (ps_ret (pe_chain op_le op_le (pe_glob (v := .int 1) rfl h1 ⟨t1, rfl⟩) (pv 0) (pe_glob (v := .int 65535) rfl h2 ⟨t2, rfl⟩))), ?_⟩
    refine ⟨_, rfl, _, _, rfl, rfl, _, rfl, ?_⟩
    have e1 : decide ((1 : Int) ≤ (n : Int)) = decide (1 ≤ n) := by rw [Bool.eq_iff_iff]; simp; omega
    have e2 : decide ((n : Int) ≤ (65535 : Int)) = decide (n ≤ 65535) := by rw [Bool.eq_iff_iff]; simp; omega
    rw [e1]
    by_cases q : 1 ≤ n
    · rw [decide_eq_true q]
      refine iteT ⟨_, _, rfl, rfl, ?_⟩
      show Q (.bl (decide ((n : Int) ≤ 65535))) H
      rw [e2]
      rw [decide_eq_true q, Bool.true_and] at k
      exact k
    · rw [decide_eq_false q]
      rw [decide_eq_false q, Bool.false_and] at k
      exact iteF k
theorem scInit : FnScope ["self", "number", "written", "named", "other"] ["self", "number", "written", "named"] (defScope sInit) := ⟨rfl, rfl, rfl, by decide +kernel, rfl, by decide +kernel, by decide +kernel⟩
theorem ok_init {f : Addr} {fd : FuncData} (F : Fun K "__init__" "Letter.__init__" sInit f fd) (T : Txt K mg C) : FnOk P w K mg base CX0 1 f fd ["self", "number", "written", "named"] (spInit C) := by
  refine F.ok scInit (fun vs H Q E h => ?_) (fun cdv A outer s H vs Q E hr h => ?_)
  · obtain ⟨p, dx, n, i, t, rs, rfl, _⟩ := h
    rfl
  · obtain ⟨p, dx, n, i, t, rs, rfl, hp, hn, hl, k⟩ := h
    refine ⟨_, pss_cons (ps_fld (pv 0) (pv 1) rfl) (pss_cons (ps_fld (pv 0) (pv 2) rfl) (pss_cons (ps_fld (pv 0) (pv 3) rfl) (pss_one (ps_fld (pv 0)
      (pe_lc (own := [("other", 4)]) rfl scInit.nd (pi_list (pv 3)) (blkOk_by rfl) (fun _ _ _ _ _ => pg_name (i := 4) scInit.nd rfl (Or.inl rfl)) (fun _ _ _ _ _ => pts_one (pt_cmpR op_ne (pv 4) (pv 1) (nomark _))) (fun _ _ _ _ _ => pv 4)) rfl)))), ?_⟩
    refine ⟨_, rfl, _, rfl, p, C, dx, [], rfl, hp, T.cl, T.nN, (by show 0 < 1000; decide), ?_⟩
    refine ⟨_, rfl, _, rfl, p, C, dx, _, rfl, upd_same, T.cl, T.nW, (by show 1 < 1000; decide), ?_⟩
    refine ⟨_, rfl, _, rfl, p, C, dx, _, rfl, upd_same, T.cl, T.nM, (by show 2 < 1000; decide), ?_⟩
    have np : n ≠ p := ne_of hn hp fun z => nomatch z
    refine ⟨_, rfl, n, rfl, ⟨_, SqL.of (xs := ivs rs) (by rw [upd_ne np, upd_ne np, upd_ne np]; exact hn)⟩, fun o ho => ?_⟩
    have hp1 : ∀ {X : Hp} {u : HO}, upd (upd (upd H p (.ins C dx (putF "number" (iv i) []))) p (.ins C dx (putF "written" (iv t) (putF "number" (iv i) [])))) p u p = some u := fun {X u} => upd_same
    generalize eH : upd (upd (upd H p (.ins C dx (putF "number" (iv i) []))) p (.ins C dx (putF "written" (iv t) (putF "number" (iv i) [])))) p (.ins C dx (putF "named" (.ref n) (putF "written" (iv t) (putF "number" (iv i) [])))) = H1 at ho ⊢
    have h1p : H1 p = some (.ins C dx (putF "named" (.ref n) (putF "written" (iv t) (putF "number" (iv i) [])))) := by rw [← eH]; exact upd_same
    have h1k : ∀ b u, H b = some u → b ≠ p → H1 b = some u := fun b u e hb => by rw [← eH, upd_ne hb, upd_ne hb, upd_ne hb]; exact e
    refine lc_list (K := K) (a := n) (xs := ivs rs) (fun j H' => H' o = some (.lst (ivs ((rs.take j).filter fun r => r != i))) ∧ Same H1 H') ⟨upd_same, same_new ho⟩ (fun j H' _ q => SqL.of (q.2 _ _ (h1k _ _ hn np))) ?_ ?_
    · rintro j x H' hj ⟨q1, q2⟩
      obtain ⟨r, hr', rfl⟩ := ivs_get hj
      refine ⟨rfl, ?_⟩
      refine ⟨_, rfl, _, rfl, rfl, _, rfl, ?_⟩
      rw [iv_ne]
      refine ite2 (fun q => ⟨_, rfl, _, q1, ?_, ?_, ?_⟩) fun q => ⟨?_, q2⟩
      · rw [ivs_len]
        exact small (Nat.le_trans (List.length_filter_le _ _) (Nat.le_trans (List.length_take_le' ..) (by omega)))
      · rw [upd_same, filter_snoc hr', if_pos q, ivs_app]
        rfl
      · exact fun b u e => by rw [upd_ne (ne_of_none e ho)]; exact q2 b u e
      · rw [filter_snoc hr', if_neg q, List.append_nil]
        exact q1
    · rintro H' ⟨q1, q2⟩
      rw [ivs_len, List.take_length] at q1
      refine ⟨_, rfl, p, C, dx, _, rfl, q2 _ _ h1p, T.cl, T.nO, (by show 3 < 1000; decide), ?_⟩
      have po : o ≠ p := fun z => by rw [z, h1p] at ho; cases ho
      exact k _ o (by rw [← eH, upd_ne po, upd_ne po, upd_ne po] at ho; exact ho) upd_same (by rw [upd_ne po]; exact q1) fun b u e hb => by rw [upd_ne hb]; exact q2 _ _ (h1k b u e hb)
end
end TH
set_option Elab.async false
set_option linter.all false
set_option maxRecDepth 100000
set_option maxHeartbeats 2000000
namespace TH
open PySem PySem.Spec PyProof.Rows L2 TM
open Ks322 (Letter once find earlier first before named claim said up all ring ahead cut answers table look chain chainOf shownOf shown root okLetters okLetter here)
def spRead (K : PySem.W.Frag) (C : Addr) : Sp := fun vs H Q _ => ∃ (a : Addr) (ns : List Nat), vs = [.ref a] ∧ SqL K H a (ivs ns) ∧ TM.OK ns = true ∧ ns.length ≤ 1000 ∧
  ∀ (H' : Hp) (p : Addr) (us : List V), Same H H' → LetsAt C H' p us (RD ns) → Q (.ref p) H'
def spIsLet (C : Addr) : Sp := fun vs H Q _ => ∃ (a : Addr) (l : Letter), vs = [.ref a] ∧ LetAt C H a l ∧ l.refs.length ≤ 1000 ∧ ∀ H' : Hp, Same H H' → Q (.bl (okLetter l)) H'
def spAre (C : Addr) : Sp := fun vs H Q _ => ∃ (a : Addr) (us : List V) (ls : List Letter), vs = [.ref a] ∧ LetsAt C H a us ls ∧ ls.length ≤ 1000 ∧ (∀ l ∈ ls, l.refs.length ≤ 1000) ∧ ∀ H' : Hp, Same H H' → Q (.bl (okLetters ls)) H'
section
variable {P : Program} {w : World} {K : PySem.W.Frag} {mg : Str → Option Value} {base : Heap} {C : Addr}
theorem ivs_ne_us {H : Hp} {l : Letter} {ls : List Letter} {us : List V} (h : Paired (LV C H) ls us) (hl : l ∈ ls) (r : List Nat) : ivs r ≠ us := by
  cases h with
  | nil => cases hl
  | cons q t =>
    obtain ⟨a, rfl, _⟩ := q
    cases r with
    | nil => intro z; cases z
    | cons b r => intro z; cases z
theorem LetsAt.push {H : Hp} {p z dz n o : Addr} {us : List V} {ls : List Letter} {l : Letter} (h : LetsAt C H p us ls) (c1 : H z = some (.ins C dz (lf l.id l.time n o))) (cn : H n = some (.lst (ivs l.refs))) (co : H o = some (.lst (ivs (named l))))
    (hz : z ≠ p) (hn : n ≠ p) (ho : o ≠ p) : LetsAt C (upd H p (.lst (us ++ [.ref z]))) p (us ++ [.ref z]) (ls ++ [l]) := by
  refine ⟨upd_same, ?_⟩
  have new : LV C (upd H p (.lst (us ++ [.ref z]))) l (.ref z) := ⟨z, rfl, dz, n, o, by rw [upd_ne hz]; exact c1, by rw [upd_ne hn]; exact cn, by rw [upd_ne ho]; exact co⟩
  have old : ∀ l' v', l' ∈ ls → LV C H l' v' → LV C (upd H p (.lst (us ++ [.ref z]))) l' v' := fun l' v' hl ⟨a, ea, dx, n', o', h1, h2, h3⟩ => by
    have w1 : a ≠ p := ne_of h1 h.lst fun q => nomatch q
    have w2 : n' ≠ p := ne_of h2 h.lst fun q => ivs_ne_us h.all hl _ (HO.lst.inj q)
    have w3 : o' ≠ p := ne_of h3 h.lst fun q => ivs_ne_us h.all hl _ (HO.lst.inj q)
    exact ⟨a, ea, dx, n', o', by rw [upd_ne w1]; exact h1, by rw [upd_ne w2]; exact h2, by rw [upd_ne w3]; exact h3⟩
  have all : ∀ (A : List Letter) (B : List V), (∀ l ∈ A, l ∈ ls) → Paired (LV C H) A B → Paired (LV C (upd H p (.lst (us ++ [.ref z])))) (A ++ [l]) (B ++ [.ref z]) := by
    intro A B hs hP
    induction hP with
    | nil => exact .cons new .nil
    | cons q t ih => exact .cons (old _ _ (hs _ List.mem_cons_self) q) (ih fun l hl => hs l (List.mem_cons_of_mem _ hl))
  exact all ls us (fun _ z => z) h.all
theorem cut_ivs {ns : List Nat} {i j : Nat} (hi : i ≤ ns.length) (hj : j ≤ ns.length) : cutV (ivs ns) (some (i : Int)) (some (j : Int)) = ivs ((ns.drop i).take (j - i)) := by
  unfold cutV
  rw [HT.sIx_nat, HT.sIx_nat, ivs_len, Nat.min_eq_left hi, Nat.min_eq_left hj]
  unfold ivs
  rw [List.map_take, List.map_drop]
theorem scRead : FnScope ["letters", "read", "place", "start", "end"] ["letters"] (defScope sRead) := ⟨rfl, rfl, rfl, by decide +kernel, rfl, by decide +kernel, by decide +kernel⟩
theorem ok_read {f fI : Addr} {fd fdI : FuncData} (D : Dn K mg "read_letters" sRead ["letters"] f fd) (T : Txt K mg C) (M : Mk K C fI) (bI : Binds K fdI ["self", "number", "written", "named"] []) (GI : FnOk P w K mg base CX0 1 fI fdI ["self", "number", "written", "named"] (spInit C)) :
    FnOk P w K mg base CX0 3 f fd ["letters"] (spRead K C) := by
  refine D.F.ok scRead (fun vs H Q E h => ?_) (fun cdv A outer s H vs Q E hr h => ?_)
  · obtain ⟨a, ns, rfl, _⟩ := h
    rfl
  · obtain ⟨a, ns, rfl, ha, hok, hlen, k⟩ := h
    refine ⟨_, pss_cons (ps_set (i := 1) scRead.nd rfl (Or.inl rfl) (pe_lst pa_nil))
      (pss_cons (ps_set (i := 2) scRead.nd rfl (Or.inl rfl) pe_int)
      (pss_cons (ps_while PassesOwn.never (pt_cmpR op_lt (pv 2) (pe_callB call_len_seq (by rfl) T.len PySem.boot_len (pa_cons (pv 0) pa_nil)) (nomark _))
        (pss_cons (ps_set (i := 3) scRead.nd rfl (Or.inl rfl) (pe_op op_add (pv 2) pe_int))
        (pss_cons (ps_set (i := 4) scRead.nd rfl (Or.inl rfl) (pe_op op_add (pv 3) (pe_ix ix_list (pv 0) (pe_op op_add (pv 2) pe_int) (fun _ _ => rfl))))
        (pss_cons (ps_expr (pe_bm PySem.F.plainAttrs_list PySem.F.slot_list_append PySem.F.type_list_append mt_append (pv 1)
          (pa_cons (pe_make M GI hr rfl T.mgC bI .nil pass0 (pa_cons (pe_ix ix_list (pv 0) (pv 2) (fun _ _ => rfl)) (pa_cons (pe_ix ix_list (pv 0) (pe_op op_add (pv 2) pe_int) (fun _ _ => rfl)) (pa_cons (pe_slice sl_list (pv 0) (po_some (pv 3)) (po_some (pv 4))) pa_nil)))) pa_nil)))
        (pss_one (ps_set (i := 2) scRead.nd rfl (Or.inl rfl) (pv 4)))))))
      (pss_one (ps_ret (pv 1))))), ?_⟩
    refine ⟨Nat.zero_le _, fun p hp => ?_⟩
    refine ⟨fun m σ H' => ∃ (x : Nat) (v3 v4 : Option V) (us : List V) (ls : List Letter), m = ns.length - x ∧ σ = [some (.ref a), some (.ref p), some (iv x), v3, v4] ∧ Same H H' ∧ LetsAt C H' p us ls ∧ x ≤ ns.length ∧ TM.OK (ns.drop x) = true ∧ RD ns = ls ++ RD (ns.drop x) ∧ ls.length ≤ x,
      ⟨_, 0, none, none, [], [], rfl, rfl, same_new hp, ⟨upd_same, .nil⟩, Nat.zero_le _, hok, rfl, Nat.le_refl _⟩, ?_⟩
    rintro m σ H' ⟨x, v3, v4, us, ls, rfl, rfl, s1, hL, hx, hokx, hrd, hll⟩
    refine ⟨_, rfl, _, rfl, a, _, rfl, .inl (s1.seq ha), _, _, rfl, rfl, _, rfl, ?_⟩
    rw [ivs_len]
    refine ite2 (fun q => ?_) fun q => ?_
    · have hx' : x < ns.length := by simpa using q
      obtain ⟨l, e, t⟩ := turn_of hx' hokx
      refine ⟨fun σ' H'' => ∃ m', m' < ns.length - x ∧ ∃ (x : Nat) (v3 v4 : Option V) (us : List V) (ls : List Letter), m' = ns.length - x ∧ σ' = [some (.ref a), some (.ref p), some (iv x), v3, v4] ∧ Same H H'' ∧ LetsAt C H'' p us ls ∧ x ≤ ns.length ∧ TM.OK (ns.drop x) = true ∧ RD ns = ls ++ RD (ns.drop x) ∧ ls.length ≤ x, fun _ _ h => h, ?_⟩
      have eq := t.e_eq
      have le := t.le
      have ha' := s1.seq ha
      refine ⟨_, rfl, _, _, rfl, rfl, ?_⟩
      refine ⟨_, rfl, _, rfl, _, rfl, _, _, rfl, rfl, a, _, _, iv l.refs.length, rfl, rfl, ha', at_of (j := x + 2) (by simp) (ivs_at t.a2), _, _, rfl, rfl, ?_⟩
      have e3 : ((x : Int) + 3) = ((x + 3 : Nat) : Int) := by omega
      have e4 : (((x + 3 : Nat) : Int) + (l.refs.length : Int)) = ((e : Nat) : Int) := by omega
      refine ⟨_, rfl, .inl ⟨rfl, _, SqL.of hL.lst⟩, ?_⟩
      refine ⟨_, rfl, _, rfl, a, _, _, _, rfl, rfl, ha', at_of (j := x) rfl (ivs_at t.a0), ?_⟩
      refine ⟨_, rfl, _, rfl, _, _, rfl, rfl, a, _, _, _, rfl, rfl, ha', at_of (j := x + 1) (by simp) (ivs_at t.a1), ?_⟩
      refine ⟨_, rfl, _, rfl, _, rfl, _, rfl, _, rfl, a, _, rfl, ha', fun n hn => ?_⟩
      show ∀ z dz, _
      rw [e3, e4, cut_ivs (by omega) le, t.cutp]
      intro z dz hz hdz hne
      have n1 : H' n = none := hn
      have nz : n ≠ z := fun q => by rw [← q, upd_same] at hz; cases hz
      have ndz : n ≠ dz := fun q => by rw [← q, upd_same] at hdz; cases hdz
      have hz' : H' z = none := by rw [upd_ne (Ne.symm nz)] at hz; exact hz
      have hdz' : H' dz = none := by rw [upd_ne (Ne.symm ndz)] at hdz; exact hdz
      refine ⟨z, dz, n, l.id, l.time, l.refs, rfl, upd_same, by rw [upd_ne nz, upd_ne ndz, upd_same], by omega, fun H2 o c0 c1 c2 c3 => ⟨rfl, ?_⟩⟩
      have s2 : Same H' H2 := fun b u eb => c3 b u (by rw [upd_ne (ne_of_none eb hz'), upd_ne (ne_of_none eb hdz'), upd_ne (ne_of_none eb n1)]; exact eb) (ne_of_none eb hz')
      have hn2 : H2 n = some (.lst (ivs l.refs)) := c3 n _ (by rw [upd_ne nz, upd_ne ndz, upd_same]) nz
      refine ⟨p, us, _, rfl, rfl, s2 _ _ hL.lst, small (by have := hL.len; omega), ?_⟩
      refine ⟨_, rfl, ns.length - e, by omega, e, some (iv (x + 3)), some (iv e), us ++ [.ref z], ls ++ [l], rfl, ?_, ?_, ?_, le, t.ok, ?_, ?_⟩
      · show [some (V.ref a), some (V.ref p), some (V.int (((x + 3 : Nat) : Int) + (l.refs.length : Int))), some (V.int ((x : Int) + 3)), some (V.int (((x + 3 : Nat) : Int) + (l.refs.length : Int)))] = _
        rw [e3, e4]
      · exact fun b u eb => by rw [upd_ne (ne_of_none eb hp)]; exact s2 _ _ (s1 _ _ eb)
      · have hL2 := hL.same s2
        have kp : ∀ b u, H2 b = some u → b ≠ p → upd H2 p (.lst (us ++ [.ref z])) b = some u := fun b u eb hb => by rw [upd_ne hb]; exact eb
        have hz2 : z ≠ p := ne_of c1 hL2.lst fun q => nomatch q
        have pl := hL.lst
        have np : n ≠ p := fun q => by rw [q, pl] at n1; cases n1
        have op : o ≠ p := fun q => by
          have n3 : H' o = none := by
            by_cases w1 : o = z
            · rw [w1]; exact hz'
            · by_cases w2 : o = dz
              · rw [w2]; exact hdz'
              · by_cases w3 : o = n
                · rw [w3]; exact n1
                · rw [upd_ne w1, upd_ne w2, upd_ne w3] at c0; exact c0
          rw [q, pl] at n3; cases n3
        exact hL2.push c1 hn2 c2 hz2 np op
      · rw [hrd, t.rd, List.append_assoc]
        rfl
      · rw [List.length_append]
        simp only [List.length_cons, List.length_nil]
        omega
    · have hx' : x = ns.length := by
        have : ¬ x < ns.length := by simpa using q
        omega
      subst hx'
      rw [List.drop_length, RD_nil, List.append_nil] at hrd
      refine ⟨_, rfl, ?_⟩
      rw [hrd] at k
      exact k _ _ _ s1 hL
end
end TH
set_option Elab.async false
set_option linter.all false
set_option maxRecDepth 100000
set_option maxHeartbeats 2000000
namespace TH
open PySem PySem.Spec PyProof.Rows L2 TM
open Ks322 (Letter once find earlier first before named claim said up all ring ahead cut answers table look chain chainOf shownOf shown root okLetters okLetter here)
section
variable {P : Program} {w : World} {K : PySem.W.Frag} {mg : Str → Option Value} {base : Heap} {C : Addr}
theorem all_map {α : Type} (p : α → Bool) (l : List α) : (l.map p).all id = l.all p := by
  rw [List.all_map]
  rfl
theorem scIsLet : FnScope ["letter", "other"] ["letter"] (defScope sIsLet) := ⟨rfl, rfl, rfl, by decide +kernel, rfl, by decide +kernel, by decide +kernel⟩
theorem ok_isLet {f fN : Addr} {fd fdN : FuncData} (D : Dn K mg "is_letter_allowed" sIsLet ["letter"] f fd) (T : Txt K mg C) (DN : Dn K mg "is_number" sIsNum ["value"] fN fdN) (GN : FnOk P w K mg base CX0 1 fN fdN ["value"] spIsNum) :
    FnOk P w K mg base CX0 2 f fd ["letter"] (spIsLet C) := by
  refine D.F.ok scIsLet (fun vs H Q E h => ?_) (fun cdv A outer s H vs Q E hr h => ?_)
  · obtain ⟨a, l, rfl, _⟩ := h
    rfl
  · obtain ⟨a, l, rfl, ⟨dx, n, o, h1, h2, h3⟩, hl, k⟩ := h
    obtain ⟨t1, g1⟩ := T.mostN
    refine ⟨_, pss_cons (ps_if (pt_cmpR op_gt (pe_callB call_len_seq (by rfl) T.len PySem.boot_len (pa_cons (pe_fld (pv 0) rfl) pa_nil)) (pe_glob (v := .int 4) rfl g1 ⟨t1, rfl⟩) (nomark _)) (pss_one (ps_ret pe_bl)) pss_nil)
      (pss_one (ps_ret (pe_and (pe_call GN hr rfl DN.g DN.F.kp DN.b .nil pass0 (pa_cons (pe_fld (pv 0) rfl) pa_nil))
        (pe_one (pe_callB (cr_all rfl) (by rfl) T.all bAll (pa_cons (pe_lc (own := [("other", 1)]) rfl scIsLet.nd (pi_list (pe_fld (pv 0) rfl)) (blkOk_by rfl) (fun _ _ _ _ _ => pg_name (i := 1) scIsLet.nd rfl (Or.inl rfl)) (fun _ _ _ _ _ => pts_nil)
          (fun _ _ _ _ _ => pe_call GN hr rfl DN.g DN.F.kp DN.b .nil pass0 (pa_cons (pv 1) pa_nil))) pa_nil)))))), ?_⟩
    refine ⟨_, rfl, a, C, dx, _, _, rfl, h1, T.cl, T.nM, lf_named, n, _, rfl, .inl (SqL.of h2), _, _, rfl, rfl, _, rfl, ?_⟩
    rw [ivs_len]
    refine ite2 (fun q => ?_) fun q => ?_
    · have q' : ¬ l.refs.length ≤ 4 := by simp at q; omega
      refine (?_ : Q (.bl false) H)
      have e : okLetter l = false := by
        rw [Bool.eq_false_iff]
        intro z
        exact q' (okLetter_iff.mp z).2.1
      rw [← e]
      exact k H (same_refl H)
    · have q' : l.refs.length ≤ 4 := by simp at q; omega
      refine ⟨_, rfl, a, C, dx, _, _, rfl, h1, T.cl, T.nN, lf_number, l.id, rfl, _, rfl, ?_⟩
      have ek : okLetter l = ((decide (1 ≤ l.id) && decide (l.id ≤ 65535)) && l.refs.all fun r => decide (1 ≤ r) && decide (r ≤ 65535)) := by
        show (decide (1 ≤ l.id) && decide (l.id ≤ 65535) && decide (l.refs.length ≤ 4) && _) = _
        rw [decide_eq_true q', Bool.and_true]
        rfl
      refine ite2 (fun c => ?_) fun c => ?_
      · refine ⟨_, rfl, a, C, dx, _, _, rfl, h1, T.cl, T.nM, lf_named, n, rfl, ⟨_, SqL.of h2⟩, fun d hd => ?_⟩
        refine lc_list (K := K) (a := n) (xs := ivs l.refs) (fun j H' => H' d = some (.lst (((l.refs.take j).map fun r => decide (1 ≤ r) && decide (r ≤ 65535)).map V.bl)) ∧ Same H H') ⟨upd_same, same_new hd⟩ (fun j H' _ q => SqL.of (q.2 _ _ h2)) ?_ ?_
        · rintro j x H' hj ⟨q1, q2⟩
          obtain ⟨r, hr', rfl⟩ := ivs_get hj
          refine ⟨rfl, ?_⟩
          refine yesL ⟨_, rfl, r, rfl, _, q1, ?_, ?_, ?_⟩
          · rw [List.length_map, List.length_map]
            exact small (Nat.le_trans (List.length_take_le' ..) (by omega))
          · rw [upd_same, take_snoc hr', List.map_append, List.map_append]
            rfl
          · exact fun b u e => by rw [upd_ne (ne_of_none e hd)]; exact q2 b u e
        · rintro H' ⟨q1, q2⟩
          rw [ivs_len, List.take_length] at q1
          refine ⟨d, _, rfl, SqL.of q1, ?_⟩
          rw [all_map]
          rw [c, Bool.true_and] at ek
          rw [← ek]
          exact k H' q2
      · rw [Bool.not_eq_true] at c
        rw [c, Bool.false_and] at ek
        rw [← ek]
        exact k H (same_refl H)
theorem scAre : FnScope ["read", "numbers", "letter"] ["read"] (defScope sAre) := ⟨rfl, rfl, rfl, by decide +kernel, rfl, by decide +kernel, by decide +kernel⟩
theorem ok_are {f fN : Addr} {fd fdN : FuncData} (D : Dn K mg "are_letters_allowed" sAre ["read"] f fd) (T : Txt K mg C) (DN : Dn K mg "is_letter_allowed" sIsLet ["letter"] fN fdN) (GN : FnOk P w K mg base CX0 2 fN fdN ["letter"] (spIsLet C)) :
    FnOk P w K mg base CX0 3 f fd ["read"] (spAre C) := by
  refine D.F.ok scAre (fun vs H Q E h => ?_) (fun cdv A outer s H vs Q E hr h => ?_)
  · obtain ⟨a, us, ls, rfl, _⟩ := h
    rfl
  · obtain ⟨a, us, ls, rfl, hL, hl1, hl2, k⟩ := h
    obtain ⟨t1, g1⟩ := T.most
    refine ⟨_, pss_cons (ps_setLc (i := 1) (te := tFld K (tVar 2) "number") (own := [("letter", 2)]) rfl scAre.nd rfl rfl (by rfl) (pi_list (pv 0)) (blkOk_by rfl) (fun _ _ _ _ _ => pg_name (i := 2) scAre.nd rfl (Or.inl rfl)) (fun _ _ _ _ _ => pts_nil) (fun _ _ _ _ _ => pe_fld (pv 2) rfl))
      (pss_cons (ps_if (PW.pt (pw_or (pt_cmpR op_gt (pe_callB call_len_seq (by rfl) T.len PySem.boot_len (pa_cons (pv 1) pa_nil)) (pe_glob (v := .int 16) rfl g1 ⟨t1, rfl⟩) (nomark _))
          (pw_or1 (pt_cmpR op_lt (pe_callB call_lenS (by rfl) T.len PySem.boot_len (pa_cons (pe_callTy (call_setL rfl) (by rfl) T.set bSet (pa_cons (pv 1) pa_nil)) pa_nil)) (pe_callB call_len_seq (by rfl) T.len PySem.boot_len (pa_cons (pv 1) pa_nil)) (nomark _))))) (pss_one (ps_ret pe_bl)) pss_nil)
      (pss_one (ps_ret (pe_callB (cr_all rfl) (by rfl) T.all bAll (pa_cons (pe_lc (own := [("letter", 2)]) rfl scAre.nd (pi_list (pv 0)) (blkOk_by rfl) (fun _ _ _ _ _ => pg_name (i := 2) scAre.nd rfl (Or.inl rfl)) (fun _ _ _ _ _ => pts_nil)
          (fun _ _ _ _ _ => pe_call GN hr rfl DN.g DN.F.kp DN.b .nil pass0 (pa_cons (pv 2) pa_nil))) pa_nil))))), ?_⟩
    refine ⟨_, rfl, a, rfl, ⟨_, SqL.of hL.lst⟩, fun d hd => ?_⟩
    refine lc_list (K := K) (a := a) (xs := us) (fun j H' => H' d = some (.lst (ivs ((ls.map Letter.id).take j))) ∧ Same H H') ⟨upd_same, same_new hd⟩ (fun j H' _ q => SqL.of (q.2 _ _ hL.lst)) ?_ ?_
    · rintro j x H' hj ⟨q1, q2⟩
      obtain ⟨b, l, rfl, hlj, hb⟩ := hL.get hj
      obtain ⟨dx, n, o, h1, h2, h3⟩ := hb.same q2
      refine ⟨rfl, yesL ⟨_, rfl, b, C, dx, _, _, rfl, h1, T.cl, T.nN, lf_number, _, q1, ?_, ?_, ?_⟩⟩
      · rw [ivs_len]
        exact small (Nat.le_trans (List.length_take_le' ..) (by rw [List.length_map]; omega))
      · have : (ls.map Letter.id)[j]? = some l.id := by rw [List.getElem?_map, hlj]; rfl
        rw [upd_same, take_snoc this, ivs_app]
        rfl
      · exact fun b u e => by rw [upd_ne (ne_of_none e hd)]; exact q2 b u e
    · rintro H' ⟨q1, q2⟩
      rw [← hL.len, ← List.length_map (f := Letter.id), List.take_length] at q1
      have eq0 : okLetters ls = (decide (ls.length ≤ 16) && ls.all okLetter && ((once (ls.map Letter.id)).length == ls.length)) := rfl
      refine ⟨_, rfl, d, _, rfl, .inl (SqL.of q1), _, _, rfl, rfl, _, rfl, ?_⟩
      rw [ivs_len, List.length_map]
      refine ite2 (fun c => ?_) fun c => ?_
      · have c' : ¬ ls.length ≤ 16 := by simp at c; omega
        refine iteT ?_
        show Q (.bl false) H'
        have e : okLetters ls = false := by
          rw [eq0, decide_eq_false c']
          rfl
        rw [← e]
        exact k H' q2
      · have c' : ls.length ≤ 16 := by simp at c; omega
        refine ⟨_, rfl, d, (ls.map Letter.id).map fun (n : Nat) => (n : Int), rfl, SqL.of (by rw [q1, ivs_ints]), ?_, fun p S hp => ?_⟩
        · rw [List.length_map, List.length_map]
          have : 100 < scanBound := by decide
          omega
        have ed : diff ((ls.map Letter.id).map fun (n : Nat) => (n : Int)) = (once (ls.map Letter.id)).length := by
          have h2 := once_nodup (ls.map Letter.id)
          have := diff_is (ns := (ls.map Letter.id).map fun (n : Nat) => (n : Int)) (ms := (once (ls.map Letter.id)).map fun (n : Nat) => (n : Int)) ?_ ?_
          · rw [this, List.length_map]
          · exact List.pairwise_map.mpr (h2.imp fun {a b} h z => h (by omega))
          · intro z
            simp only [List.mem_map]
            constructor
            · rintro ⟨n, hn, rfl⟩
              obtain ⟨l, hl, rfl⟩ := List.mem_map.mp (mem_once.mp hn)
              exact ⟨_, ⟨l, hl, rfl⟩, rfl⟩
            · rintro ⟨n, ⟨l, hl, rfl⟩, rfl⟩
              exact ⟨_, mem_once.mpr (List.mem_map.mpr ⟨l, hl, rfl⟩), rfl⟩
        refine ⟨p, S, _, rfl, upd_same, ?_⟩
        rw [ed]
        have q3 : Same H (upd H' p (.set S (once (ls.map Letter.id)).length)) := fun b u e => by rw [upd_ne (ne_of_none (q2 b u e) hp)]; exact q2 b u e
        have pd : d ≠ p := fun z => by rw [z, hp] at q1; cases q1
        refine ⟨_, rfl, d, _, rfl, .inl (SqL.of (by rw [upd_ne pd]; exact q1)), _, _, rfl, rfl, _, rfl, ?_⟩
        rw [ivs_len, List.length_map]
        generalize upd H' p (.set S (once (ls.map Letter.id)).length) = H2 at q3 ⊢
        have hle := once_len (ls.map Letter.id)
        rw [List.length_map] at hle
        refine ite2 (fun c2 => ?_) fun c2 => ?_
        · have c3 : (once (ls.map Letter.id)).length < ls.length := by simp at c2; omega
          show Q (.bl false) H2
          have e : okLetters ls = false := by
            rw [eq0, show ((once (ls.map Letter.id)).length == ls.length) = false from by simp; omega, Bool.and_false]
          rw [← e]
          exact k H2 q3
        · have c3 : (once (ls.map Letter.id)).length = ls.length := by simp at c2; omega
          have e : okLetters ls = ls.all okLetter := by
            rw [eq0, c3, decide_eq_true c', beq_self_eq_true, Bool.and_true, Bool.true_and]
          refine ⟨_, rfl, a, rfl, ⟨_, SqL.of (q3 _ _ hL.lst)⟩, fun v hv => ?_⟩
          refine lc_list (K := K) (a := a) (xs := us) (fun j H' => H' v = some (.lst ((ls.map okLetter).take j |>.map V.bl)) ∧ Same H H') ⟨upd_same, fun b u e => by rw [upd_ne (ne_of_none (q3 b u e) hv)]; exact q3 b u e⟩ (fun j H' _ q => SqL.of (q.2 _ _ hL.lst)) ?_ ?_
          · rintro j x H4 hj ⟨r1, r2⟩
            obtain ⟨b, l, rfl, hlj, hb⟩ := hL.get hj
            refine ⟨rfl, yesL ⟨_, rfl, b, l, rfl, hb.same r2, hl2 l (List.mem_of_getElem? hlj), fun H5 s5 => ⟨_, s5 _ _ r1, ?_, ?_, ?_⟩⟩⟩
            · rw [List.length_map]
              exact small (Nat.le_trans (List.length_take_le' ..) (by rw [List.length_map]; omega))
            · have : (ls.map okLetter)[j]? = some (okLetter l) := by rw [List.getElem?_map, hlj]; rfl
              rw [upd_same, take_snoc this, List.map_append]
              rfl
            · have hv0 : H v = none := q3.free hv
              exact fun b u e => by rw [upd_ne (ne_of_none e hv0)]; exact s5 _ _ (r2 b u e)
          · rintro H4 ⟨r1, r2⟩
            rw [← hL.len, ← List.length_map (f := okLetter), List.take_length] at r1
            refine ⟨v, _, rfl, SqL.of r1, ?_⟩
            rw [all_map, ← e]
            exact k H4 r2
end
end TH
set_option Elab.async false
set_option linter.all false
set_option maxRecDepth 100000
set_option maxHeartbeats 2000000
namespace L2
open PySem PySem.Spec PyProof.Rows
section
variable {P : Program} {w : World} {K : PySem.W.Frag} {mg : Str → Option Value} {base : Heap}
theorem Fun.okC {x qual : Str} {st : Stmt} {f c : Addr} {fd : FuncData} {N ps : List Str} {k : Nat} {sp : Sp} (F : Fun K x qual st f fd) (hc : fd.code = .ref c) (S : FnScope N ps (defScope st)) (len : ∀ vs H Q E, sp vs H Q E → vs.length = ps.length)
    (hbody : ∀ (A : Around) (outer : List Env) (s : Shared) (H : Hp) (vs : List V) (Q : VK) (E : XK), Room k (A.deeper (envOfC qual (defScope st) s.heap.objs.size f (.ref c))) → sp vs H Q E →
      ∃ t, PSs (cxOf CX0 P w K mg base N qual (defScope st) f (.ref c) A outer s H E).nox (defBody st) t ∧ t { nx := fun _ H' => Q .non H', rt := Q } (start N vs) H) : FnOk P w K mg base CX0 (k + 1) f fd ps sp := by
  obtain ⟨oc, od, kV, doc, pm, an, cdv, ct, osl, rfl, lk, hcd⟩ := F.ex
  have e : cdv = .ref c := hc
  subst e
  refine fn_of lk hcd S len fun A outer s H vs Q E hr hsp => ?_
  obtain ⟨t, h, q⟩ := hbody A outer s H vs Q E hr hsp
  exact ⟨t, h.nox, q⟩
end
theorem Paired.pw {α β : Type} {R : α → β → Prop} {S : β → β → Prop} {S' : α → α → Prop} (k : ∀ a a' b b', R a b → R a' b' → S b b' → S' a a') : ∀ {as : List α} {bs : List β}, Paired R as bs → bs.Pairwise S → as.Pairwise S'
  | _, _, .nil, _ => .nil
  | a :: as, b :: bs, .cons r t, h => by
    obtain ⟨h1, h2⟩ := List.pairwise_cons.mp h
    refine List.pairwise_cons.mpr ⟨fun a' ha' => ?_, Paired.pw k t h2⟩
    obtain ⟨i, hi, rfl⟩ := List.getElem_of_mem ha'
    obtain ⟨b', hb', r'⟩ := Paired.at_ t (List.getElem?_eq_getElem hi)
    exact k _ _ _ _ r r' (h1 _ (List.mem_of_getElem? hb'))
end L2
namespace TH
open PySem PySem.Spec PyProof.Rows L2 TM
open PySem.W (CodeHd)
open Ks322 (Letter once find earlier first before named claim said up all ring ahead cut answers table look chain chainOf shownOf shown root okLetters okLetter here)
/-- where the lambda of a last statement stands -/
def lamPos (s : Stmt) : Pos := match (defBody s).getLast? with
  | some (.Return (some (.Call _ _ [⟨_, .Lambda _ _ _ p, _⟩] _)) _) => p
  | _ => ⟨0, 0, 0, 0⟩
def eEarly (P : Addr) : TabE := ⟨P, lamPos sEarly, "earliest_first.<locals>.<lambda>"⟩
def spEarly (L : List TabE) (C : Addr) : Sp := fun vs H Q _ => ∃ (p : Addr) (us : List V) (ls : List Letter), vs = [.ref p] ∧ LetsAt C H p us ls ∧ Tabs L H ∧ (ls.map Letter.id).Nodup ∧
  ∀ (H' : Hp) (q : Addr) (us' : List V) (bs : List Letter), Gr L H H' → LetsAt C H' q us' bs → Aged ls bs → Q (.ref q) H'
open Classical in
noncomputable def kfL (C : Addr) (H : Hp) (v : V) : Int × Int := if h : ∃ l, LV C H l v then (((Classical.choose h).time : Int), ((Classical.choose h).id : Int)) else (0, 0)
theorem lf_inj {i t i' t' : Nat} {n o n' o' : Addr} (h : lf i t n o = lf i' t' n' o') : i = i' ∧ t = t' := by
  have h1 := congrArg (List.lookup ("number" : Str)) h
  have h2 := congrArg (List.lookup ("written" : Str)) h
  rw [lf_number, lf_number] at h1
  rw [lf_written, lf_written] at h2
  have e1 := V.int.inj (Option.some.inj h1)
  have e2 := V.int.inj (Option.some.inj h2)
  exact ⟨by omega, by omega⟩
theorem LV.same_id {C : Addr} {H : Hp} {l l' : Letter} {v : V} (h : LV C H l v) (h' : LV C H l' v) : l.id = l'.id ∧ l.time = l'.time := by
  obtain ⟨a, rfl, dx, n, o, e, _⟩ := h
  obtain ⟨a', ea, dx', n', o', e', _⟩ := h'
  cases ea
  rw [e] at e'
  have := Option.some.inj e'
  injection this with _ _ h3
  exact lf_inj h3
theorem kfL_is {C : Addr} {H : Hp} {l : Letter} {v : V} (h : LV C H l v) : kfL C H v = ((l.time : Int), (l.id : Int)) := by
  have hx : ∃ l, LV C H l v := ⟨l, h⟩
  unfold kfL
  rw [dif_pos hx]
  obtain ⟨e1, e2⟩ := (Classical.choose_spec hx).same_id h
  rw [e1, e2]
theorem aged_of {C : Addr} {H : Hp} {us ys : List V} {ls : List Letter} (h : Paired (LV C H) ls us) (nd : (ls.map Letter.id).Nodup) (hp : ys.Perm us) (hw : ys.Pairwise fun x y => Lx (kfL C H x) (kfL C H y)) : ∃ bs, Paired (LV C H) bs ys ∧ Aged ls bs := by
  obtain ⟨bs, h1, h2⟩ := paired_perm hp h
  refine ⟨bs, h2, h1, ?_⟩
  have nd2 : bs.Pairwise fun a b => a.id ≠ b.id := List.pairwise_map.mp ((h1.map Letter.id).nodup_iff.mpr nd)
  have q : bs.Pairwise fun a b => a.time < b.time ∨ (a.time = b.time ∧ a.id ≤ b.id) := Paired.pw (fun a a' b b' r r' s => by
    rw [kfL_is r, kfL_is r'] at s
    unfold Lx at s
    simp only at s
    omega) h2 hw
  refine (q.and nd2).imp fun {a b} ⟨x, y⟩ => ?_
  rw [earlier_iff]
  omega
section
variable {P : Program} {w : World} {K : PySem.W.Frag} {mg : Str → Option Value} {base : Heap} {C : Addr}
theorem scEarly : FnScope ["read"] ["read"] (defScope sEarly) := ⟨rfl, rfl, rfl, by decide +kernel, rfl, by decide +kernel, by decide +kernel⟩
theorem ok_early {f c Pt : Addr} {fd : FuncData} {L : List TabE} (D : Dn K mg "earliest_first" sEarly ["read"] f fd) (hcd : fd.code = .ref c) (T : Txt K mg C) (BM : BMain mg base) (hC : CodeHd base c Pt) (hL : eEarly Pt ∈ L) :
    FnOk P w K mg base CX0 1 f fd ["read"] (spEarly L C) := by
  refine D.F.okC hcd scEarly (fun vs H Q E h => ?_) (fun A outer s H vs Q E hr h => ?_)
  · obtain ⟨p, us, ls, rfl, _⟩ := h
    rfl
  · obtain ⟨p, us, ls, rfl, hLs, hT, nd, k⟩ := h
    refine ⟨_, pss_one (ps_ret (pe_sortKey (L := L) (ent := eEarly Pt) (clos := []) (x := "letter") (ys := []) (fv := []) (tb := tTup (tCons (tFld K (tVar 0) "written") (tCons (tFld K (tVar 0) "number") tNil))) hr.hd hr.depth BM hL rfl rfl hC rfl rfl
      ⟨rfl, rfl, rfl, by decide +kernel, by rfl, by decide +kernel, fun _ _ _ _ _ => rfl, (fun _ _ h => nomatch h), (fun y h => ?_), (fun _ h => nomatch h), (fun _ h => nomatch h)⟩ .nil
      (fun _ _ _ _ => pe_tup (pa_cons (pe_fld (pv 0) rfl) (pa_cons (pe_fld (pv 0) rfl) pa_nil))) (pv 0) rfl T.sorted bSorted)), ?_⟩
    · have q := PySem.mem_of_lookup h
      simp at q
    refine ⟨_, rfl, p, us, [], kfL C H, rfl, SqL.of hLs.lst, hT, .nil, fun x hx H' g => ?_, fun H' q ys g hq0 hq hp hw => ?_⟩
    · obtain ⟨i, hi, rfl⟩ := List.getElem_of_mem hx
      obtain ⟨a, l, ea, hl, hA⟩ := hLs.get (List.getElem?_eq_getElem hi)
      have hk := kfL_is ⟨a, ea, hA⟩
      obtain ⟨dx, n, o, h1, h2, h3⟩ := hA.gr g
      rw [hk, ea]
      refine ⟨_, rfl, a, C, dx, _, _, rfl, h1, T.cl, T.nW, lf_written, _, rfl, a, C, dx, _, _, rfl, h1, T.cl, T.nN, lf_number, (by show 2 ≤ sizeLine; decide), fun t ht => ⟨t, rfl, upd_same, same_new ht⟩⟩
    · obtain ⟨bs, h1, h2⟩ := aged_of hLs.all nd hp hw
      exact k H' q ys bs g ⟨hq, Paired.mapP h1 fun l v ⟨a, e, z⟩ => ⟨a, e, z.gr g⟩⟩ h2
/-! ### what letters tell -/
theorem before_at {i a : Nat} : ∀ {l : List Nat} {p : Nat}, l[p + 1]? = some i → l[p]? = some a → (∀ k, k < p → l[k + 1]? ≠ some i) → before i l = some a
  | [], p, h, _, _ => by simp at h
  | [_], p, h, _, _ => by simp at h
  | x :: y :: l, 0, h, h0, _ => by
    simp at h h0
    simp [before, h, h0]
  | x :: y :: l, p + 1, h, h0, hn => by
    have h1 : y ≠ i := fun z => hn 0 (Nat.succ_pos _) (by simp [z])
    unfold before
    rw [if_neg h1]
    exact before_at (p := p) (by simpa using h) (by simpa using h0) fun k hk => by
      have := hn (k + 1) (by omega)
      simpa using this
theorem before_no {i : Nat} : ∀ {l : List Nat}, (∀ k, l[k + 1]? ≠ some i) → before i l = none
  | [], _ => rfl
  | [_], _ => rfl
  | x :: y :: l, hn => by
    have h1 : y ≠ i := fun z => hn 0 (by simp [z])
    unfold before
    rw [if_neg h1]
    exact before_no fun k => by
      have := hn (k + 1)
      simpa using this
def spTold (C : Addr) : Sp := fun vs H Q _ => ∃ (i : Nat) (a : Addr) (l : Letter), vs = [iv i, .ref a] ∧ LetAt C H a l ∧ (named l).length ≤ 1000 ∧ Q (oV (claim i l)) H
theorem scTold : FnScope ["number", "letter", "others", "place"] ["number", "letter"] (defScope sTold) := ⟨rfl, rfl, rfl, by decide +kernel, rfl, by decide +kernel, by decide +kernel⟩
theorem ok_told {f : Addr} {fd : FuncData} (D : Dn K mg "told_by_letter" sTold ["number", "letter"] f fd) (T : Txt K mg C) : FnOk P w K mg base CX0 1 f fd ["number", "letter"] (spTold C) := by
  refine D.F.ok scTold (fun vs H Q E h => ?_) (fun cdv A outer s H vs Q E hr h => ?_)
  · obtain ⟨i, a, l, rfl, _⟩ := h
    rfl
  · obtain ⟨i, a, l, rfl, ⟨dx, n, o, h1, h2, h3⟩, hl, k⟩ := h
    refine ⟨_, pss_cons (ps_set (i := 2) scTold.nd rfl (Or.inl rfl) (pe_fld (pv 1) rfl))
      (pss_cons (ps_for PassesOwn.never rfl (pi_range2 rfl T.range (pa_cons pe_int (pa_cons (pe_callB call_len_seq (by rfl) T.len PySem.boot_len (pa_cons (pv 2) pa_nil)) pa_nil))) (pg_name (i := 3) scTold.nd rfl (Or.inl rfl))
        (pss_one (ps_if (pt_cmpR op_eq (pe_ix ix_list (pv 2) (pv 3) (fun _ _ => rfl)) (pv 0) (nomark _))
          (pss_one (ps_ret (pe_ifExp (pt_cmpR op_eq (pe_ix ix_list (pv 2) (pe_op op_sub (pv 3) pe_int) (fun _ _ => rfl)) (pv 0) (nomark _)) pe_non (pe_ix ix_list (pv 2) (pe_op op_sub (pv 3) pe_int) (fun _ _ => rfl))))) pss_nil)))
      (pss_one (ps_ret pe_non))), ?_⟩
    refine ⟨_, rfl, a, C, dx, _, _, rfl, h1, T.cl, T.nO, lf_others, ?_⟩
    refine ⟨_, rfl, o, _, rfl, .inl (SqL.of h3), _, _, rfl, ?_, ?_⟩
    · rw [ivs_len]; omega
    rw [ivs_len]
    have en : ((((named l).length : Nat) : Int) - 1).toNat = (named l).length - 1 := by omega
    rw [en]
    refine for_range (lo := 1) (n := (named l).length - 1) (fun j σ H' => H' = H ∧ (∃ v, σ = [some (iv i), some (.ref a), some (.ref o), v]) ∧ ∀ k, k < j → (named l)[k + 1]? ≠ some i) ⟨rfl, ⟨none, rfl⟩, fun k hk => by omega⟩ ?_ ?_
    · rintro j σ H' hj ⟨rfl, ⟨v, rfl⟩, hno⟩
      have hj1 : j + 1 < (named l).length := by omega
      obtain ⟨b, hb⟩ : ∃ b, (named l)[j + 1]? = some b := ⟨_, List.getElem?_eq_getElem hj1⟩
      obtain ⟨b', hb'⟩ : ∃ b, (named l)[j]? = some b := ⟨_, List.getElem?_eq_getElem (by omega : j < (named l).length)⟩
      have g1 : atI (ivs (named l)) ((1 : Int) + (j : Int)) = some (iv b) := at_of (j := j + 1) (by omega) (ivs_at hb)
      have g2 : atI (ivs (named l)) ((1 : Int) + (j : Int) - 1) = some (iv b') := at_of (j := j) (by omega) (ivs_at hb')
      refine ⟨_, rfl, _, rfl, o, _, _, _, rfl, rfl, SqL.of h3, g1, _, rfl, rfl, _, rfl, ?_⟩
      rw [iv_eq]
      refine ite2 (fun q => ?_) fun q => ?_
      · have q' : b = i := by simpa using q
        subst q'
        have hbf : before b (named l) = some b' := before_at hb hb' hno
        refine ⟨_, rfl, _, rfl, _, _, rfl, rfl, o, _, _, _, rfl, rfl, SqL.of h3, g2, _, rfl, rfl, _, rfl, ?_⟩
        rw [iv_eq]
        refine ite2 (fun q => ?_) fun q => ?_
        · have q' : b' = b := by simpa using q
          have : claim b l = none := by
            unfold claim
            rw [hbf]
            simp [q']
          rw [this] at k
          exact k
        · have q' : ¬ b' = b := by simpa using q
          refine ⟨_, rfl, _, rfl, _, _, rfl, rfl, o, _, _, _, rfl, rfl, SqL.of h3, g2, ?_⟩
          have : claim b l = some b' := by
            unfold claim
            rw [hbf]
            simp [q']
          rw [this] at k
          exact k
      · refine ⟨rfl, ⟨_, rfl⟩, fun k' hk' z => ?_⟩
        by_cases e : k' = j
        · subst e
          rw [hb] at z
          have : b = i := Option.some.inj z
          simp [this] at q
        · exact hno k' (by omega) z
    · rintro σ H' ⟨rfl, ⟨v, rfl⟩, hno⟩
      have : claim i l = none := by
        unfold claim
        rw [before_no fun k' z => ?_]
        by_cases c : k' < (named l).length - 1
        · exact hno k' c z
        · rw [List.getElem?_eq_none (by omega)] at z
          cases z
      rw [this] at k
      exact k
def spLack (C : Addr) : Sp := fun vs H Q _ => ∃ (i : Nat) (q : Addr) (us : List V) (bs : List Letter), vs = [iv i, .ref q] ∧ LetsAt C H q us bs ∧ (∀ l ∈ bs, (named l).length ≤ 1000) ∧ Q (oV (bs.findSome? (claim i))) H
theorem scLack : FnScope ["number", "by_age", "letter", "told"] ["number", "by_age"] (defScope sLack) := ⟨rfl, rfl, rfl, by decide +kernel, rfl, by decide +kernel, by decide +kernel⟩
theorem ok_lack {f fT : Addr} {fd fdT : FuncData} (D : Dn K mg "told_of_lacking" sLack ["number", "by_age"] f fd) (T : Txt K mg C) (DT : Dn K mg "told_by_letter" sTold ["number", "letter"] fT fdT) (GT : FnOk P w K mg base CX0 1 fT fdT ["number", "letter"] (spTold C)) :
    FnOk P w K mg base CX0 2 f fd ["number", "by_age"] (spLack C) := by
  refine D.F.ok scLack (fun vs H Q E h => ?_) (fun cdv A outer s H vs Q E hr h => ?_)
  · obtain ⟨i, q, us, bs, rfl, _⟩ := h
    rfl
  · obtain ⟨i, q, us, bs, rfl, hL, hn, k⟩ := h
    refine ⟨_, pss_cons (ps_for PassesOwn.never rfl (pi_list (pv 1)) (pg_name (i := 2) scLack.nd rfl (Or.inl rfl))
        (pss_cons (ps_set (i := 3) scLack.nd rfl (Or.inl rfl) (pe_call GT hr rfl DT.g DT.F.kp DT.b .nil pass0 (pa_cons (pv 0) (pa_cons (pv 2) pa_nil))))
        (pss_one (ps_if (pt_cmp (pc_notN (pv 3))) (pss_one (ps_ret (pv 3))) pss_nil))))
      (pss_one (ps_ret pe_non)), ?_⟩
    refine ⟨_, rfl, q, rfl, ⟨_, SqL.of hL.lst⟩, for_list (K := K) (a := q) (xs := us) (fun j σ H' => H' = H ∧ (∃ v v', σ = [some (iv i), some (.ref q), v, v']) ∧ ∀ l ∈ bs.take j, claim i l = none) ⟨rfl, ⟨none, none, rfl⟩, fun l h => by simp at h⟩ (fun j σ H' _ ⟨e, _⟩ => by rw [e]; exact SqL.of hL.lst) ?_ ?_⟩
    · rintro j x σ H' hj ⟨rfl, ⟨v, v', rfl⟩, hno⟩
      obtain ⟨a, l, rfl, hlj, hA⟩ := hL.get hj
      have hm := List.mem_of_getElem? hlj
      refine ⟨_, rfl, _, rfl, i, a, l, rfl, hA, hn l hm, ?_⟩
      refine ⟨_, rfl, _, rfl, ?_⟩
      cases hc : claim i l with
      | none =>
        refine iteF ⟨rfl, ⟨_, _, rfl⟩, fun l' hl' => ?_⟩
        rw [take_snoc hlj] at hl'
        rcases List.mem_append.mp hl' with z | z
        · exact hno l' z
        · rw [List.mem_singleton.mp z]; exact hc
      | some p =>
        refine iteT ⟨_, rfl, ?_⟩
        have : bs.findSome? (claim i) = some p := by
          rw [List.findSome?_eq_some_iff]
          exact ⟨_, l, _, drop_cons hlj, hc, hno⟩
        rw [this] at k
        exact k
    · rintro σ H' ⟨rfl, ⟨v, v', rfl⟩, hno⟩
      have : bs.findSome? (claim i) = none := by
        rw [List.findSome?_eq_none_iff]
        intro l hl
        refine hno l ?_
        rw [← hL.len, List.take_length]
        exact hl
      rw [this] at k
      exact k
end
end TH
set_option Elab.async false
set_option linter.all false
set_option maxRecDepth 100000
set_option maxHeartbeats 2000000
namespace TH
open PySem PySem.Spec PyProof.Rows L2 TM
open PySem.W (CodeHd)
open Ks322 (Letter once find earlier first before named claim said up all ring ahead cut answers table look chain chainOf shownOf shown root okLetters okLetter here)
/-- letters by age, allowed -/
structure Dk (ls bs : List Letter) : Prop where
  d : Desk ls bs
  n : (all ls).length ≤ 80
  m : bs.length ≤ 16
  r : ∀ l ∈ bs, l.refs.length ≤ 4
section
variable {ls bs : List Letter}
theorem Dk.named (h : Dk ls bs) {l : Letter} (hl : l ∈ bs) : (named l).length ≤ 1000 := Nat.le_trans (List.length_filter_le _ _) (Nat.le_trans (h.r l hl) (by decide))
theorem Dk.said_of (h : Dk ls bs) {i : Nat} (hi : ∀ l ∈ bs, l.id ≠ i) : said ls i = bs.findSome? (claim i) := by
  have hf : find ls i = none := find_none.mpr fun l hl => hi l (h.d.aged.mem.mpr hl)
  cases q : bs.findSome? (claim i) with
  | none =>
    rw [List.findSome?_eq_none_iff] at q
    exact said_lack_none h.d.aged hf q
  | some p =>
    rw [List.findSome?_eq_some_iff] at q
    obtain ⟨A, l, B, e, h1, h2⟩ := q
    exact said_lack h.d.aged hf e h2 h1
theorem Dk.said_in (h : Dk ls bs) {l : Letter} (hl : l ∈ bs) : said ls l.id = (Ks322.named l).getLast? := said_here h.d.nd (h.d.aged.mem.mp hl)
theorem Dk.keys (h : Dk ls bs) {ks : List Nat} (nd : ks.Nodup) (hs : ∀ i ∈ ks, i ∈ all ls) : ks.length ≤ 80 := Nat.le_trans (nd.length_le_of_subset hs) h.n
theorem Dk.id_nd (h : Dk ls bs) : (bs.map Letter.id).Nodup := h.d.aged.ids.nodup_iff.mpr h.d.nd
end
def spSaid (C : Addr) : Sp := fun vs H Q _ => ∃ (q : Addr) (us : List V) (ls bs : List Letter), vs = [.ref q] ∧ LetsAt C H q us bs ∧ Dk ls bs ∧
  ∀ (H' : Hp) (d : Addr) (ks : List Nat), Same H H' → H' d = some (.dK (fD ks fun i => oV (said ls i))) → ks.Nodup → (∀ i, i ∈ ks ↔ i ∈ all ls) → Q (.ref d) H'
section
variable {P : Program} {w : World} {K : PySem.W.Frag} {mg : Str → Option Value} {base : Heap} {C : Addr}
theorem scSaid : FnScope ["by_age", "said", "letter", "other"] ["by_age"] (defScope sSaid) := ⟨rfl, rfl, rfl, by decide +kernel, rfl, by decide +kernel, by decide +kernel⟩
theorem ok_said {f fT : Addr} {fd fdT : FuncData} (D : Dn K mg "said_answers" sSaid ["by_age"] f fd) (T : Txt K mg C) (DT : Dn K mg "told_of_lacking" sLack ["number", "by_age"] fT fdT) (GT : FnOk P w K mg base CX0 2 fT fdT ["number", "by_age"] (spLack C)) :
    FnOk P w K mg base CX0 3 f fd ["by_age"] (spSaid C) := by
  refine D.F.ok scSaid (fun vs H Q E h => ?_) (fun cdv A outer s H vs Q E hr h => ?_)
  · obtain ⟨q, us, ls, bs, rfl, _⟩ := h
    rfl
  · obtain ⟨q, us, ls, bs, rfl, hL, hD, k⟩ := h
    have hu := hu_of hr
    refine ⟨_, pss_cons (ps_set (i := 1) scSaid.nd rfl (Or.inl rfl) pe_dnewK)
      (pss_cons (ps_for PassesOwn.never rfl (pi_list (pv 0)) (pg_name (i := 2) scSaid.nd rfl (Or.inl rfl))
        (pss_one (ps_dput hu (pv 1) (pe_fld (pv 2) rfl) (pe_ifExp (pt_cmpR op_gt (pe_callB call_len_seq (by rfl) T.len PySem.boot_len (pa_cons (pe_fld (pv 2) rfl) pa_nil)) pe_int (nomark _)) (pe_ix ix_list (pe_fld (pv 2) rfl) (pe_un un_neg pe_int) (fun _ _ => rfl)) pe_non) rfl)))
      (pss_cons (ps_for PassesOwn.never rfl (pi_list (pv 0)) (pg_name (i := 2) scSaid.nd rfl (Or.inl rfl))
        (pss_one (ps_for PassesOwn.never rfl (pi_list (pe_fld (pv 2) rfl)) (pg_name (i := 3) scSaid.nd rfl (Or.inl rfl))
          (pss_one (ps_if (pt_cmp (pc_dnotin hu (pv 3) (pv 1))) (pss_one (ps_dput hu (pv 1) (pv 3) (pe_call GT hr rfl DT.g DT.F.kp DT.b .nil pass0 (pa_cons (pv 3) (pa_cons (pv 0) pa_nil))) rfl)) pss_nil)))))
      (pss_one (ps_ret (pv 1))))), ?_⟩
    intro d hd
    have keep : ∀ {H' : Hp} {o : HO}, Same H H' → Same H (upd H' d o) := fun s => same_put s hd
    refine ⟨_, rfl, q, rfl, ⟨_, SqL.of (same_new hd _ _ hL.lst)⟩, for_list (K := K) (a := q) (xs := us) (fun j σ H' => (∃ v v', σ = [some (.ref q), some (.ref d), v, v']) ∧ Same H H' ∧ H' d = some (.dK (fD ((bs.map Letter.id).take j) fun i => oV (said ls i)))) ⟨⟨none, none, rfl⟩, same_new hd, upd_same⟩ (fun j σ H' _ ⟨_, s1, _⟩ => SqL.of (s1 _ _ hL.lst)) ?_ ?_⟩
    · rintro j x σ H' hj ⟨⟨v, v', rfl⟩, s1, hd'⟩
      obtain ⟨a, l, rfl, hlj, hA⟩ := hL.get hj
      have hm := List.mem_of_getElem? hlj
      obtain ⟨dx, n, o, h1, h2, h3⟩ := hA.same s1
      have hgj : (bs.map Letter.id)[j]? = some l.id := by rw [List.getElem?_map, hlj]; rfl
      have hnew : l.id ∉ (bs.map Letter.id).take j := fun z => by
        obtain ⟨i, hi, e⟩ := List.getElem_of_mem z
        rw [List.length_take] at hi
        rw [List.getElem_take] at e
        have := nd_ix hD.id_nd (i := i) (j := j) (by rw [List.getElem?_eq_getElem (by omega), e]) hgj
        omega
      have hlen : ((bs.map Letter.id).take j).length < sizeLine := small (Nat.le_trans (List.length_take_le' ..) (by rw [List.length_map]; have := hD.m; omega))
      have fin : upd H' d (.dK (fD (addK ((bs.map Letter.id).take j) l.id) fun i => oV (said ls i))) d = some (.dK (fD ((bs.map Letter.id).take (j + 1)) fun i => oV (said ls i))) := by
        rw [upd_same]
        unfold addK
        rw [if_neg hnew, take_snoc hgj]
      refine ⟨_, rfl, a, C, dx, _, _, rfl, h1, T.cl, T.nO, lf_others, o, _, rfl, .inl (SqL.of h3), _, _, rfl, rfl, _, rfl, ?_⟩
      rw [ivs_len]
      have hsd := hD.said_in hm
      refine ite2 (fun c => ?_) fun c => ?_
      · have c' : named l ≠ [] := fun z => by rw [z] at c; simp at c
        obtain ⟨p, hp⟩ : ∃ p, (named l).getLast? = some p := ⟨_, List.getLast?_eq_some_getLast c'⟩
        obtain ⟨ys, ey⟩ := List.getLast?_eq_some_iff.mp hp
        have hg : atI (ivs (named l)) (-1) = some (oV (said ls l.id)) := by
          rw [hsd, hp, ey, ivs_app]
          exact atI_last _ _
        refine ⟨_, rfl, a, C, dx, _, _, rfl, h1, T.cl, T.nO, lf_others, _, rfl, o, _, _, _, rfl, rfl, SqL.of h3, hg, ?_⟩
        refine ⟨_, rfl, _, rfl, a, C, dx, _, _, rfl, h1, T.cl, T.nN, lf_number, d, _, rfl, dput1 (i := l.id) (g := fun i => oV (said ls i)) hd' hlen, ⟨_, _, rfl⟩, keep s1, fin⟩
      · have c' : named l = [] := by
          have : (named l).length = 0 := by simp at c; simp [c]
          exact List.length_eq_zero_iff.mp this
        have hv : oV (said ls l.id) = .non := by rw [hsd, c']; rfl
        refine ⟨_, rfl, _, rfl, a, C, dx, _, _, rfl, h1, T.cl, T.nN, lf_number, d, _, rfl, ?_, ⟨_, _, rfl⟩, keep s1, fin⟩
        have := dput1 (i := l.id) (g := fun i => oV (said ls i)) hd' hlen
        rw [hv] at this
        exact this
    · rintro σ H1 ⟨⟨v, v', rfl⟩, s1, hd1⟩
      have e0 : (bs.map Letter.id).take us.length = bs.map Letter.id := by rw [← hL.len, ← List.length_map (f := Letter.id), List.take_length]
      rw [e0] at hd1
      refine ⟨_, rfl, q, rfl, ⟨_, SqL.of (s1 _ _ hL.lst)⟩, for_list (K := K) (a := q) (xs := us) (fun j σ H' => (∃ v v', σ = [some (.ref q), some (.ref d), v, v']) ∧ Same H H' ∧ ∃ ks, H' d = some (.dK (fD ks fun i => oV (said ls i))) ∧ ks.Nodup ∧ ∀ i, i ∈ ks ↔ (∃ l ∈ bs, i = l.id) ∨ ∃ l ∈ bs.take j, i ∈ named l)
        ⟨⟨v, v', rfl⟩, s1, _, hd1, hD.id_nd, fun i => by simp [eq_comm]⟩ (fun j σ H' _ ⟨_, s1, _⟩ => SqL.of (s1 _ _ hL.lst)) ?_ ?_⟩
      · rintro j x σ H2 hj ⟨⟨v, v', rfl⟩, s2, ks, hd2, nd2, hm2⟩
        obtain ⟨a, l, rfl, hlj, hA⟩ := hL.get hj
        have hm := List.mem_of_getElem? hlj
        obtain ⟨dx, n, o, h1, h2, h3⟩ := hA
        refine ⟨_, rfl, a, C, dx, _, _, rfl, s2 _ _ h1, T.cl, T.nO, lf_others, o, rfl, ⟨_, SqL.of (s2 _ _ h3)⟩, for_list (K := K) (a := o) (xs := ivs (named l)) (fun m σ H' => (∃ v', σ = [some (.ref q), some (.ref d), some (.ref a), v']) ∧ Same H H' ∧ ∃ ks, H' d = some (.dK (fD ks fun i => oV (said ls i))) ∧ ks.Nodup ∧ ∀ i, i ∈ ks ↔ ((∃ l ∈ bs, i = l.id) ∨ ∃ l ∈ bs.take j, i ∈ named l) ∨ i ∈ (named l).take m)
          ⟨⟨v', rfl⟩, s2, ks, hd2, nd2, fun i => by rw [hm2]; simp⟩ (fun m σ H' _ ⟨_, s3, _⟩ => SqL.of (s3 _ _ h3)) ?_ ?_⟩
        · rintro m y σ H3 hmj ⟨⟨v3, rfl⟩, s3, ks3, hd3, nd3, hm3⟩
          obtain ⟨r, hr', rfl⟩ := ivs_get hmj
          have hrn : r ∈ named l := List.mem_of_getElem? hr'
          have sub3 : ∀ i ∈ ks3, i ∈ all ls := fun i hi => by
            rcases (hm3 i).mp hi with (⟨l', hl', rfl⟩ | ⟨l', hl', z⟩) | z
            · exact id_mem (hD.d.aged.mem.mp hl')
            · exact named_mem (hD.d.aged.mem.mp (List.mem_of_mem_take hl')) z
            · exact named_mem (hD.d.aged.mem.mp hm) (List.mem_of_mem_take z)
          refine ⟨_, rfl, _, rfl, d, _, rfl, dget (i := r) (.inl hd3), _, rfl, ?_⟩
          by_cases hin : r ∈ ks3
          · rw [if_pos hin]
            refine iteF ⟨⟨_, rfl⟩, s3, ks3, hd3, nd3, fun i => ?_⟩
            rw [take_snoc hr', List.mem_append, List.mem_singleton]
            constructor
            · intro z
              rcases (hm3 i).mp z with z | z
              · exact .inl z
              · exact .inr (.inl z)
            · rintro (z | z | rfl)
              · exact (hm3 i).mpr (.inl z)
              · exact (hm3 i).mpr (.inr z)
              · exact hin
          · rw [if_neg hin]
            have hsd : said ls r = bs.findSome? (claim r) := hD.said_of fun l' hl' e => hin ((hm3 r).mpr (.inl (.inl ⟨l', hl', e.symm⟩)))
            refine iteT ⟨_, rfl, _, rfl, r, q, us, bs, rfl, hL.same s3, fun l' hl' => hD.named hl', ?_⟩
            refine ⟨_, rfl, _, rfl, d, _, rfl, ?_, ⟨_, rfl⟩, keep s3, addK ks3 r, upd_same, addK_nd nd3, fun i => ?_⟩
            · have := dput1 (i := r) (g := fun i => oV (said ls i)) hd3 (small (Nat.le_trans (hD.keys nd3 sub3) (by decide)))
              rw [← hsd]
              exact this
            · rw [addK_mem, hm3, take_snoc hr', List.mem_append, List.mem_singleton]
              constructor
              · rintro ((z | z) | z)
                · exact .inl z
                · exact .inr (.inl z)
                · exact .inr (.inr z)
              · rintro (z | z | z)
                · exact .inl (.inl z)
                · exact .inl (.inr z)
                · exact .inr z
        · rintro σ H3 ⟨⟨v3, rfl⟩, s3, ks3, hd3, nd3, hm3⟩
          refine ⟨⟨_, _, rfl⟩, s3, ks3, hd3, nd3, fun i => ?_⟩
          rw [hm3, ivs_len, List.take_length, take_snoc hlj]
          constructor
          · rintro ((z | ⟨l', hl', z⟩) | z)
            · exact .inl z
            · exact .inr ⟨l', List.mem_append_left _ hl', z⟩
            · exact .inr ⟨l, by simp, z⟩
          · rintro (z | ⟨l', hl', z⟩)
            · exact .inl (.inl z)
            · rcases List.mem_append.mp hl' with y | y
              · exact .inl (.inr ⟨l', y, z⟩)
              · rw [List.mem_singleton.mp y] at z
                exact .inr z
      · rintro σ H2 ⟨⟨v, v', rfl⟩, s2, ks, hd2, nd2, hm2⟩
        refine ⟨_, rfl, k H2 d ks s2 hd2 nd2 fun i => ?_⟩
        rw [hm2, ← hL.len, List.take_length, mem_all']
        constructor
        · rintro (⟨l, hl, e⟩ | ⟨l, hl, e⟩)
          · exact ⟨l, hD.d.aged.mem.mp hl, .inl e⟩
          · exact ⟨l, hD.d.aged.mem.mp hl, .inr e⟩
        · rintro ⟨l, hl, e | e⟩
          · exact .inl ⟨l, hD.d.aged.mem.mpr hl, e⟩
          · exact .inr ⟨l, hD.d.aged.mem.mpr hl, e⟩
end
end TH
set_option Elab.async false
set_option linter.all false
set_option maxRecDepth 100000
set_option maxHeartbeats 2000000
namespace TH
open PySem PySem.Spec PyProof.Rows L2 TM
open PySem.W (CodeHd)
open Ks322 (Letter once find earlier first before named claim said up all ring ahead cut answers table look chain chainOf shownOf shown root okLetters okLetter here)
def RingOr (ls : List Letter) (i : Nat) (R : List Nat) : Prop := Ring ls i R ∨ (R = [] ∧ ring ls i = false)
def spRing : Sp := fun vs H Q _ => ∃ (i : Nat) (d : Addr) (ks : List Nat) (ls bs : List Letter), vs = [iv i, .ref d] ∧ Rd H d (.dK (fD ks fun i => oV (said ls i))) ∧ Dk ls bs ∧ (∀ i, i ∈ ks ↔ i ∈ all ls) ∧ i ∈ all ls ∧
  ∀ (H' : Hp) (r : Addr) (R : List Nat), Same H H' → H' r = some (.lst (ivs R)) → RingOr ls i R → Q (.ref r) H'
def spFirst (C : Addr) : Sp := fun vs H Q _ => ∃ (r q : Addr) (R : List Nat) (us : List V) (bs : List Letter) (m : Nat), vs = [.ref r, .ref q] ∧ H r = some (.lst (ivs R)) ∧ LetsAt C H q us bs ∧ lead R bs = some m ∧ Q (iv m) H
def spCut (C : Addr) : Sp := fun vs H Q _ => ∃ (d q : Addr) (ks : List Nat) (us : List V) (ls bs : List Letter), vs = [.ref d, .ref q] ∧ H d = some (.dK (fD ks fun i => oV (said ls i))) ∧ LetsAt C H q us bs ∧ Dk ls bs ∧ ks.Nodup ∧ (∀ i, i ∈ ks ↔ i ∈ all ls) ∧
  ∀ (H' : Hp) (e : Addr), Same H H' → H' e = some (.dK (fD ks fun i => oV (answers ls i))) → Q (.ref e) H'
def spAmong (C : Addr) : Sp := fun vs H Q _ => ∃ (q : Addr) (us : List V) (ls bs : List Letter), vs = [.ref q] ∧ LetsAt C H q us bs ∧ Dk ls bs ∧
  ∀ (H' : Hp) (e : Addr) (ks : List Nat), Same H H' → H' e = some (.dK (fD ks fun i => oV (answers ls i))) → ks.Nodup → (∀ i, i ∈ ks ↔ i ∈ all ls) → Q (.ref e) H'
def spChain : Sp := fun vs H Q _ => ∃ (i : Nat) (e : Addr) (ks : List Nat) (ls bs : List Letter), vs = [iv i, .ref e] ∧ Rd H e (.dK (fD ks fun i => oV (answers ls i))) ∧ Dk ls bs ∧ (∀ i, i ∈ ks ↔ i ∈ all ls) ∧ i ∈ all ls ∧
  ∀ (H' : Hp) (r : Addr), Same H H' → H r = none → H' r = some (.lst (ivs (chainOf ls i))) → Q (.ref r) H'
def spRoot : Sp := fun vs H Q _ => ∃ (i : Nat) (e : Addr) (ks : List Nat) (ls bs : List Letter), vs = [iv i, .ref e] ∧ Rd H e (.dK (fD ks fun i => oV (answers ls i))) ∧ Dk ls bs ∧ (∀ i, i ∈ ks ↔ i ∈ all ls) ∧ i ∈ all ls ∧
  ∀ H' : Hp, Same H H' → Q (iv (root ls i)) H'
section
variable {P : Program} {w : World} {K : PySem.W.Frag} {mg : Str → Option Value} {base : Heap} {C : Addr}
theorem scRing : FnScope ["number", "said", "walked", "following"] ["number", "said"] (defScope sRing) := ⟨rfl, rfl, rfl, by decide +kernel, rfl, by decide +kernel, by decide +kernel⟩
theorem ok_ring {f : Addr} {fd : FuncData} (D : Dn K mg "ring_through" sRing ["number", "said"] f fd) (T : Txt K mg C) : FnOk P w K mg base CX0 1 f fd ["number", "said"] spRing := by
  refine D.F.ok scRing (fun vs H Q E h => ?_) (fun cdv A outer s H vs Q E hr h => ?_)
  · obtain ⟨i, d, ks, ls, bs, rfl, _⟩ := h
    rfl
  · obtain ⟨i, d, ks, ls, bs, rfl, hd, hD, hk, hi, k⟩ := h
    have hu := hu_of hr
    refine ⟨_, pss_cons (ps_set (i := 2) scRing.nd rfl (Or.inl rfl) (pe_lst (pa_cons (pv 0) pa_nil)))
      (pss_cons (ps_set (i := 3) scRing.nd rfl (Or.inl rfl) (pe_dget hu (pv 1) (pv 0) (fun _ _ => rfl)))
      (pss_cons (ps_while PassesOwn.never (PW.pt (pw_and (pt_cmp (pc_notN (pv 3))) (pw_and1 (pt_cmpR op_notIn_seq (pv 3) (pv 2) rfl))))
        (pss_cons (ps_expr (pe_bm PySem.F.plainAttrs_list PySem.F.slot_list_append PySem.F.type_list_append mt_append (pv 2) (pa_cons (pv 3) pa_nil)))
        (pss_one (ps_set (i := 3) scRing.nd rfl (Or.inl rfl) (pe_dget hu (pv 1) (pv 3) (fun _ _ => rfl))))))
      (pss_one (ps_ret (pe_ifExp (pt_cmpR op_eq (pv 3) (pv 0) (nomark _)) (pv 2) (pe_lst pa_nil)))))), ?_⟩
    refine ⟨_, rfl, (by show 1 ≤ sizeLine; decide), fun r hr0 => ?_⟩
    refine ⟨_, rfl, _, rfl, d, _, rfl, dget1 (Rd.same (same_new hr0) hd) ((hk i).mpr hi), ?_⟩
    refine ⟨fun m σ H' => ∃ (W : List Nat) (q : Option Nat), m = (all ls).length + 1 - W.length ∧ σ = [some (iv i), some (.ref d), some (.ref r), some (oV q)] ∧ Same H H' ∧ H' r = some (.lst (ivs W)) ∧ Path (said ls) i W q ∧ W.Nodup ∧ ∀ x ∈ W, x ∈ all ls,
      ⟨_, [i], said ls i, rfl, rfl, same_new hr0, upd_same, Path.one, by simp, by simpa using hi⟩, ?_⟩
    rintro m σ H' ⟨W, q, rfl, rfl, s1, hr1, hp, nd, sub⟩
    have hlen := nd.length_le_of_subset sub
    have h80 := hD.n
    have ending : (∀ y, q = some y → y ∈ W) → tRet (tIf (tTest (tOp rEq (tVar 3) (tVar 0))) (tVar 2) (tLst tNil)) { nx := fun x H' => Q V.non H', rt := Q } [some (iv i), some (.ref d), some (.ref r), some (oV q)] H' := fun hq => by
      refine ⟨_, rfl, _, rfl, ?_, ?_⟩
      · cases q <;> rfl
      refine ⟨_, rfl, ?_⟩
      by_cases c : q = some i
      · subst c
        refine (if_pos ?_).mpr ⟨_, rfl, k H' r W s1 hr1 (.inl ⟨hp, nd⟩)⟩
        simp [oV]
      · refine (if_neg ?_).mpr ⟨Nat.zero_le _, fun p hp0 => k _ p [] (same_put s1 (s1.free hp0)) upd_same (.inr ⟨rfl, ring_not hp nd hq c⟩)⟩
        cases q with
        | none => simp [oV]
        | some y =>
          intro z
          apply c
          have : iv y = iv i := by simpa [oV] using z
          have := V.int.inj this
          congr 1
          omega
    refine ⟨_, rfl, _, rfl, ?_⟩
    cases q with
    | none =>
      refine iteF ?_
      exact iteF (ending fun y h => nomatch h)
    | some y =>
      refine iteT ⟨_, rfl, _, rfl, r, _, rfl, .inl (SqL.of hr1), rfl, ivs_flat _, _, rfl, ?_⟩
      have e1 : (if true = true then !inV (oV (some y)) (ivs W) else inV (oV (some y)) (ivs W)) = !decide (y ∈ W) := by
        rw [if_pos rfl]
        exact congrArg _ (inV_ivs y W)
      rw [e1]
      by_cases c : y ∈ W
      · rw [decide_eq_true c]
        refine iteF (ending fun y' h => ?_)
        cases h
        exact c
      · rw [decide_eq_false c]
        refine iteT ⟨_, fun _ _ h => h, ?_⟩
        have hy : y ∈ all ls := by
          obtain ⟨x, e⟩ := path_end_mem hp
          exact said_mem e
        refine ⟨_, rfl, .inl ⟨rfl, _, SqL.of hr1⟩, _, rfl, r, _, _, rfl, rfl, hr1, small (by rw [ivs_len]; omega), ?_⟩
        have s2 : Same H (upd H' r (.lst (ivs W ++ [oV (some y)]))) := same_put s1 hr0
        refine ⟨_, rfl, _, rfl, d, _, rfl, dget1 (Rd.same s2 hd) ((hk y).mpr hy), ?_⟩
        have nd2 : (W ++ [y]).Nodup := List.nodup_append.mpr ⟨nd, by simp, fun a ha b hb => by rw [List.mem_singleton.mp hb]; rintro rfl; exact c ha⟩
        have sub2 : ∀ x ∈ W ++ [y], x ∈ all ls := fun x hx => by
          rcases List.mem_append.mp hx with z | z
          · exact sub x z
          · rw [List.mem_singleton.mp z]; exact hy
        have hlen2 := nd2.length_le_of_subset sub2
        rw [List.length_append] at hlen2
        simp only [List.length_cons, List.length_nil] at hlen2
        refine ⟨(all ls).length + 1 - (W ++ [y]).length, ?_, W ++ [y], said ls y, rfl, rfl, s2, by rw [upd_same, ivs_app]; rfl, hp.snoc, nd2, sub2⟩
        rw [List.length_append]
        simp only [List.length_cons, List.length_nil]
        omega
theorem lead_hit {R : List Nat} {A B : List Letter} {l : Letter} (hA : ∀ a ∈ A, a.id ∉ R) (hl : l.id ∈ R) : lead R (A ++ l :: B) = some l.id := by
  induction A with
  | nil => simp [lead, hl]
  | cons a A ih =>
    have h1 := hA a List.mem_cons_self
    show (if a.id ∈ R then some a.id else lead R (A ++ l :: B)) = _
    rw [if_neg h1]
    exact ih fun x hx => hA x (List.mem_cons_of_mem _ hx)
theorem lead_miss {R : List Nat} {A : List Letter} (hA : ∀ a ∈ A, a.id ∉ R) : lead R A = R.min? := by
  induction A with
  | nil => rfl
  | cons a A ih =>
    have h1 := hA a List.mem_cons_self
    show (if a.id ∈ R then some a.id else lead R A) = _
    rw [if_neg h1]
    exact ih fun x hx => hA x (List.mem_cons_of_mem _ hx)
theorem scFirst : FnScope ["ring", "by_age", "letter"] ["ring", "by_age"] (defScope sFirst) := ⟨rfl, rfl, rfl, by decide +kernel, rfl, by decide +kernel, by decide +kernel⟩
theorem ok_first {f : Addr} {fd : FuncData} (D : Dn K mg "first_on_ring" sFirst ["ring", "by_age"] f fd) (T : Txt K mg C) : FnOk P w K mg base CX0 1 f fd ["ring", "by_age"] (spFirst C) := by
  refine D.F.ok scFirst (fun vs H Q E h => ?_) (fun cdv A outer s H vs Q E hr h => ?_)
  · obtain ⟨r, q, R, us, bs, m, rfl, _⟩ := h
    rfl
  · obtain ⟨r, q, R, us, bs, m, rfl, hr1, hL, hm, k⟩ := h
    refine ⟨_, pss_cons (ps_for PassesOwn.never rfl (pi_list (pv 1)) (pg_name (i := 2) scFirst.nd rfl (Or.inl rfl))
        (pss_one (ps_if (pt_cmpR op_in_seq (pe_fld (pv 2) rfl) (pv 0) rfl) (pss_one (ps_ret (pe_fld (pv 2) rfl))) pss_nil)))
      (pss_one (ps_ret (pe_callB (cr_min rfl) (by rfl) T.min bMin (pa_cons (pv 0) pa_nil)))), ?_⟩
    refine ⟨_, rfl, q, rfl, ⟨_, SqL.of hL.lst⟩, for_list (K := K) (a := q) (xs := us) (fun j σ H' => H' = H ∧ (∃ v, σ = [some (.ref r), some (.ref q), v]) ∧ ∀ l ∈ bs.take j, l.id ∉ R) ⟨rfl, ⟨none, rfl⟩, fun l h => by simp at h⟩ (fun j σ H' _ ⟨e, _⟩ => by rw [e]; exact SqL.of hL.lst) ?_ ?_⟩
    · rintro j x σ H' hj ⟨rfl, ⟨v, rfl⟩, hno⟩
      obtain ⟨a, l, rfl, hlj, ⟨dx, n, o, h1, h2, h3⟩⟩ := hL.get hj
      refine ⟨_, rfl, a, C, dx, _, _, rfl, h1, T.cl, T.nN, lf_number, _, rfl, r, _, rfl, .inl (SqL.of hr1), rfl, ivs_flat _, _, rfl, ?_⟩
      have e1 : (if false = true then !inV (iv l.id) (ivs R) else inV (iv l.id) (ivs R)) = decide (l.id ∈ R) := by
        rw [if_neg Bool.false_ne_true]
        exact inV_ivs _ _
      rw [e1]
      refine ite2 (fun c => ?_) fun c => ?_
      · have c' : l.id ∈ R := by simpa using c
        rw [drop_cons hlj, lead_hit hno c'] at hm
        cases hm
        exact ⟨_, rfl, a, C, dx, _, _, rfl, h1, T.cl, T.nN, lf_number, k⟩
      · have c' : l.id ∉ R := by simpa using c
        refine ⟨rfl, ⟨_, rfl⟩, fun l' hl' => ?_⟩
        rw [take_snoc hlj] at hl'
        rcases List.mem_append.mp hl' with z | z
        · exact hno l' z
        · rw [List.mem_singleton.mp z]; exact c'
    · rintro σ H' ⟨rfl, ⟨v, rfl⟩, hno⟩
      rw [← hL.len, List.take_length] at hno
      rw [lead_miss hno] at hm
      obtain ⟨h1, h2⟩ := List.min?_eq_some_iff.mp hm
      have hR : 0 < R.length := List.length_pos_of_mem h1
      refine ⟨_, rfl, r, R.map fun (n : Nat) => (n : Int), rfl, SqL.of (by rw [hr1, ivs_ints]), by rw [List.length_map]; exact hR, fun m' hm' hle => ?_⟩
      have : m' = (m : Int) := by
        obtain ⟨x, hx, rfl⟩ := List.mem_map.mp hm'
        have g1 := h2 x hx
        have g2 := hle (m : Int) (List.mem_map.mpr ⟨m, h1, rfl⟩)
        omega
      rw [this]
      exact k
end
end TH
set_option Elab.async false
set_option linter.all false
set_option maxRecDepth 100000
set_option maxHeartbeats 2000000
namespace TH
open PySem PySem.Spec PyProof.Rows L2 TM
open PySem.W (CodeHd)
open Ks322 (Letter once find earlier first before named claim said up all ring ahead cut answers table look chain chainOf shownOf shown root okLetters okLetter here)
section
variable {P : Program} {w : World} {K : PySem.W.Frag} {mg : Str → Option Value} {base : Heap} {C : Addr}
theorem lets_upd {H : Hp} {q d : Addr} {us : List V} {bs : List Letter} {o : HO} {kvs : List (Key × V)} (h : LetsAt C H q us bs) (hd : H d = some (.dK kvs)) : LetsAt C (upd H d o) q us bs := by
  refine ⟨by rw [upd_ne (ne_of h.lst hd fun z => nomatch z)]; exact h.lst, Paired.mapP h.all fun l v ⟨a, e, dx, n, o', h1, h2, h3⟩ => ⟨a, e, dx, n, o', ?_, ?_, ?_⟩⟩
  · rw [upd_ne (ne_of h1 hd fun z => nomatch z)]; exact h1
  · rw [upd_ne (ne_of h2 hd fun z => nomatch z)]; exact h2
  · rw [upd_ne (ne_of h3 hd fun z => nomatch z)]; exact h3
theorem scCut : FnScope ["said", "by_age", "answers", "number", "ring", "is_first"] ["said", "by_age"] (defScope sCut) := ⟨rfl, rfl, rfl, by decide +kernel, rfl, by decide +kernel, by decide +kernel⟩
theorem ok_cut {f fR fF : Addr} {fd fdR fdF : FuncData} (D : Dn K mg "cut_rings" sCut ["said", "by_age"] f fd) (T : Txt K mg C) (DR : Dn K mg "ring_through" sRing ["number", "said"] fR fdR) (GR : FnOk P w K mg base CX0 1 fR fdR ["number", "said"] spRing)
    (DF : Dn K mg "first_on_ring" sFirst ["ring", "by_age"] fF fdF) (GF : FnOk P w K mg base CX0 1 fF fdF ["ring", "by_age"] (spFirst C)) : FnOk P w K mg base CX0 2 f fd ["said", "by_age"] (spCut C) := by
  refine D.F.ok scCut (fun vs H Q E h => ?_) (fun cdv A outer s H vs Q E hr h => ?_)
  · obtain ⟨d, q, ks, us, ls, bs, rfl, _⟩ := h
    rfl
  · obtain ⟨d, q, ks, us, ls, bs, rfl, hd, hL, hD, nd, hk, k⟩ := h
    have hu := hu_of hr
    refine ⟨_, pss_cons (ps_set (i := 2) scCut.nd rfl (Or.inl rfl) pe_dnewK)
      (pss_cons (ps_lock (ps_for PassesOwn.never rfl (pi_keys (pv 0)) (pg_name (i := 3) scCut.nd rfl (Or.inl rfl))
        (pss_cons (ps_set (i := 4) scCut.nd rfl (Or.inl rfl) (pe_call GR hr rfl DR.g DR.F.kp DR.b .nil pass0 (pa_cons (pv 3) (pa_cons (pv 0) pa_nil))))
        (pss_cons (ps_set (i := 5) scCut.nd rfl (Or.inl rfl) (pe_and (pe_cmpR op_gt (pe_callB call_len_seq (by rfl) T.len PySem.boot_len (pa_cons (pv 4) pa_nil)) pe_int (nomark _)) (pe_one (pe_cmpR op_eq (pe_call GF hr rfl DF.g DF.F.kp DF.b .nil pass0 (pa_cons (pv 4) (pa_cons (pv 1) pa_nil))) (pv 3) (nomark _)))))
        (pss_one (ps_dput hu (pv 2) (pv 3) (pe_ifExp (pt_val (pv 5)) pe_non (pe_dget hu (pv 0) (pv 3) (fun _ _ => rfl))) rfl))))))
      (pss_one (ps_ret (pv 2)))), ?_⟩
    intro e he
    have ed : d ≠ e := ne_of_none hd he
    refine ⟨d, .dK (fD ks fun i => oV (said ls i)), (by rw [upd_ne ed]; exact hd), trivial, fun od => ?_⟩
    have keepE : ∀ {H' : Hp} {o : HO}, Same (upd H d (.frz od (.dK (fD ks fun i => oV (said ls i))))) H' → Same (upd H d (.frz od (.dK (fD ks fun i => oV (said ls i))))) (upd H' e o) := fun s => same_put s (by rw [upd_ne (Ne.symm ed)]; exact he)
    have hLf := lets_upd (o := .frz od (.dK (fD ks fun i => oV (said ls i)))) hL hd
    have hf : upd H d (.frz od (.dK (fD ks fun i => oV (said ls i)))) d = some (.frz od (.dK (fD ks fun i => oV (said ls i)))) := upd_same
    have back : ∀ {H' : Hp}, Same (upd H d (.frz od (.dK (fD ks fun i => oV (said ls i))))) H' → Same H (upd H' d (.dK (fD ks fun i => oV (said ls i)))) := fun {H'} s b o eb => by
      by_cases c : b = d
      · subst c
        rw [hd] at eb
        cases eb
        exact upd_same
      · rw [upd_ne c]
        exact s b o (by rw [upd_ne c]; exact eb)
    have start0 : Same (upd H d (.frz od (.dK (fD ks fun i => oV (said ls i))))) (upd (upd H e (.dK [])) d (.frz od (.dK (fD ks fun i => oV (said ls i))))) := fun b o eb => by
      by_cases c : b = d
      · subst c
        rw [upd_same] at eb ⊢
        exact eb
      · rw [upd_ne c] at eb ⊢
        rw [upd_ne (ne_of_none eb he)]
        exact eb
    have se : upd (upd H e (.dK [])) d (.frz od (.dK (fD ks fun i => oV (said ls i)))) e = some (.dK (fD [] fun i => oV (answers ls i))) := by rw [upd_ne (Ne.symm ed), upd_same]; rfl
    generalize upd H d (.frz od (.dK (fD ks fun i => oV (said ls i)))) = Hf at keepE hLf hf back start0
    refine ⟨_, rfl, d, od, rfl, .inl ⟨_, upd_same, for_keys (fun j σ H' => (∃ v3 v4 v5, σ = [some (.ref d), some (.ref q), some (.ref e), v3, v4, v5]) ∧ Same Hf H' ∧ H' e = some (.dK (fD (ks.take j) fun i => oV (answers ls i))))
      ⟨⟨none, none, none, rfl⟩, start0, se⟩ (fun j σ H' _ ⟨_, s1, _⟩ => s1 _ _ hf) ?_ ?_⟩⟩
    · rintro j key v σ H' hj ⟨⟨v3, v4, v5, rfl⟩, s1, he1⟩
      obtain ⟨n, hn, rfl, rfl⟩ := fD_get hj
      have hnk : n ∈ ks := List.mem_of_getElem? hn
      have hna : n ∈ all ls := (hk n).mp hnk
      have hnew : n ∉ ks.take j := fun z => by
        obtain ⟨i, hi, e⟩ := List.getElem_of_mem z
        rw [List.length_take] at hi
        rw [List.getElem_take] at e
        have := nd_ix nd (i := i) (j := j) (by rw [List.getElem?_eq_getElem (by omega), e]) hn
        omega
      have hlen : (ks.take j).length < sizeLine := small (Nat.le_trans (List.length_take_le' ..) (Nat.le_trans (hD.keys nd fun i hi => (hk i).mp hi) (by decide)))
      have fin : ∀ {X : Hp}, upd X e (.dK (fD (addK (ks.take j) n) fun i => oV (answers ls i))) e = some (.dK (fD (ks.take (j + 1)) fun i => oV (answers ls i))) := fun {X} => by
        rw [upd_same]
        unfold addK
        rw [if_neg hnew, take_snoc hn]
      refine ⟨_, rfl, _, rfl, n, d, ks, ls, bs, rfl, .inr ⟨od, s1 _ _ hf⟩, hD, hk, hna, fun H2 r R s2 hr2 hR => ?_⟩
      have s12 := s1.trans s2
      have last : ∀ b : Bool, b = cut ls n → sDPut (tVar 2) (tVar 3) (tIf (tB (tVar 5)) (tC .non) (tDGet (tVar 0) (tVar 3))) { nx := fun σ H' => (∃ v3 v4 v5, σ = [some (.ref d), some (.ref q), some (.ref e), v3, v4, v5]) ∧ Same Hf H' ∧ H' e = some (.dK (fD (ks.take (j + 1)) fun i => oV (answers ls i))), rt := fun _ _ => False }
          [some (.ref d), some (.ref q), some (.ref e), some (iv n), some (.ref r), some (.bl b)] H2 := fun b hb => by
        have dp := dput1 (i := n) (g := fun i => oV (answers ls i)) (s2 _ _ he1) hlen
        refine ⟨_, rfl, _, rfl, ?_⟩
        cases b with
        | true =>
          have ea : answers ls n = none := by unfold answers; rw [← hb, if_pos rfl]
          rw [ea] at dp
          exact iteT ⟨_, rfl, _, rfl, e, _, rfl, dp, ⟨_, _, _, rfl⟩, keepE s12, fin⟩
        | false =>
          have ea : answers ls n = said ls n := by unfold answers; rw [← hb, if_neg Bool.false_ne_true]
          rw [ea] at dp
          exact iteF ⟨_, rfl, _, rfl, d, _, rfl, dget1 (.inr ⟨od, s12 _ _ hf⟩) hnk, _, rfl, _, rfl, e, _, rfl, dp, ⟨_, _, _, rfl⟩, keepE s12, fin⟩
      refine ⟨_, rfl, r, _, rfl, .inl (SqL.of hr2), _, _, rfl, rfl, _, rfl, ?_⟩
      rw [ivs_len]
      rcases hR with hR | ⟨rfl, hR⟩
      · have hne : R ≠ [] := hR.path.ne
        have hpos : 0 < R.length := List.length_pos_iff.mpr hne
        refine (if_pos (by simpa using hpos)).mpr ?_
        obtain ⟨m, hm⟩ := lead_some (bs := bs) hne
        refine ⟨_, rfl, _, rfl, r, q, R, us, bs, m, rfl, hr2, (hLf.same s1).same s2, hm, _, rfl, rfl, ?_⟩
        have lc := lead_cut hD.d.aged hD.d.nd hR
        exact last _ (by
          show decide (iv m = iv n) = _
          rw [iv_eq, Bool.eq_iff_iff, lc, hm, decide_eq_true_eq]
          constructor
          · rintro rfl; rfl
          · exact fun z => Option.some.inj z)
      · refine (if_neg (by simp)).mpr ?_
        exact last false (by unfold cut; rw [hR, Bool.false_and])
    · rintro σ H' ⟨⟨v3, v4, v5, rfl⟩, s1, he1⟩
      rw [fD_len, List.take_length] at he1
      refine ⟨s1 _ _ hf, _, rfl, k _ e (back s1) (by rw [upd_ne (Ne.symm ed)]; exact he1)⟩
theorem scAmong : FnScope ["by_age"] ["by_age"] (defScope sAmong) := ⟨rfl, rfl, rfl, by decide +kernel, rfl, by decide +kernel, by decide +kernel⟩
theorem ok_among {f fR fF : Addr} {fd fdR fdF : FuncData} (D : Dn K mg "answers_among" sAmong ["by_age"] f fd) (DR : Dn K mg "said_answers" sSaid ["by_age"] fR fdR) (GR : FnOk P w K mg base CX0 3 fR fdR ["by_age"] (spSaid C))
    (DF : Dn K mg "cut_rings" sCut ["said", "by_age"] fF fdF) (GF : FnOk P w K mg base CX0 2 fF fdF ["said", "by_age"] (spCut C)) : FnOk P w K mg base CX0 4 f fd ["by_age"] (spAmong C) := by
  refine D.F.ok scAmong (fun vs H Q E h => ?_) (fun cdv A outer s H vs Q E hr h => ?_)
  · obtain ⟨q, us, ls, bs, rfl, _⟩ := h
    rfl
  · obtain ⟨q, us, ls, bs, rfl, hL, hD, k⟩ := h
    refine ⟨_, pss_one (ps_ret (pe_call GF (hr.mono (by decide)) rfl DF.g DF.F.kp DF.b .nil pass0 (pa_cons (pe_call GR hr rfl DR.g DR.F.kp DR.b .nil pass0 (pa_cons (pv 0) pa_nil)) (pa_cons (pv 0) pa_nil)))), ?_⟩
    refine ⟨_, rfl, q, us, ls, bs, rfl, hL, hD, fun H1 d ks s1 hd nd hk => ?_⟩
    exact ⟨_, rfl, d, q, ks, us, ls, bs, rfl, hd, hL.same s1, hD, nd, hk, fun H2 e s2 he => k H2 e ks (s1.trans s2) he nd hk⟩
theorem scChain : FnScope ["number", "answers", "chain", "following"] ["number", "answers"] (defScope sChain) := ⟨rfl, rfl, rfl, by decide +kernel, rfl, by decide +kernel, by decide +kernel⟩
theorem ok_chain {f : Addr} {fd : FuncData} (D : Dn K mg "chain_from" sChain ["number", "answers"] f fd) (T : Txt K mg C) : FnOk P w K mg base CX0 1 f fd ["number", "answers"] spChain := by
  refine D.F.ok scChain (fun vs H Q E h => ?_) (fun cdv A outer s H vs Q E hr h => ?_)
  · obtain ⟨i, d, ks, ls, bs, rfl, _⟩ := h
    rfl
  · obtain ⟨i, d, ks, ls, bs, rfl, hd, hD, hk, hi, k⟩ := h
    have hu := hu_of hr
    refine ⟨_, pss_cons (ps_set (i := 2) scChain.nd rfl (Or.inl rfl) (pe_lst (pa_cons (pv 0) pa_nil)))
      (pss_cons (ps_set (i := 3) scChain.nd rfl (Or.inl rfl) (pe_dget hu (pv 1) (pv 0) (fun _ _ => rfl)))
      (pss_cons (ps_while PassesOwn.never (pt_cmp (pc_notN (pv 3)))
        (pss_cons (ps_expr (pe_bm PySem.F.plainAttrs_list PySem.F.slot_list_append PySem.F.type_list_append mt_append (pv 2) (pa_cons (pv 3) pa_nil)))
        (pss_one (ps_set (i := 3) scChain.nd rfl (Or.inl rfl) (pe_dget hu (pv 1) (pv 3) (fun _ _ => rfl))))))
      (pss_one (ps_ret (pv 2))))), ?_⟩
    refine ⟨_, rfl, (by show 1 ≤ sizeLine; decide), fun r hr0 => ?_⟩
    refine ⟨_, rfl, _, rfl, d, _, rfl, dget1 (Rd.same (same_new hr0) hd) ((hk i).mpr hi), ?_⟩
    have hcl := chainOf_len hD.d hi
    have h80 := hD.n
    refine ⟨fun m σ H' => ∃ (W : List Nat) (q : Option Nat), m = (all ls).length + 1 - W.length ∧ σ = [some (iv i), some (.ref d), some (.ref r), some (oV q)] ∧ Same H H' ∧ H' r = some (.lst (ivs W)) ∧ Path (answers ls) i W q,
      ⟨_, [i], answers ls i, rfl, rfl, same_new hr0, upd_same, Path.one⟩, ?_⟩
    rintro m σ H' ⟨W, q, rfl, rfl, s1, hr1, hp⟩
    refine ⟨_, rfl, _, rfl, ?_⟩
    cases q with
    | none =>
      refine iteF ⟨_, rfl, k H' r s1 hr0 ?_⟩
      rw [(chainOf_path hD.d hi).1.same hp]
      exact hr1
    | some y =>
      refine iteT ⟨_, fun _ _ h => h, ?_⟩
      have hy : y ∈ all ls := by
        obtain ⟨x, e⟩ := path_end_mem hp
        exact answers_mem e
      have ec := chainOf_part hD.d hi hp hy
      have hself := (chainOf_path hD.d hy).1.ne
      have hlen : W.length + 1 ≤ (all ls).length := by
        rw [ec, List.length_append] at hcl
        have := List.length_pos_iff.mpr hself
        omega
      refine ⟨_, rfl, .inl ⟨rfl, _, SqL.of hr1⟩, _, rfl, r, _, _, rfl, rfl, hr1, small (by rw [ivs_len]; omega), ?_⟩
      have s2 : Same H (upd H' r (.lst (ivs W ++ [oV (some y)]))) := same_put s1 hr0
      refine ⟨_, rfl, _, rfl, d, _, rfl, dget1 (Rd.same s2 hd) ((hk y).mpr hy), ?_⟩
      refine ⟨(all ls).length + 1 - (W ++ [y]).length, ?_, W ++ [y], answers ls y, rfl, rfl, s2, by rw [upd_same, ivs_app]; rfl, hp.snoc⟩
      rw [List.length_append]
      simp only [List.length_cons, List.length_nil]
      omega
theorem scRoot : FnScope ["number", "answers"] ["number", "answers"] (defScope sRoot) := ⟨rfl, rfl, rfl, by decide +kernel, rfl, by decide +kernel, by decide +kernel⟩
theorem ok_root {f fR : Addr} {fd fdR : FuncData} (D : Dn K mg "first_of_thread" sRoot ["number", "answers"] f fd) (DR : Dn K mg "chain_from" sChain ["number", "answers"] fR fdR) (GR : FnOk P w K mg base CX0 1 fR fdR ["number", "answers"] spChain) :
    FnOk P w K mg base CX0 2 f fd ["number", "answers"] spRoot := by
  refine D.F.ok scRoot (fun vs H Q E h => ?_) (fun cdv A outer s H vs Q E hr h => ?_)
  · obtain ⟨i, d, ks, ls, bs, rfl, _⟩ := h
    rfl
  · obtain ⟨i, d, ks, ls, bs, rfl, hd, hD, hk, hi, k⟩ := h
    refine ⟨_, pss_one (ps_ret (pe_ix ix_list (pe_call GR hr rfl DR.g DR.F.kp DR.b .nil pass0 (pa_cons (pv 0) (pa_cons (pv 1) pa_nil))) (pe_un un_neg pe_int) (fun _ _ => rfl))), ?_⟩
    refine ⟨_, rfl, _, rfl, i, d, ks, ls, bs, rfl, hd, hD, hk, hi, fun H' r s1 _ hr1 => ?_⟩
    obtain ⟨ys, ey⟩ := List.getLast?_eq_some_iff.mp (root_last hD.d hi)
    refine ⟨_, rfl, r, _, _, _, rfl, rfl, SqL.of hr1, ?_, k H' s1⟩
    rw [ey, ivs_app]
    exact atI_last _ _
end
end TH
set_option Elab.async false
set_option linter.all false
set_option maxRecDepth 100000
set_option maxHeartbeats 2000000
namespace TH
open PySem PySem.Spec PyProof.Rows L2 TM
open PySem.W (CodeHd)
open Ks322 (Letter once find earlier first before named claim said up all ring ahead cut answers table look chain chainOf shownOf shown root okLetters okLetter here)
open Ks323 (threads)
def spLatest (C : Addr) : Sp := fun vs H Q _ => ∃ (q e : Addr) (ks : List Nat) (us : List V) (ls bs : List Letter), vs = [.ref q, .ref e] ∧ LetsAt C H q us bs ∧ Rd H e (.dK (fD ks fun i => oV (answers ls i))) ∧ Dk ls bs ∧ (∀ i, i ∈ ks ↔ i ∈ all ls) ∧
  ∀ (H' : Hp) (t : Addr) (rs : List Nat), Same H H' → H' t = some (.dK (fD rs fun r => iv (lt ls r))) → rs.Nodup → (∀ r, r ∈ rs ↔ ∃ l ∈ bs, r = root ls l.id) → Q (.ref t) H'
section
variable {P : Program} {w : World} {K : PySem.W.Frag} {mg : Str → Option Value} {base : Heap} {C : Addr}
theorem scLatest : FnScope ["by_age", "answers", "latest", "letter"] ["by_age", "answers"] (defScope sLatest) := ⟨rfl, rfl, rfl, by decide +kernel, rfl, by decide +kernel, by decide +kernel⟩
theorem ok_latest {f fT : Addr} {fd fdT : FuncData} (D : Dn K mg "latest_times" sLatest ["by_age", "answers"] f fd) (T : Txt K mg C) (DT : Dn K mg "first_of_thread" sRoot ["number", "answers"] fT fdT) (GT : FnOk P w K mg base CX0 2 fT fdT ["number", "answers"] spRoot) :
    FnOk P w K mg base CX0 3 f fd ["by_age", "answers"] (spLatest C) := by
  refine D.F.ok scLatest (fun vs H Q E h => ?_) (fun cdv A outer s H vs Q E hr h => ?_)
  · obtain ⟨q, e, ks, us, ls, bs, rfl, _⟩ := h
    rfl
  · obtain ⟨q, e, ks, us, ls, bs, rfl, hL, he, hD, hk, k⟩ := h
    have hu := hu_of hr
    refine ⟨_, pss_cons (ps_set (i := 2) scLatest.nd rfl (Or.inl rfl) pe_dnewK)
      (pss_cons (ps_for PassesOwn.never rfl (pi_list (pv 0)) (pg_name (i := 3) scLatest.nd rfl (Or.inl rfl))
        (pss_one (ps_dput hu (pv 2) (pe_call GT hr rfl DT.g DT.F.kp DT.b .nil pass0 (pa_cons (pe_fld (pv 3) rfl) (pa_cons (pv 1) pa_nil))) (pe_fld (pv 3) rfl) rfl)))
      (pss_one (ps_ret (pv 2)))), ?_⟩
    intro d hd
    have keep : ∀ {H' : Hp} {o : HO}, Same H H' → Same H (upd H' d o) := fun s => same_put s hd
    refine ⟨_, rfl, q, rfl, ⟨_, SqL.of (same_new hd _ _ hL.lst)⟩, for_list (K := K) (a := q) (xs := us) (fun j σ H' => (∃ v, σ = [some (.ref q), some (.ref e), some (.ref d), v]) ∧ Same H H' ∧ ∃ rs g, H' d = some (.dK (fD rs g)) ∧ rs.Nodup ∧ (∀ r, r ∈ rs ↔ ∃ l ∈ bs.take j, r = root ls l.id) ∧ ∀ r ∈ rs, ∃ A l B, bs.take j = A ++ l :: B ∧ root ls l.id = r ∧ (∀ b ∈ B, root ls b.id ≠ r) ∧ g r = iv l.time)
      ⟨⟨none, rfl⟩, same_new hd, [], fun _ => .non, upd_same, by simp, fun r => by simp, fun r h => by cases h⟩ (fun j σ H' _ ⟨_, s1, _⟩ => SqL.of (s1 _ _ hL.lst)) ?_ ?_⟩
    · rintro j x σ H' hj ⟨⟨v, rfl⟩, s1, rs, g, hd1, nd1, hm1, hg1⟩
      obtain ⟨a, l, rfl, hlj, hA⟩ := hL.get hj
      have hm := List.mem_of_getElem? hlj
      have hll := hD.d.aged.mem.mp hm
      obtain ⟨dx, n, o, h1, h2, h3⟩ := hA.same s1
      have sub : ∀ i ∈ rs, i ∈ all ls := fun i hi => by
        obtain ⟨l', hl', rfl⟩ := (hm1 i).mp hi
        exact shown_all hD.d (root_shown hD.d (shown_here hD.d (hD.d.aged.mem.mp (List.mem_of_mem_take hl'))))
      refine ⟨_, rfl, a, C, dx, _, _, rfl, h1, T.cl, T.nW, lf_written, _, rfl, ?_⟩
      refine ⟨_, rfl, a, C, dx, _, _, rfl, h1, T.cl, T.nN, lf_number, _, rfl, l.id, e, ks, ls, bs, rfl, Rd.same s1 he, hD, hk, id_mem hll, fun H2 s2 => ?_⟩
      refine ⟨d, _, rfl, dput (i := root ls l.id) (s2 _ _ hd1) (small (Nat.le_trans (hD.keys nd1 sub) (by decide))), ⟨_, rfl⟩, keep (s1.trans s2), addK rs (root ls l.id), _, upd_same, addK_nd nd1, fun r => ?_, fun r hr' => ?_⟩
      · rw [addK_mem, hm1, take_snoc hlj]
        constructor
        · rintro (⟨l', hl', z⟩ | z)
          · exact ⟨l', List.mem_append_left _ hl', z⟩
          · exact ⟨l, by simp, z⟩
        · rintro ⟨l', hl', z⟩
          rcases List.mem_append.mp hl' with y | y
          · exact .inl ⟨l', y, z⟩
          · rw [List.mem_singleton.mp y] at z
            exact .inr z
      · by_cases c : r = root ls l.id
        · subst c
          exact ⟨bs.take j, l, [], take_snoc hlj, rfl, (fun b hb => by cases hb), if_pos rfl⟩
        · have hr2 : r ∈ rs := (addK_mem.mp hr').resolve_right c
          obtain ⟨A', l', B', e1, e2, e3, e4⟩ := hg1 r hr2
          refine ⟨A', l', B' ++ [l], ?_, e2, fun b hb => ?_, (if_neg c).trans e4⟩
          · rw [take_snoc hlj, e1, List.append_assoc]
            rfl
          · rcases List.mem_append.mp hb with z | z
            · exact e3 b z
            · rw [List.mem_singleton.mp z]
              exact fun y => c y.symm
    · rintro σ H' ⟨⟨v, rfl⟩, s1, rs, g, hd1, nd1, hm1, hg1⟩
      rw [← hL.len, List.take_length] at hm1 hg1
      refine ⟨_, rfl, k H' d rs s1 ?_ nd1 hm1⟩
      rw [hd1]
      congr 2
      refine fD_congr fun r hr' => ?_
      obtain ⟨A', l', B', e1, e2, e3, e4⟩ := hg1 r hr'
      rw [e4]
      subst e2
      rw [lt_last hD.d e1 e3]
end
end TH
set_option Elab.async false
set_option linter.all false
set_option maxRecDepth 100000
set_option maxHeartbeats 2000000
namespace TH
open PySem PySem.Spec PyProof.Rows L2 TM
open PySem.W (CodeHd)
open Ks322 (Letter once find earlier first before named claim said up all ring ahead cut answers table look chain chainOf shownOf shown root okLetters okLetter here)
open Ks323 (threads)
/-- what the two calls are handed -/
theorem rd_refs {ns : List Nat} : ∀ {n : Nat} {l : List Nat}, l.length ≤ 1000 → (∀ x ∈ Ks323Neutral.letters n l, x.refs.length ≤ 1000) ∧ (Ks323Neutral.letters n l).length ≤ l.length
  | 0, l, _ => ⟨fun x h => (by cases h), Nat.zero_le _⟩
  | n + 1, [], _ => ⟨fun x h => (by cases h), Nat.zero_le _⟩
  | n + 1, [_], _ => ⟨fun x h => (by cases h), Nat.zero_le _⟩
  | n + 1, [_, _], _ => ⟨fun x h => (by cases h), Nat.zero_le _⟩
  | n + 1, i :: t :: k :: r, h => by
    simp only [List.length_cons] at h
    have ih := rd_refs (ns := ns) (n := n) (l := r.drop k) (by rw [List.length_drop]; omega)
    show (∀ x ∈ (⟨i, t, r.take k⟩ : Letter) :: Ks323Neutral.letters n (r.drop k), _) ∧ ((⟨i, t, r.take k⟩ : Letter) :: Ks323Neutral.letters n (r.drop k)).length ≤ _
    refine ⟨fun x hx => ?_, ?_⟩
    · rcases List.mem_cons.mp hx with rfl | hx
      · show (r.take k).length ≤ 1000
        rw [List.length_take]
        omega
      · exact ih.1 x hx
    · have := ih.2
      rw [List.length_drop] at this
      simp only [List.length_cons]
      omega
theorem dk_of {ls bs : List Letter} (h : okLetters ls = true) (A : Aged ls bs) : Dk ls bs := by
  obtain ⟨h1, h2, h3⟩ := okLetters_iff.mp h
  refine ⟨⟨A, h3⟩, all_len h, by rw [A.perm.length_eq]; exact h1, fun l hl => (okLetter_iff.mp (h2 l (A.mem.mp hl))).2.1⟩
theorem ivs_perm {l : List Nat} {ys : List V} (h : ys.Perm (ivs l)) : ∃ m, ys = ivs m ∧ m.Perm l := by
  have base : ∀ l : List Nat, Paired (fun (n : Nat) (v : V) => v = iv n) l (ivs l) := fun l => by
    induction l with
    | nil => exact .nil
    | cons a l ih => exact .cons rfl ih
  obtain ⟨m, h1, h2⟩ := paired_perm (R := fun (n : Nat) (v : V) => v = iv n) h (base l)
  refine ⟨m, ?_, h1⟩
  clear h h1
  induction h2 with
  | nil => rfl
  | cons r t ih => rw [r, ih]; rfl
theorem lookup_one {α : Type} {x y : Str} {a c : α} (h : List.lookup y [(x, a)] = some c) : y = x ∧ a = c := by
  rw [List.lookup_cons] at h
  cases q : y == x with
  | true =>
    rw [q] at h
    exact ⟨eq_of_beq q, Option.some.inj h⟩
  | false =>
    rw [q] at h
    cases h
/-- where the lambda of the fifth statement stands -/
def lamPos5 (s : Stmt) : Pos := match (defBody s).getD 4 (.Pass ⟨0, 0, 0, 0⟩) with
  | .Assign _ (.Call _ _ [⟨_, .Lambda _ _ _ p, _⟩] _) _ => p
  | _ => ⟨0, 0, 0, 0⟩
def eThreads (P : Addr) : TabE := ⟨P, lamPos5 sThreads, "threads.<locals>.<lambda>"⟩
noncomputable def kfR (ls : List Letter) (v : V) : Int × Int := match v with
  | .int i => (-(lt ls i.toNat : Int), i)
  | _ => (0, 0)
theorem kfR_iv (ls : List Letter) (n : Nat) : kfR ls (iv n) = (-(lt ls n : Int), (n : Int)) := rfl
theorem keys_ivs (rs : List Nat) (g : Nat → V) : keysV (fD rs g) = ivs rs := by
  unfold keysV fD ivs
  rw [List.map_map]
  rfl
/-- the answer of threads -/
def dueS (ls : List Letter) : List Int := if okLetters ls = false then [-22] else (((threads ls).length : Int) :: (threads ls).map fun (n : Nat) => (n : Int))
def spThreads (K : PySem.W.Frag) (L : List TabE) : Sp := fun vs H Q _ => ∃ (a : Addr) (ns : List Nat), vs = [.ref a] ∧ SqL K H a (ivs ns) ∧ TM.OK ns = true ∧ ns.length ≤ 1000 ∧ Tabs L H ∧
  ∀ (H' : Hp) (p : Addr), H' p = some (.lst ((dueS (RD ns)).map V.int)) → Q (.ref p) H'
section
variable {P : Program} {w : World} {K : PySem.W.Frag} {mg : Str → Option Value} {base : Heap} {C : Addr}
theorem scThreads : FnScope ["letters", "read", "by_age", "latest", "firsts"] ["letters"] (defScope sThreads) := ⟨rfl, rfl, rfl, by decide +kernel, rfl, by decide +kernel, by decide +kernel⟩
theorem ok_threads {f c Pt f1 f2 f3 f4 f5 : Addr} {fd d1 d2 d3 d4 d5 : FuncData} {L : List TabE} (D : Dn K mg "threads" sThreads ["letters"] f fd) (hcd : fd.code = .ref c) (T : Txt K mg C) (BM : BMain mg base) (hC : CodeHd base c Pt) (hLt : eThreads Pt ∈ L)
    (D1 : Dn K mg "read_letters" sRead ["letters"] f1 d1) (G1 : FnOk P w K mg base CX0 3 f1 d1 ["letters"] (spRead K C))
    (D2 : Dn K mg "are_letters_allowed" sAre ["read"] f2 d2) (G2 : FnOk P w K mg base CX0 3 f2 d2 ["read"] (spAre C))
    (D3 : Dn K mg "earliest_first" sEarly ["read"] f3 d3) (G3 : FnOk P w K mg base CX0 1 f3 d3 ["read"] (spEarly L C))
    (D4 : Dn K mg "answers_among" sAmong ["by_age"] f4 d4) (G4 : FnOk P w K mg base CX0 4 f4 d4 ["by_age"] (spAmong C))
    (D5 : Dn K mg "latest_times" sLatest ["by_age", "answers"] f5 d5) (G5 : FnOk P w K mg base CX0 3 f5 d5 ["by_age", "answers"] (spLatest C)) :
    FnOk P w K mg base CX0 5 f fd ["letters"] (spThreads K L) := by
  refine D.F.okC hcd scThreads (fun vs H Q E h => ?_) (fun A outer s H vs Q E hr h => ?_)
  · obtain ⟨a, ns, rfl, _⟩ := h
    rfl
  · obtain ⟨a, ns, rfl, ha, hok, hlen, hT, k⟩ := h
    have hu := hu_of hr
    obtain ⟨t1, g1⟩ := T.refused
    have r3 : Room 3 _ := hr.mono (by decide)
    have r1 : Room 1 _ := hr.mono (by decide)
    refine ⟨_, pss_cons (ps_set (i := 1) scThreads.nd rfl (Or.inl rfl) (pe_call G1 r3 rfl D1.g D1.F.kp D1.b .nil pass0 (pa_cons (pv 0) pa_nil)))
      (pss_cons (ps_if (pt_not (pt_val (pe_call G2 r3 rfl D2.g D2.F.kp D2.b .nil pass0 (pa_cons (pv 1) pa_nil)))) (pss_one (ps_ret (pe_lst (pa_cons (pe_glob (v := .int (-22)) rfl g1 ⟨t1, rfl⟩) pa_nil)))) pss_nil)
      (pss_cons (ps_set (i := 2) scThreads.nd rfl (Or.inl rfl) (pe_call G3 r1 rfl D3.g D3.F.kp D3.b .nil pass0 (pa_cons (pv 1) pa_nil)))
      (pss_cons (ps_set (i := 3) scThreads.nd rfl (Or.inr rfl) (pe_call G5 r3 rfl D5.g D5.F.kp D5.b .nil pass0 (pa_cons (pv 2) (pa_cons (pe_call G4 hr rfl D4.g D4.F.kp D4.b .nil pass0 (pa_cons (pv 2) pa_nil)) pa_nil))))
      (pss_cons (ps_set (i := 4) scThreads.nd rfl (Or.inl rfl) (pe_sortKeyD (L := L) (ent := eThreads Pt) (x := "first") (ys := ["latest"]) (fv := [3]) (tb := tTup (tCons (tUn (rU fun i => .int (-i)) (tDGet (tVar 1) (tVar 0))) (tCons (tVar 0) tNil))) hr.hd hr.depth BM hLt rfl rfl hC rfl rfl
        ⟨rfl, rfl, rfl, by decide +kernel, by rfl, by decide +kernel, fun _ _ _ _ _ => rfl, (fun y c h => ?_), (fun y h => ?_), (fun y h => ?_), (fun y h => ?_)⟩ (.cons rfl .nil)
        (fun _ _ _ _ => pe_tup (pa_cons (pe_un un_neg (pe_dget (by have := hr.un; show (A.deeper (envOfC "threads" (defScope sThreads) s.heap.objs.size f (.ref c))).units + 1 + 1 + 3 + 1 < cLine; omega) (pv 1) (pv 0) (fun _ _ => rfl))) (pa_cons (pv 0) pa_nil))) (pv 3) rfl T.sorted bSorted))
      (pss_one (ps_ret (pe_op op_cat (pe_lst (pa_cons (pe_callB call_len_seq (by rfl) T.len PySem.boot_len (pa_cons (pv 4) pa_nil)) pa_nil)) (pv 4)))))))), ?_⟩
    · obtain ⟨rfl, rfl⟩ := lookup_one h
      rfl
    · have q := PySem.mem_of_lookup h
      simp at q
      subst q
      exact ⟨_, rfl⟩
    · rw [List.mem_singleton.mp h]
      rfl
    · rw [List.mem_singleton.mp h]
      rfl
    obtain ⟨hrefs, hcnt⟩ := rd_refs (ns := ns) (n := ns.length + 1) (l := ns) hlen
    have hrefs : ∀ l ∈ RD ns, l.refs.length ≤ 1000 := hrefs
    have hcnt : (RD ns).length ≤ ns.length := hcnt
    refine ⟨_, rfl, a, ns, rfl, ha, hok, hlen, fun H1 p us s1 hL => ?_⟩
    generalize RD ns = ls at hL hrefs hcnt k
    refine ⟨_, rfl, p, us, ls, rfl, hL, by omega, hrefs, fun H2 s2 => ⟨_, rfl, ?_⟩⟩
    unfold dueS at k
    cases hokl : okLetters ls with
    | false =>
      rw [if_pos hokl] at k
      exact iteT ⟨(by show 1 ≤ sizeLine; decide), fun q hq => k _ q (by rw [upd_same]; rfl)⟩
    | true =>
      rw [if_neg (by rw [hokl]; simp)] at k
      refine iteF ?_
      have hL2 := hL.same s2
      have hT2 : Tabs L H2 := (Same.gr (s1.trans s2)).t hT
      refine ⟨_, rfl, p, us, ls, rfl, hL2, hT2, (okLetters_iff.mp hokl).2.2, fun H3 q us' bs g3 hL3 hA => ?_⟩
      have hD := dk_of hokl hA
      have hT3 := g3.t hT2
      refine ⟨_, rfl, _, rfl, q, us', ls, bs, rfl, hL3, hD, fun H4 e ks s4 he nk hk => ?_⟩
      have hL4 := hL3.same s4
      refine ⟨q, e, ks, us', ls, bs, rfl, hL4, .inl he, hD, hk, fun H5 t rs s5 ht nr hm => ?_⟩
      have hT5 : Tabs L H5 := (Same.gr (s4.trans s5)).t hT3
      refine ⟨_, rfl, t, _, [.ref t], kfR ls, rfl, .inl ht, hT5, .cons rfl .nil, fun x hx H6 g6 => ?_, fun H6 r ys g6 hr0 hr1 hp hw => ?_⟩
      · rw [keys_ivs] at hx
        obtain ⟨n, hn, rfl⟩ := List.mem_map.mp hx
        refine ⟨_, rfl, _, rfl, t, _, rfl, dget1 (.inl (g6.dK ht)) hn, _, rfl, _, rfl, (by show 2 ≤ sizeLine; decide), fun p hp => ⟨p, rfl, ?_, same_new hp⟩⟩
        rw [upd_same, kfR_iv]
      · rw [keys_ivs] at hp
        obtain ⟨m, rfl, hm2⟩ := ivs_perm hp
        have ho : m.Pairwise (Lr (lt ls)) := by
          have := List.pairwise_map.mp hw
          refine this.imp fun {a b} h => ?_
          rw [kfR_iv, kfR_iv] at h
          unfold Lx at h
          unfold Lr
          simp only at h
          omega
        have em := threads_is hD.d nr hm hm2 ho
        have l80 : m.length ≤ 80 := by
          rw [hm2.length_eq]
          refine hD.keys nr fun i hi => ?_
          obtain ⟨l, hl, rfl⟩ := (hm i).mp hi
          exact shown_all hD.d (root_shown hD.d (shown_here hD.d (hD.d.aged.mem.mp hl)))
        refine ⟨_, rfl, r, _, rfl, .inl (SqL.of hr1), (by show 1 ≤ sizeLine; decide), fun b hb => ?_⟩
        have nb : r ≠ b := ne_of_none hr1 hb
        refine ⟨_, rfl, b, r, _, _, rfl, rfl, upd_same, by rw [upd_ne nb]; exact hr1, ?_, fun z hz => k _ z ?_⟩
        · rw [ivs_len]
          exact Nat.le_of_lt (small (by simp only [List.length_cons, List.length_nil]; omega))
        · rw [upd_same, ← em, ivs_len, ivs_ints]
          rfl
end
end TH
set_option Elab.async false
set_option linter.all false
set_option maxRecDepth 100000
set_option maxHeartbeats 2000000
namespace TH
open PySem PySem.Spec PyProof.Rows L2 TM
open PySem.W (Codec)
open Ks322 (Letter okLetters shown root)
theorem threads_due (l : List Int) : PyKs323.threads l = dueS (RD (l.map Int.toNat)) := by
  have e1 : PyKs323.threads l = (Ks323.answer (.threads (RD (l.map Int.toNat)))).ret :: (Ks323.answer (.threads (RD (l.map Int.toNat)))).out.map Int.ofNat := rfl
  rw [e1]
  generalize RD (l.map Int.toNat) = ls
  unfold dueS
  show (if okLetters ls = false then Ks323.no (-22) else { ret := (Ks323.threads ls).length, out := Ks323.threads ls : Ks323.Ans }).ret :: (if okLetters ls = false then Ks323.no (-22) else { ret := (Ks323.threads ls).length, out := Ks323.threads ls : Ks323.Ans }).out.map Int.ofNat = _
  by_cases h : okLetters ls = false
  · rw [if_pos h, if_pos h]; rfl
  · rw [if_neg h, if_neg h]; rfl
theorem asked_ok {l : List Int} (h : PyKs323.threads_asked l = true) : TM.OK (l.map Int.toNat) = true := by
  have h : (Ks323Neutral.asked1 [[2], l] && Ks323Neutral.form [[2], l]) = true := h
  rw [Bool.and_eq_true] at h
  have h2 := h.2
  unfold Ks323Neutral.form at h2
  rw [Bool.and_eq_true] at h2
  exact h2.2
theorem ints_ivs {l : List Int} (h : ∀ z ∈ l, 0 ≤ z) : l.map V.int = ivs (l.map Int.toNat) := by
  unfold ivs
  rw [List.map_map]
  refine List.map_congr_left fun z hz => ?_
  have := h z hz
  show V.int z = V.int ((z.toNat : Nat) : Int)
  rw [Int.toNat_of_nonneg this]
theorem tabs_two {H : Hp} {e1 e2 : TabE} (h1 : H e1.P = some (.tbl #[])) (h2 : H e2.P = some (.tbl #[])) (ne : e1.P ≠ e2.P) : Tabs [e1, e2] H := by
  refine ⟨fun e he => ?_, fun e he e' he' q => ?_⟩
  · rcases List.mem_cons.mp he with rfl | he
    · exact ⟨#[], h1, trivial, .inl rfl⟩
    · rw [List.mem_singleton.mp he]
      exact ⟨#[], h2, trivial, .inl rfl⟩
  · rcases List.mem_cons.mp he with rfl | he
    · rcases List.mem_cons.mp he' with rfl | he'
      · rfl
      · rw [List.mem_singleton.mp he'] at q
        exact absurd q ne
    · rw [List.mem_singleton.mp he] at q ⊢
      rcases List.mem_cons.mp he' with rfl | he'
      · exact absurd q.symm ne
      · rw [List.mem_singleton.mp he']
theorem due_b {K : PySem.W.Frag} {H : Hp} {xs : List V} {L : List TabE} {a : Codec.denoteAll PySem.Challenge.rw_letterthreadsdesk_s02_threads.args} (hwi : Codec.withinAll PySem.Challenge.rw_letterthreadsdesk_s02_threads.args a = true)
    (hask : Codec.app PySem.Challenge.rw_letterthreadsdesk_s02_threads.args PySem.Challenge.rw_letterthreadsdesk_s02_threads.asked a = true) (hx : DwAll K H xs (Codec.encAll PySem.Challenge.rw_letterthreadsdesk_s02_threads.args a)) (hT : Tabs L H) :
    spThreads K L xs H (fun v H' => Dw K H' v (PySem.Challenge.rw_letterthreadsdesk_s02_threads.ret.enc (Codec.app PySem.Challenge.rw_letterthreadsdesk_s02_threads.args PySem.Challenge.rw_letterthreadsdesk_s02_threads.f a))) fun _ _ _ => False := by
  obtain ⟨l, u⟩ := a
  cases hx with
  | cons h1 h2 =>
    cases h2
    cases h1 with
    | lst hs ha =>
      have e := L2.ints_dw l _ ha
      subst e
      have q : ((Codec.inLen 0 1000 l && l.all (Codec.inInt 0 4294967295)) && true) = true := hwi
      rw [Bool.and_eq_true, Bool.and_eq_true] at q
      have hl : ∀ z ∈ l, 0 ≤ z := fun z hz => (Codec.inInt_iff.mp (List.all_eq_true.mp q.1.2 z hz)).1
      have hlen : l.length ≤ 1000 := (Codec.inNat_iff.mp q.1.1).2
      have hok := asked_ok (show PyKs323.threads_asked l = true from hask)
      rename_i aa
      refine ⟨aa, l.map Int.toNat, rfl, ?_, hok, by rw [List.length_map]; exact hlen, hT, fun H' p hp => ?_⟩
      · rw [← ints_ivs hl]
        exact hs
      · rw [← threads_due] at hp
        exact .lst (L2.SqL.of hp) (L2.dw_ints _)
end TH
set_option Elab.async false
set_option linter.all false
set_option maxRecDepth 100000
set_option maxHeartbeats 2000000

/-! ### what the top has written -/
namespace TH
open PySem PySem.Spec PyProof.Rows L2 TM
open PySem.W (CodeHd tabObj)
abbrev Bnd (x : Str) (st : Stmt) (ps : List Str) : Prop := ∀ (kV doc pm : Value) (an : Option Addr) (cdv ct : Value) (us : List Value), us.length = ps.length → bindArgs (PySem.W.fnOf x x (defArgs st) (defBody st) (defScope st) .none kV doc pm an cdv ct) ⟨us, []⟩ = pure (ps.zip us)
section
variable {K : PySem.W.Frag} {h : Heap} {mg mb : Str → Option Value}
theorem dn_mk {x : Str} {st : Stmt} {ps : List Str} {f : Addr} {oc : Value} {od an : Option Addr} {osl : Array (Option Value)} {kV doc pm cdv ct : Value} (X : K.In h) (G : h.Ns mainGlobals mg) (a : PySem.W.nsIn K mainGlobals x = some (some (.ref f)))
    (l : K.lookup f = some ⟨oc, od, .func (PySem.W.fnOf x x (defArgs st) (defBody st) (defScope st) .none kV doc pm an cdv ct), osl⟩) (c : PySem.W.codeIn K cdv x = true) (k : PySem.W.keepIn K (.ref f) = true) (b : Bnd x st ps) :
    Dn K mg x st ps f (PySem.W.fnOf x x (defArgs st) (defBody st) (defScope st) .none kV doc pm an cdv ct) :=
  ⟨fun_mk l c k, (fun_mk l c k).binds b, PySem.W.mg_of X G a⟩
theorem tb_mk {x : Str} {st : Stmt} {f c Pt : Addr} {oc oc' : Value} {od an od' : Option Addr} {osl osl' : Array (Option Value)} {kV doc pm ct : Value} {vs : Array Value} {q : Program} {loose : List Str} {mean : ExcName → Option Value} (X : K.In h) (T : Top q loose mean mg mb h) (a : PySem.W.nsIn K mainGlobals x = some (some (.ref f)))
    (l : K.lookup f = some ⟨oc, od, .func (PySem.W.fnOf x x (defArgs st) (defBody st) (defScope st) .none kV doc pm an (.ref c) ct), osl⟩) (lc : K.lookup c = some ⟨oc', od', .fields vs, osl'⟩) (hv : vs[11]? = some (.ref Pt)) (hr : ((recsOf q).find? fun e => e.name == x).isSome = true) : CodeHd h c Pt ∧ h.get? Pt = some (tabObj #[]) := by
  obtain ⟨d, hd⟩ := Option.isSome_iff_exists.mp hr
  refine PySem.W.tab_of T X hd ?_
  unfold PySem.W.tabIn
  rw [a]
  simp only [l, lc, hv]
theorem b_sRead : Bnd "read_letters" sRead ["letters"] := fun _ _ _ _ _ _ us hl => match us, hl with | [_], _ => rfl
theorem b_sIsNum : Bnd "is_number" sIsNum ["value"] := fun _ _ _ _ _ _ us hl => match us, hl with | [_], _ => rfl
theorem b_sIsLet : Bnd "is_letter_allowed" sIsLet ["letter"] := fun _ _ _ _ _ _ us hl => match us, hl with | [_], _ => rfl
theorem b_sAre : Bnd "are_letters_allowed" sAre ["read"] := fun _ _ _ _ _ _ us hl => match us, hl with | [_], _ => rfl
theorem b_sEarly : Bnd "earliest_first" sEarly ["read"] := fun _ _ _ _ _ _ us hl => match us, hl with | [_], _ => rfl
theorem b_sTold : Bnd "told_by_letter" sTold ["number", "letter"] := fun _ _ _ _ _ _ us hl => match us, hl with | [_, _], _ => rfl
theorem b_sLack : Bnd "told_of_lacking" sLack ["number", "by_age"] := fun _ _ _ _ _ _ us hl => match us, hl with | [_, _], _ => rfl
theorem b_sSaid : Bnd "said_answers" sSaid ["by_age"] := fun _ _ _ _ _ _ us hl => match us, hl with | [_], _ => rfl
theorem b_sRing : Bnd "ring_through" sRing ["number", "said"] := fun _ _ _ _ _ _ us hl => match us, hl with | [_, _], _ => rfl
theorem b_sFirst : Bnd "first_on_ring" sFirst ["ring", "by_age"] := fun _ _ _ _ _ _ us hl => match us, hl with | [_, _], _ => rfl
theorem b_sCut : Bnd "cut_rings" sCut ["said", "by_age"] := fun _ _ _ _ _ _ us hl => match us, hl with | [_, _], _ => rfl
theorem b_sAmong : Bnd "answers_among" sAmong ["by_age"] := fun _ _ _ _ _ _ us hl => match us, hl with | [_], _ => rfl
theorem b_sChain : Bnd "chain_from" sChain ["number", "answers"] := fun _ _ _ _ _ _ us hl => match us, hl with | [_, _], _ => rfl
theorem b_sRoot : Bnd "first_of_thread" sRoot ["number", "answers"] := fun _ _ _ _ _ _ us hl => match us, hl with | [_, _], _ => rfl
theorem b_sLatest : Bnd "latest_times" sLatest ["by_age", "answers"] := fun _ _ _ _ _ _ us hl => match us, hl with | [_, _], _ => rfl
theorem b_sThreads : Bnd "threads" sThreads ["letters"] := fun _ _ _ _ _ _ us hl => match us, hl with | [_], _ => rfl
theorem b_sInit (kV doc pm : Value) (an : Option Addr) (cdv ct : Value) (us : List Value) (hl : us.length = (["self", "number", "written", "named"] : List Str).length) : bindArgs (PySem.W.fnOf "__init__" "Letter.__init__" (defArgs sInit) (defBody sInit) (defScope sInit) .none kV doc pm an cdv ct) ⟨us, []⟩ = pure ((["self", "number", "written", "named"] : List Str).zip us) := match us, hl with | [_, _, _, _], _ => rfl
theorem all_mk {P : Program} {w : World} {q : Program} {loose : List Str} {mean : ExcName → Option Value} {fa C f0 : Addr} {od0 an0 : Option Addr} {sl0 : Array (Option Value)} {oc0 kV0 dc0 pm0 cd0 ct0 : Value}
    {f1 : Addr} {od1 an1 : Option Addr} {sl1 : Array (Option Value)} {oc1 kV1 dc1 pm1 cd1 ct1 : Value}
    {f2 : Addr} {od2 an2 : Option Addr} {sl2 : Array (Option Value)} {oc2 kV2 dc2 pm2 cd2 ct2 : Value}
    {f3 : Addr} {od3 an3 : Option Addr} {sl3 : Array (Option Value)} {oc3 kV3 dc3 pm3 cd3 ct3 : Value}
    {f4 : Addr} {od4 an4 : Option Addr} {sl4 : Array (Option Value)} {oc4 kV4 dc4 pm4 cd4 ct4 : Value}
    {f5 cc5 Pt5 : Addr} {od5 an5 odd5 : Option Addr} {sl5 sll5 : Array (Option Value)} {oc5 occ5 kV5 dc5 pm5 ct5 : Value} {vs5 : Array Value}
    {f6 : Addr} {od6 an6 : Option Addr} {sl6 : Array (Option Value)} {oc6 kV6 dc6 pm6 cd6 ct6 : Value}
    {f7 : Addr} {od7 an7 : Option Addr} {sl7 : Array (Option Value)} {oc7 kV7 dc7 pm7 cd7 ct7 : Value}
    {f8 : Addr} {od8 an8 : Option Addr} {sl8 : Array (Option Value)} {oc8 kV8 dc8 pm8 cd8 ct8 : Value}
    {f9 : Addr} {od9 an9 : Option Addr} {sl9 : Array (Option Value)} {oc9 kV9 dc9 pm9 cd9 ct9 : Value}
    {f10 : Addr} {od10 an10 : Option Addr} {sl10 : Array (Option Value)} {oc10 kV10 dc10 pm10 cd10 ct10 : Value}
    {f11 : Addr} {od11 an11 : Option Addr} {sl11 : Array (Option Value)} {oc11 kV11 dc11 pm11 cd11 ct11 : Value}
    {f12 : Addr} {od12 an12 : Option Addr} {sl12 : Array (Option Value)} {oc12 kV12 dc12 pm12 cd12 ct12 : Value}
    {f13 : Addr} {od13 an13 : Option Addr} {sl13 : Array (Option Value)} {oc13 kV13 dc13 pm13 cd13 ct13 : Value}
    {f14 : Addr} {od14 an14 : Option Addr} {sl14 : Array (Option Value)} {oc14 kV14 dc14 pm14 cd14 ct14 : Value}
    {f15 : Addr} {od15 an15 : Option Addr} {sl15 : Array (Option Value)} {oc15 kV15 dc15 pm15 cd15 ct15 : Value}
    {f16 cc16 Pt16 : Addr} {od16 an16 odd16 : Option Addr} {sl16 sll16 : Array (Option Value)} {oc16 occ16 kV16 dc16 pm16 ct16 : Value} {vs16 : Array Value}
    {tMOST_LETTERS : Tok} {tMOST_NAMED : Tok} {tLEAST_NUMBER : Tok} {tGREATEST_NUMBER : Tok} {tLETTERS_REFUSED : Tok}
    (Tp : Top q loose mean mg mb h) (X : K.In h) (G : h.Ns mainGlobals mg) (hfa : mg "threads" = some (.ref fa))
    (aC : PySem.W.nsIn K mainGlobals "Letter" = some (some (.ref C)))
    (pg : PySem.W.plainGet K C Str.empty = true) (hd : PySem.W.hasDictIn K C = true) (po : PySem.W.plainOver K C = true) (sa : PySem.W.findIn K (.ref C) "__setattr__" = some (some (.builtin "object.__setattr__"))) (mk : PySem.W.makesIn K C = true) (kc : PySem.W.keepIn K (.ref C) = true)
    (nN : PySem.W.findIn K (.ref C) "number" = some none) (nW : PySem.W.findIn K (.ref C) "written" = some none) (nM : PySem.W.findIn K (.ref C) "named" = some none) (nO : PySem.W.findIn K (.ref C) "others" = some none)
    (a0 : PySem.W.findIn K (.ref C) "__init__" = some (some (.ref f0))) (i0 : PySem.W.isFn K (.ref f0) = true) (l0 : K.lookup f0 = some ⟨oc0, od0, .func (PySem.W.fnOf "__init__" "Letter.__init__" (defArgs sInit) (defBody sInit) (defScope sInit) .none kV0 dc0 pm0 an0 cd0 ct0), sl0⟩) (c0 : PySem.W.codeIn K cd0 "Letter.__init__" = true) (k0 : PySem.W.keepIn K (.ref f0) = true)
    (a1 : PySem.W.nsIn K mainGlobals "read_letters" = some (some (.ref f1))) (l1 : K.lookup f1 = some ⟨oc1, od1, .func (PySem.W.fnOf "read_letters" "read_letters" (defArgs sRead) (defBody sRead) (defScope sRead) .none kV1 dc1 pm1 an1 cd1 ct1), sl1⟩) (c1 : PySem.W.codeIn K cd1 "read_letters" = true) (k1 : PySem.W.keepIn K (.ref f1) = true)
    (a2 : PySem.W.nsIn K mainGlobals "is_number" = some (some (.ref f2))) (l2 : K.lookup f2 = some ⟨oc2, od2, .func (PySem.W.fnOf "is_number" "is_number" (defArgs sIsNum) (defBody sIsNum) (defScope sIsNum) .none kV2 dc2 pm2 an2 cd2 ct2), sl2⟩) (c2 : PySem.W.codeIn K cd2 "is_number" = true) (k2 : PySem.W.keepIn K (.ref f2) = true)
    (a3 : PySem.W.nsIn K mainGlobals "is_letter_allowed" = some (some (.ref f3))) (l3 : K.lookup f3 = some ⟨oc3, od3, .func (PySem.W.fnOf "is_letter_allowed" "is_letter_allowed" (defArgs sIsLet) (defBody sIsLet) (defScope sIsLet) .none kV3 dc3 pm3 an3 cd3 ct3), sl3⟩) (c3 : PySem.W.codeIn K cd3 "is_letter_allowed" = true) (k3 : PySem.W.keepIn K (.ref f3) = true)
    (a4 : PySem.W.nsIn K mainGlobals "are_letters_allowed" = some (some (.ref f4))) (l4 : K.lookup f4 = some ⟨oc4, od4, .func (PySem.W.fnOf "are_letters_allowed" "are_letters_allowed" (defArgs sAre) (defBody sAre) (defScope sAre) .none kV4 dc4 pm4 an4 cd4 ct4), sl4⟩) (c4 : PySem.W.codeIn K cd4 "are_letters_allowed" = true) (k4 : PySem.W.keepIn K (.ref f4) = true)
    (a5 : PySem.W.nsIn K mainGlobals "earliest_first" = some (some (.ref f5))) (l5 : K.lookup f5 = some ⟨oc5, od5, .func (PySem.W.fnOf "earliest_first" "earliest_first" (defArgs sEarly) (defBody sEarly) (defScope sEarly) .none kV5 dc5 pm5 an5 (.ref cc5) ct5), sl5⟩) (c5 : PySem.W.codeIn K (.ref cc5) "earliest_first" = true) (k5 : PySem.W.keepIn K (.ref f5) = true)
    (m5 : K.lookup cc5 = some ⟨occ5, odd5, .fields vs5, sll5⟩) (v5 : vs5[11]? = some (.ref Pt5)) (r5 : ((recsOf q).find? fun e => e.name == ("earliest_first" : Str)).isSome = true) (n5 : K.lookup Pt5 = none)
    (a6 : PySem.W.nsIn K mainGlobals "told_by_letter" = some (some (.ref f6))) (l6 : K.lookup f6 = some ⟨oc6, od6, .func (PySem.W.fnOf "told_by_letter" "told_by_letter" (defArgs sTold) (defBody sTold) (defScope sTold) .none kV6 dc6 pm6 an6 cd6 ct6), sl6⟩) (c6 : PySem.W.codeIn K cd6 "told_by_letter" = true) (k6 : PySem.W.keepIn K (.ref f6) = true)
    (a7 : PySem.W.nsIn K mainGlobals "told_of_lacking" = some (some (.ref f7))) (l7 : K.lookup f7 = some ⟨oc7, od7, .func (PySem.W.fnOf "told_of_lacking" "told_of_lacking" (defArgs sLack) (defBody sLack) (defScope sLack) .none kV7 dc7 pm7 an7 cd7 ct7), sl7⟩) (c7 : PySem.W.codeIn K cd7 "told_of_lacking" = true) (k7 : PySem.W.keepIn K (.ref f7) = true)
    (a8 : PySem.W.nsIn K mainGlobals "said_answers" = some (some (.ref f8))) (l8 : K.lookup f8 = some ⟨oc8, od8, .func (PySem.W.fnOf "said_answers" "said_answers" (defArgs sSaid) (defBody sSaid) (defScope sSaid) .none kV8 dc8 pm8 an8 cd8 ct8), sl8⟩) (c8 : PySem.W.codeIn K cd8 "said_answers" = true) (k8 : PySem.W.keepIn K (.ref f8) = true)
    (a9 : PySem.W.nsIn K mainGlobals "ring_through" = some (some (.ref f9))) (l9 : K.lookup f9 = some ⟨oc9, od9, .func (PySem.W.fnOf "ring_through" "ring_through" (defArgs sRing) (defBody sRing) (defScope sRing) .none kV9 dc9 pm9 an9 cd9 ct9), sl9⟩) (c9 : PySem.W.codeIn K cd9 "ring_through" = true) (k9 : PySem.W.keepIn K (.ref f9) = true)
    (a10 : PySem.W.nsIn K mainGlobals "first_on_ring" = some (some (.ref f10))) (l10 : K.lookup f10 = some ⟨oc10, od10, .func (PySem.W.fnOf "first_on_ring" "first_on_ring" (defArgs sFirst) (defBody sFirst) (defScope sFirst) .none kV10 dc10 pm10 an10 cd10 ct10), sl10⟩) (c10 : PySem.W.codeIn K cd10 "first_on_ring" = true) (k10 : PySem.W.keepIn K (.ref f10) = true)
    (a11 : PySem.W.nsIn K mainGlobals "cut_rings" = some (some (.ref f11))) (l11 : K.lookup f11 = some ⟨oc11, od11, .func (PySem.W.fnOf "cut_rings" "cut_rings" (defArgs sCut) (defBody sCut) (defScope sCut) .none kV11 dc11 pm11 an11 cd11 ct11), sl11⟩) (c11 : PySem.W.codeIn K cd11 "cut_rings" = true) (k11 : PySem.W.keepIn K (.ref f11) = true)
    (a12 : PySem.W.nsIn K mainGlobals "answers_among" = some (some (.ref f12))) (l12 : K.lookup f12 = some ⟨oc12, od12, .func (PySem.W.fnOf "answers_among" "answers_among" (defArgs sAmong) (defBody sAmong) (defScope sAmong) .none kV12 dc12 pm12 an12 cd12 ct12), sl12⟩) (c12 : PySem.W.codeIn K cd12 "answers_among" = true) (k12 : PySem.W.keepIn K (.ref f12) = true)
    (a13 : PySem.W.nsIn K mainGlobals "chain_from" = some (some (.ref f13))) (l13 : K.lookup f13 = some ⟨oc13, od13, .func (PySem.W.fnOf "chain_from" "chain_from" (defArgs sChain) (defBody sChain) (defScope sChain) .none kV13 dc13 pm13 an13 cd13 ct13), sl13⟩) (c13 : PySem.W.codeIn K cd13 "chain_from" = true) (k13 : PySem.W.keepIn K (.ref f13) = true)
    (a14 : PySem.W.nsIn K mainGlobals "first_of_thread" = some (some (.ref f14))) (l14 : K.lookup f14 = some ⟨oc14, od14, .func (PySem.W.fnOf "first_of_thread" "first_of_thread" (defArgs sRoot) (defBody sRoot) (defScope sRoot) .none kV14 dc14 pm14 an14 cd14 ct14), sl14⟩) (c14 : PySem.W.codeIn K cd14 "first_of_thread" = true) (k14 : PySem.W.keepIn K (.ref f14) = true)
    (a15 : PySem.W.nsIn K mainGlobals "latest_times" = some (some (.ref f15))) (l15 : K.lookup f15 = some ⟨oc15, od15, .func (PySem.W.fnOf "latest_times" "latest_times" (defArgs sLatest) (defBody sLatest) (defScope sLatest) .none kV15 dc15 pm15 an15 cd15 ct15), sl15⟩) (c15 : PySem.W.codeIn K cd15 "latest_times" = true) (k15 : PySem.W.keepIn K (.ref f15) = true)
    (a16 : PySem.W.nsIn K mainGlobals "threads" = some (some (.ref f16))) (l16 : K.lookup f16 = some ⟨oc16, od16, .func (PySem.W.fnOf "threads" "threads" (defArgs sThreads) (defBody sThreads) (defScope sThreads) .none kV16 dc16 pm16 an16 (.ref cc16) ct16), sl16⟩) (c16 : PySem.W.codeIn K (.ref cc16) "threads" = true) (k16 : PySem.W.keepIn K (.ref f16) = true)
    (m16 : K.lookup cc16 = some ⟨occ16, odd16, .fields vs16, sll16⟩) (v16 : vs16[11]? = some (.ref Pt16)) (r16 : ((recsOf q).find? fun e => e.name == ("threads" : Str)).isSome = true) (n16 : K.lookup Pt16 = none)
    (gMOST_LETTERS : PySem.W.nsIn K mainGlobals "MOST_LETTERS" = some (some (.int 16 tMOST_LETTERS)))
    (gMOST_NAMED : PySem.W.nsIn K mainGlobals "MOST_NAMED" = some (some (.int 4 tMOST_NAMED)))
    (gLEAST_NUMBER : PySem.W.nsIn K mainGlobals "LEAST_NUMBER" = some (some (.int 1 tLEAST_NUMBER)))
    (gGREATEST_NUMBER : PySem.W.nsIn K mainGlobals "GREATEST_NUMBER" = some (some (.int 65535 tGREATEST_NUMBER)))
    (gLETTERS_REFUSED : PySem.W.nsIn K mainGlobals "LETTERS_REFUSED" = some (some (.int (-22) tLETTERS_REFUSED)))
    (zlen : PySem.W.nsIn K mainGlobals "len" = some none)
    (zall : PySem.W.nsIn K mainGlobals "all" = some none)
    (zset : PySem.W.nsIn K mainGlobals "set" = some none)
    (zrange : PySem.W.nsIn K mainGlobals "range" = some none)
    (zmin : PySem.W.nsIn K mainGlobals "min" = some none)
    (zsorted : PySem.W.nsIn K mainGlobals "sorted" = some none)
    (zreversed : PySem.W.nsIn K mainGlobals "reversed" = some none)
    (ne : Pt5 ≠ Pt16) :
    ∃ (fd : FuncData) (tabs : List (Addr × Addr)) (sp : Sp), (∀ (s : Shared) (us : List Value), us.length = (["letters"] : List Str).length → BindsTo s fd ⟨us, []⟩ ((["letters"] : List Str).zip us)) ∧
      (∀ t ∈ tabs, CodeHd h t.1 t.2 ∧ h.get? t.2 = some (tabObj #[])) ∧ (∀ t ∈ tabs, K.lookup t.2 = none) ∧
      (∀ base : Heap, K.In base → base.Ns mainGlobals mg → BMain mg base → (∀ t ∈ tabs, CodeHd base t.1 t.2) → FnOk P w K mg base CX0 5 fa fd ["letters"] sp) ∧
      ∀ (H : Hp) (xs : List V) (a : PySem.W.Codec.denoteAll PySem.Challenge.rw_letterthreadsdesk_s02_threads.args), (∀ t ∈ tabs, H t.2 = some (.tbl #[])) → PySem.W.Codec.withinAll PySem.Challenge.rw_letterthreadsdesk_s02_threads.args a = true → PySem.W.Codec.app PySem.Challenge.rw_letterthreadsdesk_s02_threads.args PySem.Challenge.rw_letterthreadsdesk_s02_threads.asked a = true → DwAll K H xs (PySem.W.Codec.encAll PySem.Challenge.rw_letterthreadsdesk_s02_threads.args a) →
        sp xs H (fun v H' => Dw K H' v (PySem.Challenge.rw_letterthreadsdesk_s02_threads.ret.enc (PySem.W.Codec.app PySem.Challenge.rw_letterthreadsdesk_s02_threads.args PySem.Challenge.rw_letterthreadsdesk_s02_threads.f a))) fun _ _ _ => False := by
  have e := hfa.symm.trans (PySem.W.mg_of X G a16)
  cases e
  have T : Txt K mg C := ⟨⟨pg, hd, po, sa⟩, nN, nW, nM, nO, PySem.W.mg_of X G aC, ⟨_, PySem.W.mg_of X G gMOST_LETTERS⟩, ⟨_, PySem.W.mg_of X G gMOST_NAMED⟩, ⟨_, PySem.W.mg_of X G gLEAST_NUMBER⟩, ⟨_, PySem.W.mg_of X G gGREATEST_NUMBER⟩, ⟨_, PySem.W.mg_of X G gLETTERS_REFUSED⟩,
    PySem.W.mg_none_of X G zlen, PySem.W.mg_none_of X G zall, PySem.W.mg_none_of X G zset, PySem.W.mg_none_of X G zrange, PySem.W.mg_none_of X G zmin, PySem.W.mg_none_of X G zsorted, PySem.W.mg_none_of X G zreversed⟩
  have F0 := fun_mk (st := sInit) l0 c0 k0
  have B0 := F0.binds (ps := ["self", "number", "written", "named"]) b_sInit
  have M0 : Mk K C f0 := ⟨mk, a0, i0, kc⟩
  have D1 := dn_mk (st := sRead) (ps := ["letters"]) X G a1 l1 c1 k1 b_sRead
  have D2 := dn_mk (st := sIsNum) (ps := ["value"]) X G a2 l2 c2 k2 b_sIsNum
  have D3 := dn_mk (st := sIsLet) (ps := ["letter"]) X G a3 l3 c3 k3 b_sIsLet
  have D4 := dn_mk (st := sAre) (ps := ["read"]) X G a4 l4 c4 k4 b_sAre
  have D5 := dn_mk (st := sEarly) (ps := ["read"]) X G a5 l5 c5 k5 b_sEarly
  have D6 := dn_mk (st := sTold) (ps := ["number", "letter"]) X G a6 l6 c6 k6 b_sTold
  have D7 := dn_mk (st := sLack) (ps := ["number", "by_age"]) X G a7 l7 c7 k7 b_sLack
  have D8 := dn_mk (st := sSaid) (ps := ["by_age"]) X G a8 l8 c8 k8 b_sSaid
  have D9 := dn_mk (st := sRing) (ps := ["number", "said"]) X G a9 l9 c9 k9 b_sRing
  have D10 := dn_mk (st := sFirst) (ps := ["ring", "by_age"]) X G a10 l10 c10 k10 b_sFirst
  have D11 := dn_mk (st := sCut) (ps := ["said", "by_age"]) X G a11 l11 c11 k11 b_sCut
  have D12 := dn_mk (st := sAmong) (ps := ["by_age"]) X G a12 l12 c12 k12 b_sAmong
  have D13 := dn_mk (st := sChain) (ps := ["number", "answers"]) X G a13 l13 c13 k13 b_sChain
  have D14 := dn_mk (st := sRoot) (ps := ["number", "answers"]) X G a14 l14 c14 k14 b_sRoot
  have D15 := dn_mk (st := sLatest) (ps := ["by_age", "answers"]) X G a15 l15 c15 k15 b_sLatest
  have D16 := dn_mk (st := sThreads) (ps := ["letters"]) X G a16 l16 c16 k16 b_sThreads
  have tb5 := tb_mk (st := sEarly) X Tp a5 l5 m5 v5 r5
  have tb16 := tb_mk (st := sThreads) X Tp a16 l16 m16 v16 r16
  refine ⟨_, [(cc5, Pt5), (cc16, Pt16)], spThreads K [eEarly Pt5, eThreads Pt16], fun s us hu => match us, hu with | [_], _ => .of_eq rfl, fun t ht => ?_, fun t ht => ?_, fun base _ _ BM hC => ok_threads D16 rfl T BM (hC (cc16, Pt16) (by simp)) (by simp) D1 (ok_read D1 T M0 B0 (ok_init F0 T)) D4 (ok_are D4 T D3 (ok_isLet D3 T D2 (ok_num D2 T)))
    D5 (ok_early D5 rfl T BM (hC (cc5, Pt5) (by simp)) (by simp)) D12 (ok_among D12 D8 (ok_said D8 T D7 (ok_lack D7 T D6 (ok_told D6 T))) D11 (ok_cut D11 T D9 (ok_ring D9 T) D10 (ok_first D10 T)))
    D15 (ok_latest D15 T D14 (ok_root D14 D13 (ok_chain D13 T))), fun H xs a hO hwi hask hx => due_b hwi hask hx (tabs_two (hO (cc5, Pt5) (by simp)) (hO (cc16, Pt16) (by simp)) ne)⟩
  · rcases List.mem_cons.mp ht with rfl | ht
    · exact tb5
    · rw [List.mem_singleton.mp ht]
      exact tb16
  · rcases List.mem_cons.mp ht with rfl | ht
    · exact n5
    · rw [List.mem_singleton.mp ht]
      exact n16
end
end TH
set_option Elab.async false
set_option linter.all false
set_option maxRecDepth 100000
set_option maxHeartbeats 2000000

open PySem PySem.W PyProof.Rows
set_option maxRecDepth 100000 in
set_option maxHeartbeats 0 in
theorem PySem.Challenge.cw_letterthreadsdesk_s02_threads_holds : PySem.Challenge.rw_letterthreadsdesk_s02_threads.Holds := by
  w_on; k_headS; (case hw => exact ⟨[.list []], by decide +kernel, by decide +kernel⟩)
  k_fillS
  refine L2.walk_specT (r := PySem.Challenge.rw_letterthreadsdesk_s02_threads) (k := 5) (CX := L2.CX0) (ps := ["letters"]) (by decide +kernel) rfl rfl ⟨rfl, by decide, by decide⟩ (fun w h Y => PySem.W.kIn_of Y) ?F (fun _ _ _ _ z => z)
  case F =>
    intro w mg mb mean fa h Tp Y KX G hmg
    refine' TH.all_mk Tp KX G hmg ?aC ?pg ?hd ?po ?sa ?mk ?kc ?nN ?nW ?nM ?nO ?a0 ?i0 ?l0 ?c0 ?k0 ?a1 ?l1 ?c1 ?k1 ?a2 ?l2 ?c2 ?k2 ?a3 ?l3 ?c3 ?k3 ?a4 ?l4 ?c4 ?k4 ?a5 ?l5 ?c5 ?k5 ?m5 ?v5 ?r5 ?n5 ?a6 ?l6 ?c6 ?k6 ?a7 ?l7 ?c7 ?k7 ?a8 ?l8 ?c8 ?k8 ?a9 ?l9 ?c9 ?k9 ?a10 ?l10 ?c10 ?k10 ?a11 ?l11 ?c11 ?k11 ?a12 ?l12 ?c12 ?k12 ?a13 ?l13 ?c13 ?k13 ?a14 ?l14 ?c14 ?k14 ?a15 ?l15 ?c15 ?k15 ?a16 ?l16 ?c16 ?k16 ?m16 ?v16 ?r16 ?n16 ?gMOST_LETTERS ?gMOST_NAMED ?gLEAST_NUMBER ?gGREATEST_NUMBER ?gLETTERS_REFUSED ?zlen ?zall ?zset ?zrange ?zmin ?zsorted ?zreversed ?ne
    (case aC => k_is)
    (case pg => k_is)
    (case hd => k_is)
    (case po => k_is)
    (case sa => k_is)
    (case mk => k_is)
    (case kc => k_is)
    (case nN => k_is)
    (case nW => k_is)
    (case nM => k_is)
    (case nO => k_is)
    (case a0 => k_is)
    (case i0 => k_is)
    (case l0 => k_is)
    (case c0 => k_is)
    (case k0 => k_is)
    (case a1 => k_is)
    (case l1 => k_is)
    (case c1 => k_is)
    (case k1 => k_is)
    (case a2 => k_is)
    (case l2 => k_is)
    (case c2 => k_is)
    (case k2 => k_is)
    (case a3 => k_is)
    (case l3 => k_is)
    (case c3 => k_is)
    (case k3 => k_is)
    (case a4 => k_is)
    (case l4 => k_is)
    (case c4 => k_is)
    (case k4 => k_is)
    (case a5 => k_is)
    (case l5 => k_is)
    (case c5 => k_is)
    (case k5 => k_is)
    (case m5 => k_is)
    (case v5 => exact rfl)
    (case r5 => decide +kernel)
    (case n5 => kernel_rfl)
    (case a6 => k_is)
    (case l6 => k_is)
    (case c6 => k_is)
    (case k6 => k_is)
    (case a7 => k_is)
    (case l7 => k_is)
    (case c7 => k_is)
    (case k7 => k_is)
    (case a8 => k_is)
    (case l8 => k_is)
    (case c8 => k_is)
    (case k8 => k_is)
    (case a9 => k_is)
    (case l9 => k_is)
    (case c9 => k_is)
    (case k9 => k_is)
    (case a10 => k_is)
    (case l10 => k_is)
    (case c10 => k_is)
    (case k10 => k_is)
    (case a11 => k_is)
    (case l11 => k_is)
    (case c11 => k_is)
    (case k11 => k_is)
    (case a12 => k_is)
    (case l12 => k_is)
    (case c12 => k_is)
    (case k12 => k_is)
    (case a13 => k_is)
    (case l13 => k_is)
    (case c13 => k_is)
    (case k13 => k_is)
    (case a14 => k_is)
    (case l14 => k_is)
    (case c14 => k_is)
    (case k14 => k_is)
    (case a15 => k_is)
    (case l15 => k_is)
    (case c15 => k_is)
    (case k15 => k_is)
    (case a16 => k_is)
    (case l16 => k_is)
    (case c16 => k_is)
    (case k16 => k_is)
    (case m16 => k_is)
    (case v16 => exact rfl)
    (case r16 => decide +kernel)
    (case n16 => kernel_rfl)
    (case gMOST_LETTERS => k_is)
    (case gMOST_NAMED => k_is)
    (case gLEAST_NUMBER => k_is)
    (case gGREATEST_NUMBER => k_is)
    (case gLETTERS_REFUSED => k_is)
    (case zlen => k_is)
    (case zall => k_is)
    (case zset => k_is)
    (case zrange => k_is)
    (case zmin => k_is)
    (case zsorted => k_is)
    (case zreversed => k_is)
    (case ne => decide)

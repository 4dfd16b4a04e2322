import PyProof.Rows.All
import Wide.All
import OpenK.AllK
import Wide.FinOn
import PyProof.EqAt
import PyProof.EqKinds
import PyProof.TupleCall
import KE.BitLaws
import Open.SpecLaws
import KE.OsHead
import KE.OsGo
import PyProof.Draws
import PyProof.EnumMake
import PyProof.TupleIter
import PyProof.Rows.SetFrom
import KE.KDictList
import PyProof.Rows.SortShellAny
import PyProof.Rows.SortWalk
import PySem.Challenge.RW_flaglockerdesk_s09_least
section
set_option Elab.async false
set_option linter.all false
set_option maxRecDepth 100000
/-! THE HAND LAYER, for ints, bools, texts, own classes, lists, tuples, dicts, comprehensions, walks over dicts, enumerate, zip, reversed, texts, calls, loops. Paste it whole ahead of your own text; what your proof does not reach may be deleted. -/
namespace L2
open PySem PySem.Spec PyProof.Rows

/-- a key: an int or a str -/
abbrev Key := Sum Int Str
def keyIs : Key → Value → Bool
  | .inl k, v => Value.isInt k v
  | .inr x, v => Value.isStrOf x v
def keyH (w : World) : Key → Int
  | .inl k => hashInt k
  | .inr x => hashStr w x
theorem keyIs_shape : ∀ {k : Key} {v : Value}, keyIs k v = true → (∃ i t, k = Sum.inl i ∧ v = Value.int i t) ∨ (∃ x t, k = Sum.inr x ∧ v = Value.str x t)
  | .inl i, v, h => by
    obtain ⟨t, e⟩ := Value.isInt_shape (k := i) (v := v) h
    exact .inl ⟨i, t, rfl, e⟩
  | .inr x, v, h => by
    obtain ⟨t, e⟩ := Value.isStrOf_shape (x := x) (v := v) h
    exact .inr ⟨x, t, rfl, e⟩
theorem key_ll (a b : Int) : decide ((Sum.inl a : Key) = Sum.inl b) = (a == b) := by
  by_cases e : a = b
  · subst e; simp
  · have h : ¬ (Sum.inl a : Key) = Sum.inl b := fun q => e (Sum.inl.inj q)
    rw [decide_eq_false h]
    exact (beq_eq_false_iff_ne.mpr e).symm
theorem key_rr (a b : Str) : decide ((Sum.inr a : Key) = Sum.inr b) = decide (a = b) := by
  by_cases e : a = b
  · subst e; simp
  · have h : ¬ (Sum.inr a : Key) = Sum.inr b := fun q => e (Sum.inr.inj q)
    rw [decide_eq_false h, decide_eq_false e]
theorem key_lr (a : Int) (b : Str) : decide ((Sum.inl a : Key) = Sum.inr b) = false := decide_eq_false (fun q => nomatch q)
theorem key_rl (a : Str) (b : Int) : decide ((Sum.inr a : Key) = Sum.inl b) = false := decide_eq_false (fun q => nomatch q)

def mixKind (prog : Program) (w : World) : PySem.KeyKind prog w Key where
  is := keyIs
  hash := keyH w
  inj := fun v a b ha hb => by
    rcases keyIs_shape ha with ⟨i, t, rfl, rfl⟩ | ⟨x, t, rfl, rfl⟩
    · rcases keyIs_shape hb with ⟨j, u, rfl, e⟩ | ⟨y, u, rfl, e⟩
      · injection e with e1 _; rw [e1]
      · exact nomatch e
    · rcases keyIs_shape hb with ⟨j, u, rfl, e⟩ | ⟨y, u, rfl, e⟩
      · exact nomatch e
      · injection e with e1 _; rw [e1]
  byValue := fun k v h => by
    rcases keyIs_shape h with ⟨i, t, rfl, rfl⟩ | ⟨x, t, rfl, rfl⟩ <;> rfl
  pyHash := fun hv h => by
    rcases keyIs_shape hv with ⟨i, t, rfl, rfl⟩ | ⟨x, t, rfl, rfl⟩
    · exact wpAny_pyHash_int h
    · exact wpAny_pyHash_str h
  eqBool := fun hu hv h => by
    rcases keyIs_shape hu with ⟨i, t, rfl, rfl⟩ | ⟨x, t, rfl, rfl⟩
    · rcases keyIs_shape hv with ⟨j, u, rfl, rfl⟩ | ⟨y, u, rfl, rfl⟩
      · rw [key_ll] at h; exact wpAny_eqBool_int h
      · rw [key_lr] at h; exact SeqAt.EqAt.int_str i t y u _ _ _ _ h
    · rcases keyIs_shape hv with ⟨j, u, rfl, rfl⟩ | ⟨y, u, rfl, rfl⟩
      · rw [key_rl] at h; exact SeqAt.EqAt.str_int x t j u _ _ _ _ h
      · rw [key_rr] at h; exact wpAny_eqBool_str h
  «strs» := fun k x t v h => by
    rcases keyIs_shape h with ⟨i, u, rfl, e⟩ | ⟨y, u, rfl, e⟩
    · exact nomatch e
    · injection e with e1 _
      subst e1
      cases v <;> rfl

end L2

namespace L2
open PySem PySem.Spec PyProof.Rows

/-- a value, without the heap -/
inductive V where
  | non | bl (b : Bool) | int (i : Int) | str (x : Str) | byt (b : Array UInt8) | flt (b : UInt64) | ref (a : Addr) | ty (n : String)
  deriving DecidableEq

def RelV : V → Value → Prop
  | .non, u => u = Value.none
  | .bl b, u => u = Value.bool b
  | .int i, u => ∃ t, u = Value.int i t
  | .str x, u => ∃ t, u = Value.str x t
  | .byt b, u => ∃ t, u = Value.bytes b t
  | .flt b, u => ∃ t, u = Value.float b t
  | .ref a, u => u = Value.ref a
  | .ty n, u => u = Value.type n

abbrev Vals : List V → List Value → Prop := Paired RelV
theorem Vals.length {xs : List V} {us : List Value} (r : Vals xs us) : xs.length = us.length := Paired.length r
theorem Vals.get : ∀ {xs : List V} {us : List Value} {i : Nat} {x : V}, Vals xs us → xs[i]? = some x → ∃ u, us[i]? = some u ∧ RelV x u
  | _, _, _, _, .nil, e => by simp at e
  | _, _, 0, _, .cons r _, e => by simp at e; subst e; exact ⟨_, rfl, r⟩
  | _, _, i + 1, x, .cons _ t, e => by
    obtain ⟨u, h1, h2⟩ := Vals.get (i := i) (x := x) t (by simpa using e)
    exact ⟨u, by simpa using h1, h2⟩
theorem Vals.set {x : V} {u : Value} (r : RelV x u) : ∀ {xs : List V} {us : List Value} (i : Nat), Vals xs us → Vals (xs.set i x) (us.set i u)
  | _, _, _, .nil => .nil
  | _, _, 0, .cons _ t => .cons r t
  | _, _, i + 1, .cons q t => .cons q (Vals.set r i t)
theorem Vals.append : ∀ {xs ys : List V} {us ws : List Value}, Vals xs us → Vals ys ws → Vals (xs ++ ys) (us ++ ws)
  | _, _, _, _, .nil, s => s
  | _, _, _, _, .cons r t, s => .cons r (Vals.append t s)
theorem Vals.take : ∀ {xs : List V} {us : List Value} (n : Nat), Vals xs us → Vals (xs.take n) (us.take n)
  | _, _, 0, _ => .nil
  | _, _, _ + 1, .nil => .nil
  | _, _, n + 1, .cons r t => .cons r (Vals.take n t)
theorem Vals.drop : ∀ {xs : List V} {us : List Value} (n : Nat), Vals xs us → Vals (xs.drop n) (us.drop n)
  | _, _, 0, r => r
  | _, _, _ + 1, .nil => .nil
  | _, _, n + 1, .cons _ t => Vals.drop n t
def RelO : Option V → Option Value → Prop
  | some v, some u => RelV v u
  | none, none => True
  | _, _ => False
def KV {κ : Type} : List (κ × V) → List (κ × Value) → Prop := Paired fun (p : κ × V) (q : κ × Value) => p.1 = q.1 ∧ RelV p.2 q.2

/-- a key of a dict (00_mix): an int or a text -/
def kV : Key → V
  | .inl i => .int i
  | .inr x => .str x

/-- what stands at a tracked address -/
inductive HO where
  /-- a list -/
  | lst (xs : List V)
  /-- a tuple (never changes) -/
  | tup (xs : List V)
  /-- a dict whose keys are ints and texts; one whose keys are tuples of ints and texts (the empty one is both) -/
  | dK (kvs : List (Key × V)) | dT (kvs : List (List Key × V))
  /-- a set of ints: its members, its size -/
  | set (S : Int → Bool) (n : Nat)
  /-- an instance of the class at C, its dict at dx, its attributes -/
  | ins (C dx : Addr) (fs : List (Str × V))
  /-- the dict of the instance at x -/
  | own (x : Addr)
  /-- the dict of an exception -/
  | xd (fs : List (Str × V))
  /-- a bound method, f of x -/
  | met (f x : Addr)
  /-- a range object lo, lo + 1, .. below hi -/
  | rng (lo hi : Int)
  /-- a thing that is known to the object (the script; a dict while a loop walks it): read, never written while it is so -/
  | frz (o : Obj) (u : HO)
  /-- a code object's table -/
  | tbl (ps : Array Value)
  /-- any other thing, by what is true of its one object (a def of one's own: SetO a S n := HO.ext fun h => ..) -/
  | ext (φ : Heap → Prop)

abbrev Hp := Addr → Option HO
def upd (H : Hp) (a : Addr) (o : HO) : Hp := fun b => if b = a then some o else H b
theorem upd_same {H : Hp} {a : Addr} {o : HO} : upd H a o a = some o := by unfold upd; rw [if_pos rfl]
theorem upd_ne {H : Hp} {a b : Addr} {o : HO} (h : b ≠ a) : upd H a o b = H b := by unfold upd; rw [if_neg h]
/-- two objects of different content stand apart -/
theorem ne_of {H : Hp} {a b : Addr} {o u : HO} (h : H a = some o) (h' : H b = some u) (d : o ≠ u) : a ≠ b := by
  intro e; subst e; rw [h] at h'; exact d (Option.some.inj h')
theorem ne_of_none {H : Hp} {a b : Addr} {o : HO} (h : H a = some o) (h' : H b = none) : a ≠ b := by
  intro e; subst e; rw [h] at h'; cases h'

section
variable (P : Program) (w : World)
def ObjOk (H : Hp) (h : Heap) (a : Addr) : HO → Prop
  | .lst xs => xs.length ≤ sizeLine ∧ ∃ (its : List Value) (n : Nat), Vals xs its ∧ h.get? a = some { cls := .type "list", data := .seq its.toArray n }
  | .tup xs => xs.length ≤ sizeLine ∧ ∃ its : List Value, Vals xs its ∧ IsTup h a its.toArray
  | .dK kvs => kvs.length ≤ sizeLine ∧ (a == sysModules) = false ∧ ∃ vs, KV kvs vs ∧ h.DictOf (mixKind P w) a vs
  | .dT kvs => kvs.length ≤ sizeLine ∧ (a == sysModules) = false ∧ ∃ xs : List (List Key × Addr × Value),
      Paired (fun (p : List Key × V) (q : List Key × Addr × Value) => p.1 = q.1 ∧ H q.2.1 = some (.tup (p.1.map kV)) ∧ RelV p.2 q.2.2) kvs xs ∧
      ∃ o es ep, h.get? a = some o ∧ o.ExactDict ∧ o.data = .dict es ep ∧ es.toList = xs.map (entryOfKey (tupleKind (mixKind P w))) ∧ (xs.map (·.1)).Nodup
  | .set S n => h.SetOf (intKind P w) a S n
  | .ins C dx fs => H dx = some (.own a) ∧ fs.length ≤ 1000 ∧ dx ≠ a ∧ h.get? a = some (PySem.W.instObj C dx) ∧
      ∃ mA, h.Ns1 dx mA ∧ (∀ f, RelO (fs.lookup f) (mA f)) ∧ PySem.Within mA (fs.map (·.1))
  | .own _ => ∃ o, h.get? a = some o
  | .xd fs => ∃ mA, h.Ns1 a mA ∧ ∀ f, RelO (fs.lookup f) (mA f)
  | .rng lo hi => ∃ t u v, h.get? a = some { cls := .type "range", data := .fields #[.int lo t, .int hi u, .int 1 v] }
  | .frz o u => h.get? a = some o ∧ ObjOk H h a u
  | .tbl ps => h.get? a = some { cls := .none, data := .fields ps }
  | .met f x => h.get? a = some (PySem.W.methodObj (.ref f) (.ref x))
  | .ext φ => φ h ∧ (∃ o, h.get? a = some o) ∧ ∀ h1 h2 : Heap, φ h1 → (∀ o, h1.get? a = some o → h2.get? a = some o) → φ h2
/-- the abstract heap is held -/
def HOk (H : Hp) (h : Heap) : Prop := ∀ a o, H a = some o → ObjOk P w H h a o
end

section
variable {P : Program} {w : World} {H H' : Hp} {h h' : Heap} {a : Addr} {o : HO}
theorem ObjOk.lt (x : ObjOk P w H h a o) : a < h.objs.size := by
  cases o with
  | lst xs => obtain ⟨_, _, _, _, e⟩ := x; exact Heap.lt_size e
  | tup xs => obtain ⟨_, _, _, p⟩ := x; exact p.lt
  | dK kvs => obtain ⟨_, _, _, _, o, _, _, e, _⟩ := x; exact Heap.lt_size e
  | dT kvs => obtain ⟨_, _, _, _, o, _, _, e, _⟩ := x; exact Heap.lt_size e
  | set S n => obtain ⟨o, _, _, _, e, _⟩ := x; exact Heap.lt_size e
  | ins C dx fs => obtain ⟨_, _, _, e, _⟩ := x; exact Heap.lt_size e
  | own y => obtain ⟨_, e⟩ := x; exact Heap.lt_size e
  | xd fs => obtain ⟨_, ⟨_, _, _, e, _⟩, _⟩ := x; exact Heap.lt_size e
  | rng lo hi => obtain ⟨_, _, _, e⟩ := x; exact Heap.lt_size e
  | frz ob u => obtain ⟨e, _⟩ := x; exact Heap.lt_size e
  | tbl ps => exact Heap.lt_size (show h.get? a = some _ from x)
  | met f y => exact Heap.lt_size (show h.get? a = some _ from x)
  | ext φ => obtain ⟨_, ⟨_, e⟩, _⟩ := x; exact Heap.lt_size e
theorem Paired.mapP {α β : Type} {F G : α → β → Prop} : ∀ {l₁ : List α} {l₂ : List β}, Paired F l₁ l₂ → (∀ a b, F a b → G a b) → Paired G l₁ l₂
  | _, _, .nil, _ => .nil
  | _, _, .cons r t, f => .cons (f _ _ r) (Paired.mapP t f)
/-- what an object's description leans on: its own object, its own dict, the tuples -/
theorem ObjOk.stay (x : ObjOk P w H h a o) (k : ∀ b u, (b = a ∨ H b = some (.own a)) → h.get? b = some u → h'.get? b = some u)
    (ho : ∀ b, H b = some (.own a) → H' b = some (.own a)) (ht : ∀ b xs, H b = some (.tup xs) → H' b = some (.tup xs)) : ObjOk P w H' h' a o := by
  induction o with
  | lst xs => obtain ⟨z, its, n, r, e⟩ := x; exact ⟨z, its, n, r, k _ _ (.inl rfl) e⟩
  | tup xs => obtain ⟨z, its, r, ob, e, c⟩ := x; exact ⟨z, its, r, ob, k _ _ (.inl rfl) e, c⟩
  | dK kvs => obtain ⟨z, y, vs, r, ob, es, ep, e, c⟩ := x; exact ⟨z, y, vs, r, ob, es, ep, k _ _ (.inl rfl) e, c⟩
  | dT kvs =>
    obtain ⟨z, y, xs, r, ob, es, ep, e, c⟩ := x
    exact ⟨z, y, xs, Paired.mapP r fun p q z => ⟨z.1, ht _ _ z.2.1, z.2.2⟩, ob, es, ep, k _ _ (.inl rfl) e, c⟩
  | set S n => obtain ⟨ob, es, ep, t, e, c⟩ := x; exact ⟨ob, es, ep, t, k _ _ (.inl rfl) e, c⟩
  | ins C dx fs =>
    obtain ⟨d, z, ne, e, mA, ⟨od, es, ep, e2, c⟩, r⟩ := x
    exact ⟨ho _ d, z, ne, k _ _ (.inl rfl) e, mA, ⟨od, es, ep, k _ _ (.inr d) e2, c⟩, r⟩
  | own y => obtain ⟨ob, e⟩ := x; exact ⟨ob, k _ _ (.inl rfl) e⟩
  | xd fs => obtain ⟨mA, ⟨od, es, ep, e, c⟩, r⟩ := x; exact ⟨mA, ⟨od, es, ep, k _ _ (.inl rfl) e, c⟩, r⟩
  | rng lo hi => obtain ⟨t, u, v, e⟩ := x; exact ⟨t, u, v, k _ _ (.inl rfl) e⟩
  | frz ob u ih => obtain ⟨e, q⟩ := x; exact ⟨k _ _ (.inl rfl) e, ih q⟩
  | tbl ps =>
    have e : h.get? a = some { cls := .none, data := .fields ps } := x
    show h'.get? a = some { cls := .none, data := .fields ps }
    exact k a _ (.inl rfl) e
  | met f y =>
    have e : h.get? a = some (PySem.W.methodObj (.ref f) (.ref y)) := x
    show h'.get? a = some (PySem.W.methodObj (.ref f) (.ref y))
    exact k a _ (.inl rfl) e
  | ext φ => obtain ⟨p, ⟨o, e⟩, st⟩ := x; exact ⟨st _ _ p fun o q => k _ _ (.inl rfl) q, ⟨o, k _ _ (.inl rfl) e⟩, st⟩
theorem HOk.lt (x : HOk P w H h) (e : H a = some o) : a < h.objs.size := (x a o e).lt
theorem HOk.fresh (x : HOk P w H h) (e : h.objs.size ≤ a) : H a = none := by
  cases q : H a with
  | none => rfl
  | some u => exact absurd (Nat.lt_of_lt_of_le (x.lt q) e) (Nat.lt_irrefl _)
/-- every object of the heap is kept -/
theorem HOk.kept (x : HOk P w H h) (k : ∀ b u, h.get? b = some u → h'.get? b = some u) : HOk P w H h' := fun a o e =>
  (x a o e).stay (fun b u _ q => k b u q) (fun _ q => q) fun _ _ q => q
/-- a new object is laid and tracked -/
theorem HOk.laid (x : HOk P w H h) (k : ∀ b u, h.get? b = some u → h'.get? b = some u) (hp : h.objs.size ≤ a) (new : ObjOk P w (upd H a o) h' a o) : HOk P w (upd H a o) h' := fun b u e => by
  have hn := x.fresh hp
  by_cases hb : b = a
  · subst hb; rw [upd_same] at e; cases e; exact new
  · rw [upd_ne hb] at e
    exact (x b u e).stay (fun c v _ q => k c v q) (fun c q => by rw [upd_ne (ne_of_none q hn)]; exact q) fun c xs q => by rw [upd_ne (ne_of_none q hn)]; exact q
end

/-- what may be read as u: it is u, or a known u -/
def Rd (H : Hp) (a : Addr) (u : HO) : Prop := H a = some u ∨ ∃ o, H a = some (.frz o u)
theorem Rd.of {H : Hp} {a : Addr} {u : HO} (h : H a = some u) : Rd H a u := .inl h
theorem Rd.ok {P : Program} {w : World} {H : Hp} {h : Heap} {a : Addr} {u : HO} (r : Rd H a u) (x : HOk P w H h) : ObjOk P w H h a u := by
  rcases r with r | ⟨o, r⟩
  · exact x a u r
  · obtain ⟨_, q⟩ := x a _ r
    exact q
/-- what may be written -/
def Mut : Option HO → Prop
  | some (.lst _) => True
  | some (.dK _) => True
  | some (.dT _) => True
  | some (.set _ _) => True
  | some (.ins _ _ _) => True
  | some (.ext _) => True
  | _ => False
section
variable {P : Program} {w : World} {H : Hp} {h h' : Heap} {x e : Addr} {o' : HO}
/-- the object at e is changed: x itself, or the dict of the instance x -/
theorem HOk.write (ok : HOk P w H h) (mu : Mut (H x)) (he : e = x ∨ H e = some (.own x)) (k : ∀ b u, b ≠ e → h.get? b = some u → h'.get? b = some u) (heo : ∃ u, h'.get? e = some u)
    (new : ObjOk P w (upd H x o') h' x o') : HOk P w (upd H x o') h' := fun b u q => by
  have nown : ∀ c y, H c = some (.own y) → c ≠ x := fun c y r z => by subst z; rw [r] at mu; exact mu
  have ntup : ∀ c xs, H c = some (.tup xs) → c ≠ x := fun c xs r z => by subst z; rw [r] at mu; exact mu
  by_cases hb : b = x
  · subst hb; rw [upd_same] at q; cases q; exact new
  · rw [upd_ne hb] at q
    by_cases hbe : b = e
    · have q' : H b = some (.own x) := by
        rcases he with z | z
        · exact absurd (hbe.trans z) hb
        · rw [hbe]; exact z
      rw [q] at q'; cases q'
      obtain ⟨v, hv⟩ := heo
      exact ⟨v, by rw [hbe]; exact hv⟩
    · refine (ok b u q).stay (fun c v hc r => k c v ?_ r) (fun c r => by rw [upd_ne (nown c b r)]; exact r) fun c xs r => by rw [upd_ne (ntup c xs r)]; exact r
      rcases hc with rfl | hc
      · exact hbe
      · rintro rfl
        rcases he with z | z
        · exact nown c b hc z
        · rw [hc] at z; cases z; exact hb rfl
end

/-! ### kept unless tracked; of the frames at fs (the callers') the slots may change (an exception that passes writes there); of the records at ex (iterators) nothing is said -/
structure Un (fs ex : List Addr) (H H' : Hp) (h h' : Heap) : Prop where
  keep : ∀ b o, h.get? b = some o → H b = none → b ∉ fs → b ∉ ex → h'.get? b = some o
  slot : ∀ b o, h.get? b = some o → H b = none → b ∈ fs → b ∉ ex → ∃ sl, h'.get? b = some { o with slots := sl }
  free : ∀ b o, h.get? b = some o → H b = none → b ∉ ex → H' b = none
  there : ∀ b o, h.get? b = some o → b ∉ ex → ∃ o', h'.get? b = some o'
  tups : ∀ b xs, H b = some (.tup xs) → H' b = some (.tup xs)
  frzs : ∀ b o u, H b = some (.frz o u) → H' b = some (.frz o u)
  tbls : ∀ b ps, H b = some (.tbl ps) → ∃ more, H' b = some (.tbl (ps ++ more))
section
variable {fs fs' ex ex' : List Addr} {H H1 H2 : Hp} {h h1 h2 h' : Heap} {a x e : Addr} {o : HO}
theorem Un.any (u : Un fs ex H H1 h h1) {b : Addr} {ob : Obj} (q : h.get? b = some ob) (n : H b = none) (hx : b ∉ ex) : ∃ sl, h1.get? b = some { ob with slots := sl } := by
  by_cases hb : b ∈ fs
  · exact u.slot b ob q n hb hx
  · exact ⟨ob.slots, u.keep b ob q n hb hx⟩
theorem Un.trans (a : Un fs ex H H1 h h1) (b : Un fs ex H1 H2 h1 h2) : Un fs ex H H2 h h2 where
  keep := fun c ob q n hc hx => b.keep c ob (a.keep c ob q n hc hx) (a.free c ob q n hx) hc hx
  slot := fun c ob q n hc hx => by
    obtain ⟨sl, e1⟩ := a.slot c ob q n hc hx
    obtain ⟨sl', e2⟩ := b.slot c _ e1 (a.free c ob q n hx) hc hx
    exact ⟨sl', e2⟩
  free := fun c ob q n hx => by
    obtain ⟨o', e1⟩ := a.there c ob q hx
    exact b.free c o' e1 (a.free c ob q n hx) hx
  there := fun c ob q hx => by
    obtain ⟨o', e1⟩ := a.there c ob q hx
    exact b.there c o' e1 hx
  tups := fun c xs q => b.tups c xs (a.tups c xs q)
  frzs := fun c ob xs q => b.frzs c ob xs (a.frzs c ob xs q)
  tbls := fun c ps q => by
    obtain ⟨m1, e1⟩ := a.tbls c ps q
    obtain ⟨m2, e2⟩ := b.tbls c _ e1
    exact ⟨m1 ++ m2, by rw [e2, Array.append_assoc]⟩
theorem Un.kept (k : ∀ b u, h.get? b = some u → h'.get? b = some u) : Un fs ex H H h h' :=
  ⟨fun b ob q _ _ _ => k b ob q, fun b ob q _ _ _ => ⟨ob.slots, k b ob q⟩, fun _ _ _ n _ => n, fun b ob q _ => ⟨ob, k b ob q⟩, fun _ _ q => q, fun _ _ _ q => q, fun _ ps q => ⟨#[], by rw [q]; simp⟩⟩
theorem Un.refl : Un fs ex H H h h := Un.kept fun _ _ q => q
theorem Un.laid (k : ∀ b u, h.get? b = some u → h'.get? b = some u) (hp : h.objs.size ≤ a) (hn : H a = none) : Un fs ex H (upd H a o) h h' where
  keep := fun b u q _ _ _ => k b u q
  slot := fun b u q _ _ _ => ⟨u.slots, k b u q⟩
  free := fun b u q n _ => by rw [upd_ne (Nat.ne_of_lt (Nat.lt_of_lt_of_le (Heap.lt_size q) hp))]; exact n
  there := fun b u q _ => ⟨u, k b u q⟩
  tups := fun b xs q => by rw [upd_ne (ne_of_none q hn)]; exact q
  frzs := fun b u xs q => by rw [upd_ne (ne_of_none q hn)]; exact q
  tbls := fun b ps q => ⟨#[], by rw [upd_ne (ne_of_none q hn), q]; simp⟩
theorem Un.write (mu : Mut (H x)) (he : e = x ∨ H e = some (.own x)) (k : ∀ b u, b ≠ e → h.get? b = some u → h'.get? b = some u) (heo : ∃ u, h'.get? e = some u) : Un fs ex H (upd H x o) h h' := by
  have hx : ∀ b, H b = none → b ≠ x := fun b n z => by subst z; rw [n] at mu; exact mu
  have hb : ∀ b, H b = none → b ≠ e := fun b n z => by
    subst z
    rcases he with r | r
    · exact hx b n r
    · rw [n] at r; cases r
  have hm : ∀ b u, H b = some u → ¬ Mut (some u) → b ≠ x := fun b u q nm z => by subst z; rw [q] at mu; exact nm mu
  refine ⟨fun b u q n _ _ => k b u (hb b n) q, fun b u q n _ _ => ⟨u.slots, k b u (hb b n) q⟩, fun b u q n _ => by rw [upd_ne (hx b n)]; exact n, fun b u q _ => ?_,
    fun b xs q => by rw [upd_ne (hm b _ q fun z => z)]; exact q, fun b u xs q => by rw [upd_ne (hm b _ q fun z => z)]; exact q, fun b ps q => ⟨#[], by rw [upd_ne (hm b _ q fun z => z), q]; simp⟩⟩
  by_cases hbe : b = e
  · subst hbe; exact heo
  · exact ⟨u, k b u hbe q⟩
theorem Un.mono (u : Un fs ex H H1 h h1) (hs : ∀ b ∈ fs, b ∈ fs') (hx : ∀ b ∈ ex, b ∈ ex') : Un fs' ex' H H1 h h1 :=
  ⟨fun b ob q n hb he => u.keep b ob q n (fun z => hb (hs b z)) fun z => he (hx b z), fun _ _ q n _ he => u.any q n fun z => he (hx _ z), fun b ob q n he => u.free b ob q n fun z => he (hx b z), fun b ob q he => u.there b ob q fun z => he (hx b z), u.tups, u.frzs, u.tbls⟩
end

/-! ### the heap without what is tracked -/
def trk (h : Heap) (H : Hp) : List Addr := (List.range h.objs.size).filter fun a => (H a).isSome
def hidT (h : Heap) (H : Hp) : Heap := PySem.W.hideAll h (trk h H)
theorem hidT_size (h : Heap) (H : Hp) : (hidT h H).objs.size = h.objs.size := PySem.W.hideAll_size _ _
theorem hidT_get {h : Heap} {H : Hp} {b : Addr} {o : Obj} (e : h.get? b = some o) (n : H b = none) : (hidT h H).get? b = some o :=
  PySem.W.hideAll_get _ e fun hm => by
    have q : (H b).isSome = true := (List.mem_filter.mp hm).2
    rw [n] at q; simp at q
theorem of_hidT {h : Heap} {H : Hp} {b : Addr} {o : Obj} (e : (hidT h H).get? b = some o) : h.get? b = some o ∧ H b = none := by
  have e' : h.get? b = some o := PySem.W.of_hideAll (trk h H) e
  refine ⟨e', ?_⟩
  cases q : H b with
  | none => rfl
  | some x =>
    have hm : b ∈ trk h H := List.mem_filter.mpr ⟨List.mem_range.mpr (Heap.lt_size e'), by simp [q]⟩
    have z : (hidT h H).get? b = none := PySem.W.hideAll_none (trk h H) hm
    rw [z] at e; cases e

/-! ### OpenK's ledger, filled with every new object but one -/
def allNews (g h : Heap) (L : Addr) : List (Addr × Obj) := (List.range h.objs.size).filterMap fun a => if a = L ∨ (g.get? a).isSome = true then none else (h.get? a).map fun o => (a, o)
def rest (g h : Heap) (L d : Addr) : List (Addr × Obj) := (allNews g h L).filter fun p => decide (p.1 ≠ d)
end L2

namespace L2
open PySem PySem.Spec PyProof.Rows

/-- the module's facts, over the base: the heap at the law's entry without what is tracked there -/
structure Mod (K : PySem.W.Frag) (mg : Str → Option Value) (base : Heap) : Prop where
  kin : K.In base
  glob : base.Ns mainGlobals mg
  blt : ∃ mb, base.Ns builtinsNs mb ∧ ∀ x : Str, x ≠ "__name__" → mb x = bootBuiltins x
  nolimit : base.NoLimit

/-- the context: a def's body (or a comprehension's block) running. base: fixed through the whole law; s₀, H₀: the entry; outer: the frames whose slots others may change (a def's callers); stack: all frames that run;
   ex: iterators that were made ahead of the entry and are walked here (a comprehension's); fn: the names whose cells were made at the entry (a def: all; a comprehension's block: its own); calm: not within an except suite; pn: pins that every state bears; xe: what is wanted of an exception that leaves the code -/
structure Cx where
  prog : Program
  w : World
  K : PySem.W.Frag
  mg : Str → Option Value
  base : Heap
  A : Around
  N : List Str
  s_0 : Shared
  H_0 : Hp
  env : Env
  outer : List Env
  stack : List Env
  ex : List Addr
  fn : Str → Bool
  calm : Bool
  pn : List (Addr × Obj)
  xe : Value → Shared → Prop
/-- the callers' frames -/
def frs (l : List Env) : List Addr := l.filterMap (·.frame)
abbrev Cx.fs (X : Cx) : List Addr := frs X.outer

def Vis (sc : Scope) (x : Str) : Prop := sc.names.lookup x = some .local ∨ sc.names.lookup x = some .cell ∨ sc.names.lookup x = some .free
def Loc (sc : Scope) (x : Str) : Prop := sc.names.lookup x = some .local ∨ sc.names.lookup x = some .cell
def Look (env : Env) (h : Heap) (m : Str → Option Value) (x : Str) (u : Value) : Prop :=
  (env.kindOf x = some .local ∧ m x = some u) ∨ ((env.kindOf x = some .cell ∨ env.kindOf x = some .free) ∧ ∃ c, env.cells.lookup x = some c ∧ h.IsCell c (some u))

structure Cx.Ok (X : Cx) : Prop where
  mod : Mod X.K X.mg X.base
  kind : X.env.scope.kind = .function
  glob : X.env.globals = mainGlobals
  blt : X.env.builtins = builtinsNs
  above : X.s_0.heap.objs.size ≤ X.env.locals
  inj : ∀ x y c, X.env.cells.lookup x = some c → X.env.cells.lookup y = some c → x = y
  has : ∀ x, (X.env.kindOf x = some .cell ∨ X.env.kindOf x = some .free) → ∃ c, X.env.cells.lookup x = some c
  cab : ∀ x c, X.fn x = true → X.env.cells.lookup x = some c → X.s_0.heap.objs.size ≤ c
  hd : X.calm = true → X.A.handled = none
  frames : X.A.frames = some X.stack
  stk : X.stack = X.outer ∨ (X.stack = X.env :: X.outer ∧ X.env.frame = some X.env.locals)
  exf : ∀ b ∈ X.ex, b ≠ X.env.locals ∧ ∀ x c, X.env.cells.lookup x = some c → c ≠ b
  bs : ∀ b o, X.base.get? b = some o → X.s_0.heap.get? b = some o ∧ X.H_0 b = none
  bsz : X.base.objs.size ≤ X.s_0.heap.objs.size
  noex : ∀ b o, X.base.get? b = some o → b ∉ X.ex
  exfs : ∀ b ∈ X.ex, b ∉ X.fs
  funs : X.s_0.heap.FunFrames X.base X.outer
  frf : ∀ b ∈ X.fs, X.H_0 b = none

structure Inv (X : Cx) (pins : List (Addr × Obj)) (σ : List (Option V)) (H : Hp) (s : Shared) : Prop where
  ok : X.Ok
  os : s.os = X.s_0.os
  bare : AllBare s.gens
  base : Un X.fs X.ex X.H_0 H X.s_0.heap s.heap
  loc : ∃ m, s.heap.Ns X.env.locals m ∧ ∀ (i : Nat) (x : Str) (v : V), X.N[i]? = some x → σ[i]? = some (some v) → Vis X.env.scope x → ∃ u, RelV v u ∧ Look X.env s.heap m x u
  cell : ∀ x c, X.env.cells.lookup x = some c → ∃ v, s.heap.IsCell c v
  free : H X.env.locals = none
  freeC : ∀ x c, X.env.cells.lookup x = some c → H c = none
  pin : ∀ p ∈ X.pn ++ pins, s.heap.get? p.1 = some p.2 ∧ H p.1 = none ∧ p.1 ≠ X.env.locals ∧ p.1 ∉ X.fs ∧ ∀ v, p.2.data ≠ .cell v
  hok : HOk X.prog X.w H s.heap
  len : σ.length = X.N.length

section
variable {X : Cx} {pins : List (Addr × Obj)} {σ : List (Option V)} {H H' : Hp} {s : Shared} {h' : Heap}

theorem Cx.Ok.nofr (ok : X.Ok) {b : Addr} {o : Obj} (e : X.base.get? b = some o) : b ∉ X.fs := fun hb => by
  have := (ok.funs.mem hb).1
  rw [e] at this; cases this
theorem Inv.bs (I : Inv X pins σ H s) : ∀ b o, X.base.get? b = some o → s.heap.get? b = some o ∧ H b = none := fun b o e =>
  ⟨I.base.keep b o (I.ok.bs b o e).1 (I.ok.bs b o e).2 (I.ok.nofr e) (I.ok.noex b o e), I.base.free b o (I.ok.bs b o e).1 (I.ok.bs b o e).2 (I.ok.noex b o e)⟩
theorem Inv.bk (I : Inv X pins σ H s) : ∀ b o, X.base.get? b = some o → s.heap.get? b = some o := fun b o e => (I.bs b o e).1
theorem Inv.mod (I : Inv X pins σ H s) : Mod X.K X.mg X.base := I.ok.mod
theorem Inv.kIn (I : Inv X pins σ H s) : X.K.In s.heap := I.ok.mod.kin.keeps I.bk
theorem Inv.nolimit (I : Inv X pins σ H s) : s.heap.NoLimit := I.ok.mod.nolimit.keeps I.bk
/-- the frame over the base: for OpenK's rules (K.In X.base is I.mod.kin) -/
theorem Inv.fr (I : Inv X pins σ H s) : ∃ m, Fr X.base X.env.locals s.heap m :=
  let ⟨m, hn, _⟩ := I.loc
  ⟨m, hn, I.bk, Nat.le_trans I.ok.bsz I.ok.above⟩
theorem Inv.lt (I : Inv X pins σ H s) : X.env.locals < s.heap.objs.size := let ⟨_, hn, _⟩ := I.loc; hn.lt
theorem Inv.sz (I : Inv X pins σ H s) : X.s_0.heap.objs.size ≤ s.heap.objs.size := Nat.le_trans I.ok.above (Nat.le_of_lt I.lt)
theorem Inv.nofs (I : Inv X pins σ H s) {a : Addr} (h : s.heap.objs.size ≤ a) : a ∉ X.fs := fun hb => by
  obtain ⟨_, o, ho, _⟩ := I.ok.funs.mem hb
  exact absurd (Nat.lt_of_lt_of_le (Heap.lt_size ho) (Nat.le_trans I.sz h)) (Nat.lt_irrefl _)
theorem Inv.cne (I : Inv X pins σ H s) : ∀ x c, X.env.cells.lookup x = some c → c ≠ X.env.locals := fun x c e z => by
  obtain ⟨v, o, ho, hd⟩ := I.cell x c e
  obtain ⟨m, ⟨o', es, ep, ho', hd', _⟩, _⟩ := I.loc
  rw [z, ho'] at ho; cases ho; rw [hd'] at hd; cases hd
theorem Inv.funs (I : Inv X pins σ H s) : s.heap.FunFrames X.base X.outer := by
  have all : ∀ (l : List Env), (∀ b ∈ frs l, b ∈ X.fs) → X.s_0.heap.FunFrames X.base l → s.heap.FunFrames X.base l := by
    intro l
    induction l with
    | nil => intro _ _; trivial
    | cons env r ih =>
      intro hs hl
      obtain ⟨hk, ⟨L, o, hf, hn, ho, hd⟩, hr⟩ := hl
      have hL : L ∈ X.fs := hs L (by unfold frs; rw [List.filterMap_cons, hf]; exact List.mem_cons_self)
      obtain ⟨sl, e⟩ := I.base.slot L o ho (I.ok.frf L hL) hL fun z => I.ok.exfs L z hL
      exact ⟨hk, ⟨L, _, hf, hn, e, hd⟩, ih (fun b hb => hs b (by unfold frs; rw [List.filterMap_cons, hf]; exact List.mem_cons_of_mem _ hb)) hr⟩
  exact all X.outer (fun _ hb => hb) I.ok.funs

/-- the frames that run, for a call -/
theorem Inv.stack (I : Inv X pins σ H s) : s.heap.FunFrames X.base X.stack := by
  rcases I.ok.stk with e | ⟨e, hf⟩
  · rw [e]; exact I.funs
  · rw [e]
    obtain ⟨m, hn, _⟩ := I.loc
    refine .cons (by rw [I.ok.kind]; decide) hf hn ?_ I.funs
    exact Heap.get?_none_of_le (Nat.le_trans I.ok.bsz I.ok.above)
theorem Inv.stkSub (I : Inv X pins σ H s) : ∀ b ∈ frs X.stack, b ∈ X.env.locals :: X.fs := fun b hb => by
  rcases I.ok.stk with e | ⟨e, hf⟩
  · rw [e] at hb; exact List.mem_cons_of_mem _ hb
  · rw [e] at hb
    unfold frs at hb
    rw [List.filterMap_cons, hf] at hb
    exact hb
theorem Inv.stkFree (I : Inv X pins σ H s) : ∀ b ∈ frs X.stack, H b = none := fun b hb => by
  rcases List.mem_cons.mp (I.stkSub b hb) with e | hb
  · rw [e]; exact I.free
  · obtain ⟨_, o, ho, _⟩ := I.ok.funs.mem hb
    exact I.base.free b o ho (I.ok.frf b hb) fun z => I.ok.exfs b z hb

/-- THE STEP: the untracked objects but the frame and the records at ch are kept (the callers' frames up to slots), the frame's map is kept, the new abstract heap is held -/
theorem Inv.step {g' : Array GenState} {t' : Nat} {d' : Drawn} {ch : List Addr} (I : Inv X pins σ H s)
    (hch : ∀ b ∈ ch, (b ∈ X.ex ∨ X.s_0.heap.objs.size ≤ b) ∧ b ≠ X.env.locals ∧ (∀ x c, X.env.cells.lookup x = some c → c ≠ b) ∧ ∀ p ∈ X.pn ++ pins, p.1 ≠ b)
    (keep : ∀ b o, b ≠ X.env.locals → b ∉ X.fs → b ∉ ch → s.heap.get? b = some o → H b = none → h'.get? b = some o)
    (slot : ∀ b o, b ≠ X.env.locals → b ∈ X.fs → b ∉ ch → s.heap.get? b = some o → H b = none → ∃ sl, h'.get? b = some { o with slots := sl }) (free : ∀ b o, b ∉ ch → s.heap.get? b = some o → H b = none → H' b = none)
    (there : ∀ b o, b ∉ ch → s.heap.get? b = some o → ∃ o', h'.get? b = some o')
    (tups : ∀ b xs, H b = some (.tup xs) → H' b = some (.tup xs)) (frzs : ∀ b o u, H b = some (.frz o u) → H' b = some (.frz o u)) (tbls : ∀ b ps, H b = some (.tbl ps) → ∃ more, H' b = some (.tbl (ps ++ more)))
    (ns : ∀ m, s.heap.Ns X.env.locals m → h'.Ns X.env.locals m) (hok : HOk X.prog X.w H' h') (hg : AllBare g') :
    Inv X pins σ H' { s with heap := h', gens := g', drawn := d', toks := t' } := by
  have neL : ∀ b o, X.s_0.heap.get? b = some o → b ≠ X.env.locals := fun b o e => Nat.ne_of_lt (Nat.lt_of_lt_of_le (Heap.lt_size e) I.ok.above)
  have neC : ∀ b o, X.s_0.heap.get? b = some o → b ∉ X.ex → b ∉ ch := fun b o e hx hb => by
    rcases (hch b hb).1 with z | z
    · exact hx z
    · exact absurd (Nat.lt_of_lt_of_le (Heap.lt_size e) z) (Nat.lt_irrefl _)
  have cellK : ∀ x c, X.env.cells.lookup x = some c → ∀ v, s.heap.IsCell c v → h'.IsCell c v := fun x c e v ⟨o, ho, hd⟩ => by
    have nch : c ∉ ch := fun z => (hch c z).2.2.1 x c e rfl
    by_cases hc : c ∈ X.fs
    · obtain ⟨sl, q⟩ := slot c o (I.cne x c e) hc nch ho (I.freeC x c e)
      exact ⟨_, q, hd⟩
    · exact ⟨o, keep c o (I.cne x c e) hc nch ho (I.freeC x c e), hd⟩
  refine ⟨I.ok, I.os, hg, ⟨fun b o e n hb hx => ?_, fun b o e n hb hx => ?_, fun b o e n hx => ?_, fun b o e hx => ?_, fun b xs e => tups b xs (I.base.tups b xs e), fun b o xs e => frzs b o xs (I.base.frzs b o xs e), fun b ps e => ?_⟩, ?_, fun x c e => ?_, ?_, fun x c e => ?_, fun p hp => ?_, hok, I.len⟩
  · exact keep b o (neL b o e) hb (neC b o e hx) (I.base.keep b o e n hb hx) (I.base.free b o e n hx)
  · obtain ⟨sl, e1⟩ := I.base.slot b o e n hb hx
    obtain ⟨sl', e2⟩ := slot b _ (neL b o e) hb (neC b o e hx) e1 (I.base.free b o e n hx)
    exact ⟨sl', e2⟩
  · obtain ⟨o', e1⟩ := I.base.there b o e hx
    exact free b o' (neC b o e hx) e1 (I.base.free b o e n hx)
  · obtain ⟨o', e1⟩ := I.base.there b o e hx
    exact there b o' (neC b o e hx) e1
  · obtain ⟨m1, e1⟩ := I.base.tbls b ps e
    obtain ⟨m2, e2⟩ := tbls b _ e1
    exact ⟨m1 ++ m2, by rw [e2, Array.append_assoc]⟩
  · obtain ⟨m, hn, hl⟩ := I.loc
    refine ⟨m, ns m hn, fun i x v e1 e2 e3 => ?_⟩
    obtain ⟨u, r, l⟩ := hl i x v e1 e2 e3
    refine ⟨u, r, ?_⟩
    rcases l with l | ⟨k, c, e, z⟩
    · exact .inl l
    · exact .inr ⟨k, c, e, cellK x c e _ z⟩
  · obtain ⟨v, z⟩ := I.cell x c e
    exact ⟨v, cellK x c e v z⟩
  · obtain ⟨m, ⟨o, _, _, ho, _⟩, _⟩ := I.loc
    exact free _ o (fun z => (hch _ z).2.1 rfl) ho I.free
  · obtain ⟨v, o, ho, hd⟩ := I.cell x c e
    exact free c o (fun z => (hch c z).2.2.1 x c e rfl) ho (I.freeC x c e)
  · obtain ⟨e, n, ne, nf, d⟩ := I.pin p hp
    have nch : p.1 ∉ ch := fun z => (hch p.1 z).2.2.2 p hp rfl
    exact ⟨keep p.1 p.2 ne nf nch e n, free p.1 p.2 nch e n, ne, nf, d⟩
/-- .. where the frame's own object is kept too -/
theorem Inv.un {t' : Nat} (I : Inv X pins σ H s) (u : Un X.fs [] H H' s.heap h') (hok : HOk X.prog X.w H' h') : Inv X pins σ H' { s with heap := h', toks := t' } := by
  obtain ⟨m, ⟨o, es, ep, ho, r⟩, _⟩ := id I.loc
  obtain ⟨sl, hL⟩ := u.any ho I.free (by simp)
  exact I.step (g' := s.gens) (d' := s.drawn) (ch := []) (fun _ z => nomatch z) (fun b o _ hb _ e n => u.keep b o e n hb (by simp)) (fun b o _ hb _ e n => u.slot b o e n hb (by simp)) (fun b o _ e n => u.free b o e n (by simp)) (fun b o _ e => u.there b o e (by simp)) u.tups u.frzs u.tbls (fun m' hm => by
    obtain ⟨o', es', ep', ho', r'⟩ := hm
    rw [ho] at ho'; cases ho'
    exact ⟨_, es', ep', hL, r'⟩) hok I.bare
/-- behind a call (or a comprehension's block): the slots of this frame may have changed too, the records at ch may have turned -/
theorem Inv.call {g' : Array GenState} {t' : Nat} {d' : Drawn} {ch : List Addr} (I : Inv X pins σ H s) (u : Un (frs X.stack) ch H H' s.heap h') (hok : HOk X.prog X.w H' h') (hg : AllBare g')
    (hch : ∀ b ∈ ch, (b ∈ X.ex ∨ X.s_0.heap.objs.size ≤ b) ∧ b ≠ X.env.locals ∧ (∀ x c, X.env.cells.lookup x = some c → c ≠ b) ∧ ∀ p ∈ X.pn ++ pins, p.1 ≠ b) :
    Inv X pins σ H' { s with heap := h', gens := g', drawn := d', toks := t' } := by
  obtain ⟨m, ⟨o, es, ep, ho, r⟩, _⟩ := id I.loc
  obtain ⟨sl, hL⟩ := u.any ho I.free fun z => (hch _ z).2.1 rfl
  exact I.step (ch := ch) hch (fun b o hL hb hc e n => u.keep b o e n (fun z => (List.mem_cons.mp (I.stkSub b z)).elim hL hb) hc) (fun b o _ _ hc e n => u.any e n hc) (fun b o hc e n => u.free b o e n hc) (fun b o hc e => u.there b o e hc) u.tups u.frzs u.tbls (fun m' hm => by
    obtain ⟨o', es', ep', ho', r'⟩ := hm
    rw [ho] at ho'; cases ho'
    exact ⟨_, es', ep', hL, r'⟩) hok hg
/-- an untracked record of ours (an iterator) has turned -/
theorem Inv.turned {t' : Nat} {it : Addr} (I : Inv X pins σ H s) (k : ∀ b o, b ≠ it → s.heap.get? b = some o → h'.get? b = some o) (hn : H it = none) (hL : it ≠ X.env.locals)
    (h1 : it ∈ X.ex ∨ X.s_0.heap.objs.size ≤ it) (h2 : ∀ x c, X.env.cells.lookup x = some c → c ≠ it) (h3 : ∀ p ∈ X.pn ++ pins, p.1 ≠ it) : Inv X pins σ H { s with heap := h', toks := t' } := by
  have nit : ∀ b u, H b = some u → b ≠ it := fun b u e z => by rw [z, hn] at e; cases e
  refine I.step (g' := s.gens) (d' := s.drawn) (ch := [it]) (fun b hb => ?_) (fun b o _ _ hc e _ => k b o (fun z => hc (by simp [z])) e) (fun b o _ _ hc e _ => ⟨o.slots, k b o (fun z => hc (by simp [z])) e⟩) (fun _ _ _ _ n => n)
    (fun b o hc e => ⟨o, k b o (fun z => hc (by simp [z])) e⟩) (fun _ _ e => e) (fun _ _ _ e => e) (fun b ps e => ⟨#[], by rw [e]; simp⟩) (fun m hm => ?_) (fun b u e => ?_) I.bare
  · have e : b = it := by simpa using hb
    subst e
    exact ⟨h1, hL, h2, h3⟩
  · obtain ⟨o, es, ep, ho, r⟩ := hm
    exact ⟨o, es, ep, k _ o (Ne.symm hL) ho, r⟩
  · refine (I.hok b u e).stay (fun c v hc q => k c v ?_ q) (fun _ q => q) fun _ _ q => q
    rcases hc with z | z
    · rw [z]; exact nit b u e
    · exact nit c _ z
theorem Inv.tok (I : Inv X pins σ H s) (t : Nat) : Inv X pins σ H { s with toks := t } := I.un (h' := s.heap) (t' := t) Un.refl I.hok
/-- all objects kept -/
theorem Inv.kept {t' : Nat} (I : Inv X pins σ H s) (k : ∀ b u, s.heap.get? b = some u → h'.get? b = some u) : Inv X pins σ H { s with heap := h', toks := t' } := I.un (Un.kept k) (I.hok.kept k)
/-- a new object laid and tracked -/
theorem Inv.laid {a : Addr} {o : HO} {t' : Nat} (I : Inv X pins σ H s) (k : ∀ b u, s.heap.get? b = some u → h'.get? b = some u) (hp : s.heap.objs.size ≤ a) (new : ObjOk X.prog X.w (upd H a o) h' a o) :
    Inv X pins σ (upd H a o) { s with heap := h', toks := t' } := I.un (Un.laid k hp (I.hok.fresh hp)) (I.hok.laid k hp new)
/-- an object written -/
theorem Inv.write {x e : Addr} {o : HO} {t' : Nat} (I : Inv X pins σ H s) (mu : Mut (H x)) (he : e = x ∨ H e = some (.own x)) (k : ∀ b u, b ≠ e → s.heap.get? b = some u → h'.get? b = some u) (heo : ∃ u, h'.get? e = some u)
    (new : ObjOk X.prog X.w (upd H x o) h' x o) : Inv X pins σ (upd H x o) { s with heap := h', toks := t' } := I.un (Un.write mu he k heo) (I.hok.write mu he k heo new)
/-- forgetting slots, pins -/
theorem Inv.weak {σ' : List (Option V)} (I : Inv X pins σ H s) (hl : σ'.length = σ.length) (w : ∀ (i : Nat) v, σ'[i]? = some (some v) → σ[i]? = some (some v)) : Inv X pins σ' H s :=
  ⟨I.ok, I.os, I.bare, I.base, let ⟨m, hn, hl'⟩ := I.loc; ⟨m, hn, fun i x v e1 e2 e3 => hl' i x v e1 (w i v e2) e3⟩, I.cell, I.free, I.freeC, I.pin, I.hok, hl.trans I.len⟩
theorem Inv.pins_of {pins' : List (Addr × Obj)} (I : Inv X pins σ H s) (h : ∀ p ∈ pins', s.heap.get? p.1 = some p.2 ∧ H p.1 = none ∧ p.1 ≠ X.env.locals ∧ p.1 ∉ X.fs ∧ ∀ v, p.2.data ≠ .cell v) : Inv X pins' σ H s :=
  ⟨I.ok, I.os, I.bare, I.base, I.loc, I.cell, I.free, I.freeC, fun p hp => (List.mem_append.mp hp).elim (fun z => I.pin p (List.mem_append_left _ z)) (h p), I.hok, I.len⟩

theorem nodup_ix {N : List Str} (hN : N.Nodup) {i j : Nat} {x : Str} (a : N[i]? = some x) (b : N[j]? = some x) : i = j := by
  obtain ⟨h1, e1⟩ := List.getElem?_eq_some_iff.mp a
  obtain ⟨h2, e2⟩ := List.getElem?_eq_some_iff.mp b
  exact (List.getElem_inj hN).mp (e1.trans e2.symm)

/-- a name is stored; what changed -/
theorem store_ok2 {M : Model} {A : Around} {E : Value → Shared → Prop} {i : Nat} {x : Str} {v : V} {u : Value} {Q : Unit → Shared → Prop} (I : Inv X pins σ H s) (hN : X.N.Nodup) (hi : X.N[i]? = some x) (hx : Loc X.env.scope x) (r : RelV v u)
    (h : ∀ s', Inv X pins (σ.set i (some v)) H s' → (∃ a, Heap.SameBut a s.heap s'.heap ∧ (a = X.env.locals ∨ X.env.cells.lookup x = some a)) → Q () s') (hf : X.fn x = true ∨ X.env.scope.names.lookup x = some .local := by first | exact .inl rfl | exact .inr rfl | assumption) : wpAny M A (storeName X.env x u) Q E s := by
  obtain ⟨m, hn, hl⟩ := id I.loc
  have hcls : (X.env.scope.kind == .class || (X.env.scope.kind == .module && X.env.locals != X.env.globals)) = false := by rw [I.ok.kind]; rfl
  have hiσ : i < σ.length := by rw [I.len]; exact (List.getElem?_eq_some_iff.mp hi).1
  have cne := I.cne
  have tracked : ∀ {a : Addr} {h' : Heap}, (∃ o, s.heap.get? a = some o ∧ H a = none) → Heap.SameBut a s.heap h' → HOk X.prog X.w H h' := fun {a h'} ha hs b ob e => by
    obtain ⟨_, _, hfree⟩ := ha
    refine (I.hok b ob e).stay (fun c w' hc q => (hs.2 c ?_).trans q) (fun _ q => q) fun _ _ q => q
    rintro rfl
    rcases hc with rfl | hc
    · rw [hfree] at e; cases e
    · rw [hfree] at hc; cases hc
  rcases hx with hk | hk
  · refine wpAny_storeName_local hk hn (fun h' hn' hs => ?_) hcls
    obtain ⟨oL, _, _, hoL, _⟩ := id hn
    refine h _ ⟨I.ok, I.os, I.bare, ⟨fun b o e n hb hx => ?_, fun b o e n hb hx => ?_, I.base.free, fun b o e hx => ?_, I.base.tups, I.base.frzs, I.base.tbls⟩, ⟨_, hn', fun j y v' e1 e2 e3 => ?_⟩, fun y c e => ?_, I.free, I.freeC, fun p hp => ?_, tracked ⟨oL, hoL, I.free⟩ hs, by simpa using I.len⟩ ⟨_, hs, .inl rfl⟩
    · exact (hs.2 b (Nat.ne_of_lt (Nat.lt_of_lt_of_le (Heap.lt_size e) I.ok.above))).trans (I.base.keep b o e n hb hx)
    · obtain ⟨sl, e1⟩ := I.base.slot b o e n hb hx
      exact ⟨sl, (hs.2 b (Nat.ne_of_lt (Nat.lt_of_lt_of_le (Heap.lt_size e) I.ok.above))).trans e1⟩
    · obtain ⟨o', e1⟩ := I.base.there b o e hx
      exact ⟨o', (hs.2 b (Nat.ne_of_lt (Nat.lt_of_lt_of_le (Heap.lt_size e) I.ok.above))).trans e1⟩
    · by_cases hj : j = i
      · subst hj
        rw [hi] at e1; cases e1
        rw [List.getElem?_set_self hiσ] at e2
        cases e2
        exact ⟨u, r, .inl ⟨hk, by simp⟩⟩
      · rw [List.getElem?_set_ne (Ne.symm hj)] at e2
        obtain ⟨u', r', q⟩ := hl j y v' e1 e2 e3
        refine ⟨u', r', ?_⟩
        rcases q with ⟨k, e⟩ | ⟨k, c, e, z⟩
        · refine .inl ⟨k, ?_⟩
          have : y ≠ x := fun e => hj (nodup_ix hN e1 (e ▸ hi))
          simp [this, e]
        · exact .inr ⟨k, c, e, z.sameBut hs (cne y c e)⟩
    · obtain ⟨w', z⟩ := I.cell y c e
      exact ⟨w', z.sameBut hs (cne y c e)⟩
    · obtain ⟨e, n, ne, nf, d⟩ := I.pin p hp
      exact ⟨(hs.2 p.1 ne).trans e, n, ne, nf, d⟩
  · have hfn : X.fn x = true := by
      rcases hf with z | z
      · exact z
      · rw [z] at hk; cases hk
    obtain ⟨c, hc⟩ := I.ok.has x (.inl hk)
    obtain ⟨w', z⟩ := I.cell x c hc
    refine wpAny_storeName_cell I.ok.kind hk hc z (fun h' hc' hs => ?_)
    obtain ⟨oc, hoc, hocd⟩ := id z
    refine h { s with heap := h' } ⟨I.ok, I.os, I.bare, ⟨fun b o e n hb hx => ?_, fun b o e n hb hx => ?_, I.base.free, fun b o e hx => ?_, I.base.tups, I.base.frzs, I.base.tbls⟩, ⟨m, hn.sameBut hs (Ne.symm (cne x c hc)), fun j y v' e1 e2 e3 => ?_⟩, fun y c' e => ?_, I.free, I.freeC, fun p hp => ?_, tracked ⟨oc, hoc, I.freeC x c hc⟩ hs, by simpa using I.len⟩ ⟨c, hs, .inr hc⟩
    · exact (hs.2 b (Nat.ne_of_lt (Nat.lt_of_lt_of_le (Heap.lt_size e) (I.ok.cab x c hfn hc)))).trans (I.base.keep b o e n hb hx)
    · obtain ⟨sl, e1⟩ := I.base.slot b o e n hb hx
      exact ⟨sl, (hs.2 b (Nat.ne_of_lt (Nat.lt_of_lt_of_le (Heap.lt_size e) (I.ok.cab x c hfn hc)))).trans e1⟩
    · obtain ⟨o', e1⟩ := I.base.there b o e hx
      exact ⟨o', (hs.2 b (Nat.ne_of_lt (Nat.lt_of_lt_of_le (Heap.lt_size e) (I.ok.cab x c hfn hc)))).trans e1⟩
    · by_cases hj : j = i
      · subst hj
        rw [hi] at e1; cases e1
        rw [List.getElem?_set_self hiσ] at e2
        cases e2
        exact ⟨u, r, .inr ⟨.inl hk, c, hc, hc'⟩⟩
      · rw [List.getElem?_set_ne (Ne.symm hj)] at e2
        obtain ⟨u', r', q⟩ := hl j y v' e1 e2 e3
        refine ⟨u', r', ?_⟩
        rcases q with q | ⟨k, c', e, z'⟩
        · exact .inl q
        · refine .inr ⟨k, c', e, z'.sameBut hs ?_⟩
          rintro rfl
          exact hj (nodup_ix hN e1 (I.ok.inj _ _ _ e hc ▸ hi))
    · by_cases hcc : c' = c
      · subst hcc; exact ⟨_, hc'⟩
      · obtain ⟨w2, z2⟩ := I.cell y c' e
        exact ⟨w2, z2.sameBut hs hcc⟩
    · obtain ⟨e, n, ne, nf, d⟩ := I.pin p hp
      refine ⟨(hs.2 p.1 ?_).trans e, n, ne, nf, d⟩
      intro q
      rw [q, hoc] at e
      have q' : oc = p.2 := Option.some.inj e
      exact d w' (by rw [← q']; exact hocd)
theorem store_ok {M : Model} {A : Around} {E : Value → Shared → Prop} {i : Nat} {x : Str} {v : V} {u : Value} {Q : Unit → Shared → Prop} (I : Inv X pins σ H s) (hN : X.N.Nodup) (hi : X.N[i]? = some x) (hx : Loc X.env.scope x) (r : RelV v u)
    (h : ∀ s', Inv X pins (σ.set i (some v)) H s' → Q () s') (hf : X.fn x = true ∨ X.env.scope.names.lookup x = some .local := by first | exact .inl rfl | exact .inr rfl | assumption) : wpAny M A (storeName X.env x u) Q E s :=
  store_ok2 I hN hi hx r (fun s' I' _ => h s' I') hf
/-- behind a call or a block, the state as it is -/
theorem Inv.call' {s' : Shared} {ch : List Addr} (I : Inv X pins σ H s) (ho : s'.os = s.os) (u : Un (frs X.stack) ch H H' s.heap s'.heap) (hok : HOk X.prog X.w H' s'.heap) (hg : AllBare s'.gens)
    (hch : ∀ b ∈ ch, (b ∈ X.ex ∨ X.s_0.heap.objs.size ≤ b) ∧ b ≠ X.env.locals ∧ (∀ x c, X.env.cells.lookup x = some c → c ≠ b) ∧ ∀ p ∈ X.pn ++ pins, p.1 ≠ b) : Inv X pins σ H' s' := by
  obtain ⟨h', g', d', t', o'⟩ := s'
  have e : o' = s.os := ho
  subst e
  exact I.call (g' := g') (t' := t') (d' := d') u hok hg hch
end

/-! ### the judgements -/
/-- an exception: its class, its own dict's address (where it has one), the abstract heap behind it -/
abbrev XK := Value → Option Addr → Hp → Prop
abbrev St := List (Option V)
abbrev VK := V → Hp → Prop
/-- an expression's reading; a test's; an argument list's -/
abbrev TE := St → Hp → VK → Prop
abbrev TT := St → Hp → (Bool → Hp → Prop) → Prop
abbrev TA := St → Hp → (List V → Hp → Prop) → Prop
/-- what is wanted behind a statement -/
structure Ends where
  nx : St → Hp → Prop
  rt : VK
  bk : St → Hp → Prop := fun _ _ => False
  ct : St → Hp → Prop := fun _ _ => False
abbrev TS := Ends → St → Hp → Prop

def EP (X : Cx) (pins : List (Addr × Obj)) (σ : St) (Q : VK) (u : Value) (s' : Shared) : Prop := ∃ v H', Inv X pins σ H' s' ∧ RelV v u ∧ Q v H'
def TP (X : Cx) (pins : List (Addr × Obj)) (σ : St) (Q : Bool → Hp → Prop) (b : Bool) (s' : Shared) : Prop := ∃ H', Inv X pins σ H' s' ∧ Q b H'
def AP (X : Cx) (pins : List (Addr × Obj)) (σ : St) (Q : List V → Hp → Prop) (us : List Value) (s' : Shared) : Prop := ∃ vs H', Inv X pins σ H' s' ∧ Vals vs us ∧ Q vs H'
def SP (X : Cx) (pins : List (Addr × Obj)) (D : Ends) (f : Flow) (s' : Shared) : Prop :=
  match f with
  | .next => ∃ σ' H', Inv X pins σ' H' s' ∧ D.nx σ' H'
  | .brk => ∃ σ' H', Inv X pins σ' H' s' ∧ D.bk σ' H'
  | .cont => ∃ σ' H', Inv X pins σ' H' s' ∧ D.ct σ' H'
  | .ret u => ∃ v σ' H', Inv X pins σ' H' s' ∧ RelV v u ∧ D.rt v H'

def PE (X : Cx) (e : Expr) (t : TE) : Prop :=
  ∀ (pins : List (Addr × Obj)) (s : Shared) (σ : St) (H : Hp) (Q : VK), Inv X pins σ H s → t σ H Q → wpAny (model X.prog X.w) X.A (eval e X.env) (EP X pins σ Q) X.xe s
def PT (X : Cx) (e : Expr) (t : TT) : Prop :=
  ∀ (pins : List (Addr × Obj)) (s : Shared) (σ : St) (H : Hp) (Q : Bool → Hp → Prop), Inv X pins σ H s → t σ H Q → wpAny (model X.prog X.w) X.A (isTrue e X.env (eval e X.env)) (TP X pins σ Q) X.xe s
/-- a test whatever its 'whole' is (and, or) -/
def PW (X : Cx) (e : Expr) (t : TT) : Prop :=
  ∀ (whole : Sem Value) (pins : List (Addr × Obj)) (s : Shared) (σ : St) (H : Hp) (Q : Bool → Hp → Prop), Inv X pins σ H s → t σ H Q → wpAny (model X.prog X.w) X.A (isTrue e X.env whole) (TP X pins σ Q) X.xe s
theorem PW.pt {X : Cx} {e : Expr} {t : TT} (h : PW X e t) : PT X e t := h _
/-- an argument list (no star), from the left -/
def PA (X : Cx) (es : List Expr) (t : TA) : Prop :=
  ∀ (pos : Pos) (pins : List (Addr × Obj)) (s : Shared) (σ : St) (H : Hp) (Q : List V → Hp → Prop), Inv X pins σ H s → t σ H Q → wpAny (model X.prog X.w) X.A (spliced (backTo pos (starEach es X.env))) (AP X pins σ Q) X.xe s
def PS (X : Cx) (st : Stmt) (t : TS) : Prop :=
  ∀ (pins : List (Addr × Obj)) (s : Shared) (σ : St) (H : Hp) (D : Ends), Inv X pins σ H s → t D σ H → wpAny (model X.prog X.w) X.A (exec st X.env) (SP X pins D) X.xe s
def PSs (X : Cx) (st : List Stmt) (t : TS) : Prop :=
  ∀ (pins : List (Addr × Obj)) (s : Shared) (σ : St) (H : Hp) (D : Ends), Inv X pins σ H s → t D σ H → wpAny (model X.prog X.w) X.A (execs st X.env) (SP X pins D) X.xe s
/-- weaken the end -/
theorem thn {α : Type} {t : Sem α} {Q Q' : α → Shared → Prop} {M : Model} {A : Around} {E : Value → Shared → Prop} {s : Shared} (h : wpAny M A t Q E s) (hQ : ∀ a s, Q a s → Q' a s) : wpAny M A t Q' E s := wpAny_mono h hQ fun _ _ x => x
end L2

namespace L2
open PySem PySem.Spec PyProof.Rows
section
variable {X : Cx}

/-! ### names and constants -/
def tVar (i : Nat) : TE := fun σ H Q => ∃ v, σ[i]? = some (some v) ∧ Q v H
def tC (v : V) : TE := fun _ H Q => Q v H
theorem pe_var {i : Nat} {x : Str} {pos : Pos} (hN : X.N[i]? = some x) (hv : Vis X.env.scope x) (hd : (x == ("__debug__" : Str)) = false := by decide) (hcd : (x == ("__classdict__" : Str)) = false := by decide) : PE X (.Name x pos) (tVar i) := by
  intro pins s σ H Q I h
  obtain ⟨v, e, h⟩ := h
  obtain ⟨m, hn, hl⟩ := I.loc
  obtain ⟨u, r, l⟩ := hl i x v hN e hv
  have fin : EP X pins σ Q u s := ⟨v, H, I, r, h⟩
  rcases l with ⟨hk, hm⟩ | ⟨hk, c, hc, hcell⟩
  · exact wpAny_Name (wpAny_loadName_local I.ok.kind hk hn hm fin) hd
  · rcases hk with hk | hk
    · exact wpAny_Name (wpAny_loadName_cell I.ok.kind hk hc hcell fin) hd
    · exact wpAny_Name (wpAny_loadName_free I.ok.kind hk hc hcell fin hcd) hd
theorem pe_int {i j pos} : PE X (.Constant (.int i) j pos) (tC (.int i)) := fun _ _ _ H _ I h => wpAny_Constant_int ⟨.int i, H, I.tok _, ⟨_, rfl⟩, h⟩
theorem pe_bl {b j pos} : PE X (.Constant (.bool b) j pos) (tC (.bl b)) := fun _ _ _ H _ I h => Constant_bool ⟨.bl b, H, I, rfl, h⟩
theorem pe_non {j pos} : PE X (.Constant .none j pos) (tC .non) := fun _ _ _ H _ I h => Constant_none ⟨.non, H, I, rfl, h⟩
theorem pe_str {x j pos} : PE X (.Constant (.str x) j pos) (tC (.str x)) := fun _ _ _ H _ I h => Calls.Constant_str ⟨.str x, H, I.tok _, ⟨_, rfl⟩, h⟩

/-- a global name of the def -/
def Gl (X : Cx) (x : Str) : Prop := X.env.kindOf x = some .globalImplicit
theorem ld_glob {E : Value → Shared → Prop} {pins : List (Addr × Obj)} {s : Shared} {σ : St} {H : Hp} {x : Str} {u : Value} {pos : Pos} {Q : Value → Shared → Prop} (I : Inv X pins σ H s) (hg : Gl X x) (hm : X.mg x = some u) (h : Q u s)
    (hd : (x == ("__debug__" : Str)) = false := by decide) : wpAny (model X.prog X.w) X.A (eval (.Name x pos) X.env) Q E s :=
  Calls.Name_function_global I.ok.kind hg (Calls.loadGlobal_global (by rw [I.ok.glob]; exact I.mod.glob.keeps I.bk) hm h) hd
theorem ld_blt {E : Value → Shared → Prop} {pins : List (Addr × Obj)} {s : Shared} {σ : St} {H : Hp} {x : Str} {u : Value} {pos : Pos} {Q : Value → Shared → Prop} (I : Inv X pins σ H s) (hg : Gl X x) (hm : X.mg x = none) (hv : bootBuiltins x = some u) (h : Q u s)
    (hn : x ≠ "__name__" := by decide) (hd : (x == ("__debug__" : Str)) = false := by decide) : wpAny (model X.prog X.w) X.A (eval (.Name x pos) X.env) Q E s := by
  obtain ⟨mb, h1, h2⟩ := I.mod.blt
  exact Calls.Name_function_global I.ok.kind hg (Calls.loadGlobal_builtin (by rw [I.ok.glob]; exact I.mod.glob.keeps I.bk) hm (by rw [I.ok.blt]; exact h1.keeps I.bk) ((h2 x hn).trans hv) h) hd
/-- a module's constant, a class, a function, as a value -/
theorem pe_glob {x : Str} {v : V} {u : Value} {pos : Pos} (hg : Gl X x) (hm : X.mg x = some u) (r : RelV v u) (hd : (x == ("__debug__" : Str)) = false := by decide) : PE X (.Name x pos) (tC v) :=
  fun _ _ _ H _ I h => ld_glob I hg hm ⟨v, H, I, r, h⟩ hd
/-! ### arithmetic -/
variable {a b : Expr} {ta tb : TE} {pos : Pos}
/-! ### comparisons -/
/-! ### and, or, not -/
variable {tA tB' : TT} {rest : List Expr}
def tAnd (t u : TT) : TT := fun σ H Q => t σ H fun c H1 => if c = true then u σ H1 Q else Q false H1
def tOr (t u : TT) : TT := fun σ H Q => t σ H fun c H1 => if c = true then Q true H1 else u σ H1 Q
def tNot (t : TT) : TT := fun σ H Q => t σ H fun c H1 => Q (!c) H1
theorem pw_and1 (ha : PT X a tA) : PW X (.BoolOp .And [a] pos) tA := by
  intro wh pins s σ H Q I h
  refine isTrue_and (thn (ha pins s σ H Q I h) fun c s1 e => ?_)
  cases c with
  | true => exact isTrue_and_nil e
  | false => exact e
theorem pw_or1 (ha : PT X a tA) : PW X (.BoolOp .Or [a] pos) tA := by
  intro wh pins s σ H Q I h
  refine isTrue_or (thn (ha pins s σ H Q I h) fun c s1 e => ?_)
  cases c with
  | false => exact isTrue_or_nil e
  | true => exact e
theorem pw_and (ha : PT X a tA) (hb : PW X (.BoolOp .And (b :: rest) pos) tB') : PW X (.BoolOp .And (a :: b :: rest) pos) (tAnd tA tB') := by
  intro wh pins s σ H Q I h
  refine isTrue_and (thn (ha pins s σ H _ I h) fun c s1 ⟨H1, I1, q1⟩ => ?_)
  cases c with
  | true => exact hb wh pins s1 σ H1 Q I1 q1
  | false => exact ⟨H1, I1, q1⟩
theorem pw_or (ha : PT X a tA) (hb : PW X (.BoolOp .Or (b :: rest) pos) tB') : PW X (.BoolOp .Or (a :: b :: rest) pos) (tOr tA tB') := by
  intro wh pins s σ H Q I h
  refine isTrue_or (thn (ha pins s σ H _ I h) fun c s1 ⟨H1, I1, q1⟩ => ?_)
  cases c with
  | true => exact ⟨H1, I1, q1⟩
  | false => exact hb wh pins s1 σ H1 Q I1 q1
theorem pt_not (ha : PT X a tA) : PT X (.UnaryOp .Not a pos) (tNot tA) := by
  intro pins s σ H Q I h
  exact isTrue_not (ha pins s σ H (fun c H1 => Q (!c) H1) I h)
/-- .. as values (bools) -/
def tAndV (ta tb : TE) : TE := fun σ H Q => ta σ H fun x H1 => ∃ c, x = .bl c ∧ if c = true then tb σ H1 Q else Q (.bl false) H1
def tOrV (ta tb : TE) : TE := fun σ H Q => ta σ H fun x H1 => ∃ c, x = .bl c ∧ if c = true then Q (.bl true) H1 else tb σ H1 Q
theorem pe_one {op} {t : TE} (h : PE X a t) : PE X (.BoolOp op [a] pos) t := fun pins s σ H Q I hw => BoolOp_one (h pins s σ H Q I hw)
theorem pe_and (ha : PE X a ta) (hb : PE X (.BoolOp .And (b :: rest) pos) tb) : PE X (.BoolOp .And (a :: b :: rest) pos) (tAndV ta tb) := by
  intro pins s σ H Q I h
  refine BoolOp_and (thn (ha pins s σ H _ I h) fun v s1 ⟨x, H1, I1, r1, q1⟩ => ?_)
  obtain ⟨c, rfl, q1⟩ := q1
  cases r1
  refine wpAny_truthy_bool ?_
  cases c with
  | true => exact hb pins s1 σ H1 Q I1 q1
  | false => exact ⟨.bl false, H1, I1, rfl, q1⟩
theorem pe_or (ha : PE X a ta) (hb : PE X (.BoolOp .Or (b :: rest) pos) tb) : PE X (.BoolOp .Or (a :: b :: rest) pos) (tOrV ta tb) := by
  intro pins s σ H Q I h
  refine BoolOp_or (thn (ha pins s σ H _ I h) fun v s1 ⟨x, H1, I1, r1, q1⟩ => ?_)
  obtain ⟨c, rfl, q1⟩ := q1
  cases r1
  refine wpAny_truthy_bool ?_
  cases c with
  | false => exact hb pins s1 σ H1 Q I1 q1
  | true => exact ⟨.bl true, H1, I1, rfl, q1⟩
/-- a if t else b -/
def tIf (t : TT) (ta tb : TE) : TE := fun σ H Q => t σ H fun c H1 => if c = true then ta σ H1 Q else tb σ H1 Q
theorem pe_ifExp {c : Expr} (hc : PT X c tA) (ha : PE X a ta) (hb : PE X b tb) : PE X (.IfExp c a b pos) (tIf tA ta tb) := by
  intro pins s σ H Q I h
  refine wpAny_IfExp (thn (hc pins s σ H _ I h) fun d s1 ⟨H1, I1, q1⟩ => ?_)
  cases d with
  | true => exact ha pins s1 σ H1 Q I1 q1
  | false => exact hb pins s1 σ H1 Q I1 q1
end
end L2

namespace L2
open PySem PySem.Spec PyProof.Rows

/-! ### a list, a tuple that is read: tracked, frozen, or an object of the module -/
def SqL (K : PySem.W.Frag) (H : Hp) (a : Addr) (xs : List V) : Prop :=
  Rd H a (.lst xs) ∨
    ∃ (o : Obj) (its : Array Value) (n : Nat), K.lookup a = some o ∧ o.cls = .type "list" ∧ o.dict = none ∧ o.data = .seq its n ∧ its.size ≤ sizeLine ∧ Vals xs its.toList
def SqT (K : PySem.W.Frag) (H : Hp) (a : Addr) (xs : List V) : Prop :=
  Rd H a (.tup xs) ∨
    ∃ (o : Obj) (its : Array Value) (n : Nat), K.lookup a = some o ∧ o.cls = .type "tuple" ∧ o.data = .seq its n ∧ its.size ≤ sizeLine ∧ Vals xs its.toList
def absV : Value → Option V
  | .none => some .non
  | .bool b => some (.bl b)
  | .int i _ => some (.int i)
  | .str x _ => some (.str x)
  | .bytes b _ => some (.byt b)
  | .float b _ => some (.flt b)
  | .ref a => some (.ref a)
  | .type n => some (.ty n)
  | _ => none
theorem RelV.abs {x : V} {u : Value} (r : RelV x u) : absV u = some x := by
  cases x with
  | non => cases r; rfl
  | bl _ => cases r; rfl
  | int _ => obtain ⟨t, rfl⟩ := r; rfl
  | str _ => obtain ⟨t, rfl⟩ := r; rfl
  | byt _ => obtain ⟨t, rfl⟩ := r; rfl
  | flt _ => obtain ⟨t, rfl⟩ := r; rfl
  | ref _ => cases r; rfl
  | ty _ => cases r; rfl
theorem RelV.inj {x y : V} {u : Value} (r : RelV x u) (q : RelV y u) : x = y := Option.some.inj (r.abs.symm.trans q.abs)
theorem Vals.inj : ∀ {xs ys : List V} {us : List Value}, Vals xs us → Vals ys us → xs = ys
  | _, _, _, .nil, .nil => rfl
  | _, _, _, .cons r t, .cons r' t' => by rw [r.inj r', Vals.inj t t']
section
variable {X : Cx} {pins : List (Addr × Obj)} {σ : St} {H : Hp} {s : Shared} {a : Addr} {xs ys : List V}
theorem SqL.of {K : PySem.W.Frag} (h : H a = some (.lst xs)) : SqL K H a xs := .inl (.inl h)
theorem SqT.of {K : PySem.W.Frag} (h : H a = some (.tup xs)) : SqT K H a xs := .inl (.inl h)
theorem Inv.list (I : Inv X pins σ H s) (h : SqL X.K H a xs) : ∃ its : List Value, Vals xs its ∧ PlainL s.heap a its.toArray ∧ xs.length ≤ sizeLine := by
  rcases h with h | ⟨o, its, n, hk, hc, hd, hs, hz, r⟩
  · obtain ⟨z, its, n, r, e⟩ := h.ok I.hok
    exact ⟨its, r, ⟨_, n, e, rfl, rfl, rfl⟩, z⟩
  · refine ⟨its.toList, r, ⟨o, n, I.kIn a o hk, hc, hd, by simpa using hs⟩, ?_⟩
    have e := r.length
    simp only [Array.length_toList] at e
    omega
theorem Inv.tuple (I : Inv X pins σ H s) (h : SqT X.K H a xs) : ∃ its : List Value, Vals xs its ∧ IsTup s.heap a its.toArray ∧ xs.length ≤ sizeLine := by
  rcases h with h | ⟨o, its, n, hk, hc, hs, hz, r⟩
  · obtain ⟨z, its, r, p⟩ := h.ok I.hok
    exact ⟨its, r, p, z⟩
  · refine ⟨its.toList, r, ⟨o, I.kIn a o hk, hc, n, by simpa using hs⟩, ?_⟩
    have e := r.length
    simp only [Array.length_toList] at e
    omega
theorem Inv.list_inj (I : Inv X pins σ H s) (h : SqL X.K H a xs) (h' : SqL X.K H a ys) : xs = ys := by
  obtain ⟨its, r, ⟨o, n, e, _, _, d⟩, _⟩ := I.list h
  obtain ⟨its', r', ⟨o', n', e', _, _, d'⟩, _⟩ := I.list h'
  rw [e] at e'; cases e'
  rw [d] at d'
  injection d' with d1 _
  have : its = its' := by simpa using congrArg Array.toList d1
  subst this
  exact r.inj r'
theorem Inv.tuple_inj (I : Inv X pins σ H s) (h : SqT X.K H a xs) (h' : SqT X.K H a ys) : xs = ys := by
  obtain ⟨its, r, ⟨o, e, _, n, d⟩, _⟩ := I.tuple h
  obtain ⟨its', r', ⟨o', e', _, n', d'⟩, _⟩ := I.tuple h'
  rw [e] at e'; cases e'
  rw [d] at d'
  injection d' with d1 _
  have : its = its' := by simpa using congrArg Array.toList d1
  subst this
  exact r.inj r'
end

/-! ### another wish about exceptions -/
abbrev Cx.wish (X : Cx) (E : Value → Shared → Prop) : Cx := { X with xe := E }
/-- no exception leaves -/
abbrev Cx.nox (X : Cx) : Cx := X.wish fun _ _ => False
theorem Cx.Ok.wish {X : Cx} (ok : X.Ok) (E : Value → Shared → Prop) : (X.wish E).Ok :=
  ⟨ok.mod, ok.kind, ok.glob, ok.blt, ok.above, ok.inj, ok.has, ok.cab, ok.hd, ok.frames, ok.stk, ok.exf, ok.bs, ok.bsz, ok.noex, ok.exfs, ok.funs, ok.frf⟩
theorem Cx.Ok.unwish {X : Cx} {E : Value → Shared → Prop} (ok : (X.wish E).Ok) : X.Ok :=
  ⟨ok.mod, ok.kind, ok.glob, ok.blt, ok.above, ok.inj, ok.has, ok.cab, ok.hd, ok.frames, ok.stk, ok.exf, ok.bs, ok.bsz, ok.noex, ok.exfs, ok.funs, ok.frf⟩
section
variable {X : Cx} {pins : List (Addr × Obj)} {σ : St} {H : Hp} {s : Shared} {E : Value → Shared → Prop}
theorem Inv.wish (I : Inv X pins σ H s) (E : Value → Shared → Prop) : Inv (X.wish E) pins σ H s := ⟨I.ok.wish E, I.os, I.bare, I.base, I.loc, I.cell, I.free, I.freeC, I.pin, I.hok, I.len⟩
theorem Inv.unwish (I : Inv (X.wish E) pins σ H s) : Inv X pins σ H s := ⟨I.ok.unwish, I.os, I.bare, I.base, I.loc, I.cell, I.free, I.freeC, I.pin, I.hok, I.len⟩
theorem SP.unwish {D : Ends} {f : Flow} {s' : Shared} (h : SP (X.wish E) pins D f s') : SP X pins D f s' := by
  cases f with
  | next => obtain ⟨σ', H', I, q⟩ := h; exact ⟨σ', H', I.unwish, q⟩
  | brk => obtain ⟨σ', H', I, q⟩ := h; exact ⟨σ', H', I.unwish, q⟩
  | cont => obtain ⟨σ', H', I, q⟩ := h; exact ⟨σ', H', I.unwish, q⟩
  | ret u => obtain ⟨v, σ', H', I, r, q⟩ := h; exact ⟨v, σ', H', I.unwish, r, q⟩
theorem PE.nox {e : Expr} {t : TE} (h : PE X.nox e t) : PE X e t := fun pins s σ H Q I hw =>
  wpAny_mono (h pins s σ H Q (I.wish _) hw) (fun _ _ ⟨v, H', I', r, q⟩ => ⟨v, H', I'.unwish, r, q⟩) fun _ _ z => False.elim z
theorem PT.nox {e : Expr} {t : TT} (h : PT X.nox e t) : PT X e t := fun pins s σ H Q I hw =>
  wpAny_mono (h pins s σ H Q (I.wish _) hw) (fun _ _ ⟨H', I', q⟩ => ⟨H', I'.unwish, q⟩) fun _ _ z => False.elim z
theorem PSs.nox {st : List Stmt} {t : TS} (h : PSs X.nox st t) : PSs X st t := fun pins s σ H D I hw =>
  wpAny_mono (h pins s σ H D (I.wish _) hw) (fun _ _ q => q.unwish) fun _ _ z => False.elim z
end

/-! ### blocks and small statements -/
section
variable {X : Cx} {st : Stmt} {rest : List Stmt} {t u : TS} {e : Expr} {te : TE} {pos : Pos}
def tNext : TS := fun D σ H => D.nx σ H
def tSeq (t u : TS) : TS := fun D σ H => t { D with nx := u D } σ H
theorem pss_nil : PSs X [] tNext := fun _ _ σ H _ I h => wpAny_execs_nil ⟨σ, H, I, h⟩
theorem pss_cons (h1 : PS X st t) (h2 : PSs X rest u) : PSs X (st :: rest) (tSeq t u) := by
  intro pins s σ H D I h
  refine wpAny_execs_cons (thn (h1 pins s σ H { D with nx := u D } I h) fun f s1 q => ?_)
  cases f with
  | next =>
    obtain ⟨σ', H', I', q⟩ := q
    exact h2 pins s1 σ' H' D I' q
  | ret v => exact q
  | brk => exact q
  | cont => exact q
theorem pss_one (h1 : PS X st t) : PSs X [st] t := by
  intro pins s σ H D I h
  refine wpAny_execs_cons (thn (h1 pins s σ H D I h) fun f s1 q => ?_)
  cases f with
  | next => exact wpAny_execs_nil q
  | ret v => exact q
  | brk => exact q
  | cont => exact q
/-- in a def's body nothing is shown -/
theorem Inv.quiet {pins : List (Addr × Obj)} {σ : St} {H : Hp} {s : Shared} (I : Inv X pins σ H s) : interactive X.env = false := by simp [interactive, I.ok.kind]
/-- an expression whose value is dropped -/
def tDrop (te : TE) : TS := fun D σ H => te σ H fun _ H1 => D.nx σ H1
theorem ps_expr (he : PE X e te) (hs : swapsWith e none pos.line X.env = pure false := by rfl) : PS X (.Expr e pos) (tDrop te) := by
  intro pins s σ H D I h
  exact wpAny_Expr_any (thn (he pins s σ H _ I h) fun v s1 ⟨x, H1, I1, r1, q1⟩ => ⟨σ, H1, I1, q1⟩) I.quiet hs
def tRet (te : TE) : TS := fun D σ H => te σ H D.rt
theorem ps_ret (he : PE X e te) : PS X (.Return (some e) pos) (tRet te) := by
  intro pins s σ H D I h
  exact wpAny_Return_some (thn (he pins s σ H _ I h) fun v s1 ⟨x, H1, I1, r1, q1⟩ => ⟨x, σ, H1, I1, r1, q1⟩)
def tIfS (c : TT) (t u : TS) : TS := fun D σ H => c σ H fun b H1 => if b = true then t D σ H1 else u D σ H1
theorem ps_if {c : Expr} {a b : List Stmt} {tc : TT} (hc : PT X c tc) (ha : PSs X a t) (hb : PSs X b u) : PS X (.If c a b pos) (tIfS tc t u) := by
  intro pins s σ H D I h
  refine wpAny_If (thn (hc pins s σ H _ I h) fun d s1 ⟨H1, I1, q1⟩ => ?_)
  cases d with
  | true => exact ha pins s1 σ H1 D I1 q1
  | false => exact hb pins s1 σ H1 D I1 q1
end

/-! ### targets -/
abbrev TG := V → St → Hp → (St → Hp → Prop) → Prop
abbrev TGs := List V → St → Hp → (St → Hp → Prop) → Prop
def PG (X : Cx) (target : Expr) (t : TG) : Prop :=
  ∀ (pins : List (Addr × Obj)) (s : Shared) (σ : St) (H : Hp) (v : V) (u : Value) (Q : St → Hp → Prop), Inv X pins σ H s → RelV v u → t v σ H Q →
    wpAny (model X.prog X.w) X.A (assign target X.env u) (fun _ s' => ∃ σ' H', Inv X pins σ' H' s' ∧ Q σ' H') X.xe s
/-- several targets, one after another -/
def PGs (X : Cx) (ts : List Expr) (t : TGs) : Prop :=
  ∀ (pins : List (Addr × Obj)) (s : Shared) (σ : St) (H : Hp) (vs : List V) (us : List Value) (Q : St → Hp → Prop), Inv X pins σ H s → Vals vs us → t vs σ H Q →
    wpAny (model X.prog X.w) X.A (assignInOrder ((assignEach ts X.env).map (·.2)) us) (fun _ s' => ∃ σ' H', Inv X pins σ' H' s' ∧ Q σ' H') X.xe s
/-- a op= b, by values -/
abbrev TIp := V → V → Hp → VK → Prop
def PIp (X : Cx) (op : Operator) (t : TIp) : Prop :=
  ∀ (pins : List (Addr × Obj)) (s : Shared) (σ : St) (H : Hp) (x y : V) (v u : Value) (Q : VK), Inv X pins σ H s → RelV x v → RelV y u → t x y H Q →
    wpAny (model X.prog X.w) X.A (inplaceOp op v u) (EP X pins σ Q) X.xe s
section
variable {X : Cx} {pos : Pos}
def gName (i : Nat) : TG := fun v σ H Q => Q (σ.set i (some v)) H
theorem pg_name {i : Nat} {x : Str} (hN : X.N.Nodup) (hi : X.N[i]? = some x) (hx : Loc X.env.scope x) (hf : X.fn x = true ∨ X.env.scope.names.lookup x = some .local := by first | exact .inl rfl | exact .inr rfl | assumption) : PG X (.Name x pos) (gName i) := by
  intro pins s σ H v u Q I r h
  exact wpAny_assign_Name (store_ok I hN hi hx r (fun s' I' => ⟨_, H, I', h⟩) hf)
def gNil : TGs := fun vs σ H Q => vs = [] ∧ Q σ H
def gCons (t : TG) (u : TGs) : TGs := fun vs σ H Q => ∃ v r, vs = v :: r ∧ t v σ H fun σ' H' => u r σ' H' Q
theorem pgs_nil : PGs X [] gNil := by
  intro pins s σ H vs us Q I r h
  obtain ⟨e, h⟩ := h
  subst e
  cases r
  exact assignInOrder_nil ⟨σ, H, I, h⟩
theorem pgs_cons {e : Expr} {es : List Expr} {t : TG} {u : TGs} (h1 : PG X e t) (h2 : PGs X es u)
    (hs : (assignEach (e :: es) X.env).map (·.2) = assign e X.env :: (assignEach es X.env).map (·.2) := by rfl) : PGs X (e :: es) (gCons t u) := by
  intro pins s σ H vs us Q I r h
  obtain ⟨v, vr, e1, h⟩ := h
  subst e1
  cases r with
  | cons r rr =>
    rw [hs]
    refine assignInOrder_cons (thn (h1 pins s σ H _ _ _ I r h) fun _ s1 ⟨σ1, H1, I1, q1⟩ => ?_)
    exact h2 pins s1 σ1 H1 _ _ Q I1 rr q1
/-- (a, b, ..) = a tuple of that length -/
def gTup (K : PySem.W.Frag) (n : Nat) (t : TGs) : TG := fun v σ H Q => ∃ a xs, v = .ref a ∧ SqT K H a xs ∧ xs.length = n ∧ t xs σ H Q
theorem pg_tup {es : List Expr} {k : Nat} {t : TGs} {n : Nat} (hc : X.calm = true) (h : PGs X es t)
    (hn : (assignEach es X.env).length = n := by rfl) (hst : (assignEach es X.env).findIdx? (·.1) = none := by rfl) : PG X (.Tuple es k pos) (gTup X.K n t) := by
  intro pins s σ H v u Q I r hw
  obtain ⟨a, xs, e1, hq, hl, hw⟩ := hw
  subst e1
  cases r
  obtain ⟨its, rv, ht, hz⟩ := I.tuple hq
  refine assign_Tuple_tuple (I.ok.hd hc) ht (by simp [hn, ← hl, rv.length]) hst fun h' hx => ?_
  have I1 : Inv X pins σ H { s with heap := h' } := I.kept (t' := s.toks) fun b o e => hx b o (Nat.ne_of_lt (Heap.lt_size e)) e
  exact h pins _ σ H xs _ Q I1 (by simpa using rv) hw
/-- target = value -/
def tAsg (te : TE) (g : TG) : TS := fun D σ H => te σ H fun x H1 => g x σ H1 D.nx
/-- name = value -/
theorem ps_set {i : Nat} {x : Str} {e : Expr} {te : TE} {pos' : Pos} (hN : X.N.Nodup) (hi : X.N[i]? = some x) (hx : Loc X.env.scope x) (he : PE X e te) (hs : swapsWith e (some (.Name x pos')) pos.line X.env = pure false := by rfl) (hf : X.fn x = true ∨ X.env.scope.names.lookup x = some .local := by first | exact .inl rfl | exact .inr rfl | assumption) :
    PS X (.Assign [.Name x pos'] e pos) (tAsg te (gName i)) := by
  intro pins s σ H D I h
  refine wpAny_Assign_Name (thn (he pins s σ H _ I h) fun v s1 ⟨y, H1, I1, r1, q1⟩ => ?_) hs
  exact store_ok I1 hN hi hx r1 (fun s2 I2 => ⟨_, H1, I2, q1⟩) hf
/-- name op= e -/
def tAug (i : Nat) (te : TE) (ti : TIp) : TS := fun D σ H => ∃ x, σ[i]? = some (some x) ∧ te σ H fun y H1 => ti x y H1 fun z H2 => D.nx (σ.set i (some z)) H2
theorem ps_aug {i : Nat} {x : Str} {e : Expr} {te : TE} {op : Operator} {ti : TIp} {pos' : Pos} (hN : X.N.Nodup) (hi : X.N[i]? = some x) (hx : Loc X.env.scope x) (he : PE X e te) (ho : PIp X op ti) (hf : X.fn x = true ∨ X.env.scope.names.lookup x = some .local := by first | exact .inl rfl | exact .inr rfl | assumption) :
    PS X (.AugAssign (.Name x pos') op e pos) (tAug i te ti) := by
  intro pins s σ H D I h
  obtain ⟨v, e1, h⟩ := h
  obtain ⟨m, hn, hl⟩ := I.loc
  have vis : Vis X.env.scope x := by rcases hx with k | k; exact .inl k; exact .inr (.inl k)
  obtain ⟨u, r, l⟩ := hl i x v hi e1 vis
  refine wpAny_AugAssign_Name ?_
  have go : wpAny (model X.prog X.w) X.A (eval e X.env) (fun w s₂ => wpAny (model X.prog X.w) X.A (inplaceOp op u w) (fun r s₃ => wpAny (model X.prog X.w) X.A (storeName X.env x r) (fun _ => SP X pins D .next) X.xe s₃) X.xe s₂) X.xe s := by
    refine thn (he pins s σ H _ I h) fun w s1 ⟨y, H1, I1, r1, q1⟩ => ?_
    refine thn (ho pins s1 σ H1 v y u w _ I1 r r1 q1) fun z s2 ⟨zv, H2, I2, r2, q2⟩ => ?_
    exact store_ok I2 hN hi hx r2 (fun s3 I3 => ⟨_, H2, I3, q2⟩) hf
  rcases l with ⟨hk, hm⟩ | ⟨hk, c, hc, hcell⟩
  · exact wpAny_loadName_local I.ok.kind hk hn hm go
  · rcases hk with hk | hk
    · exact wpAny_loadName_cell I.ok.kind hk hc hcell go
    · rcases hx with k | k
      · have : X.env.scope.names.lookup x = some .free := hk
        rw [k] at this; cases this
      · have : X.env.scope.names.lookup x = some .free := hk
        rw [k] at this; cases this
/-- ints -/
def ipI (f : Int → Int → Int) : TIp := fun x y H Q => ∃ i j, x = .int i ∧ y = .int j ∧ Q (.int (f i j)) H
theorem ip_add : PIp X .Add (ipI fun i j => i + j) := by
  intro pins s σ H x y v u Q I r1 r2 h
  obtain ⟨i, j, e1, e2, q⟩ := h
  subst e1; subst e2
  obtain ⟨t, rfl⟩ := r1
  obtain ⟨t', rfl⟩ := r2
  exact iadd_int ⟨.int _, H, I.tok _, ⟨_, rfl⟩, q⟩
end

/-! ### while -/
section
variable {X : Cx} {pos : Pos}
end

/-! ### what a loop or a comprehension walks -/
/-- at turn i: it yields x (the heap may grow), or it stops -/
structure It where
  go : Nat → Hp → Prop
  yld : Nat → Hp → V → Hp → Prop
  stop : Nat → Hp → Prop
/-- the iterator's own objects may turn: they are not the frame's, not pinned, younger than the entry (or a comprehension's own) -/
def FpOk (X : Cx) (pins : List (Addr × Obj)) (H : Hp) (b : Addr) : Prop :=
  H b = none ∧ b ≠ X.env.locals ∧ b ∉ X.fs ∧ (b ∈ X.ex ∨ X.s_0.heap.objs.size ≤ b) ∧ (∀ x c, X.env.cells.lookup x = some c → c ≠ b) ∧ ∀ p ∈ X.pn ++ pins, p.1 ≠ b
theorem Inv.fpOk {X : Cx} {pins : List (Addr × Obj)} {σ : St} {H H' : Hp} {s : Shared} {b : Addr} (I : Inv X pins σ H s) (hb : s.heap.objs.size ≤ b) (hn : H' b = none) : FpOk X pins H' b := by
  refine ⟨hn, Nat.ne_of_gt (Nat.lt_of_lt_of_le I.lt hb), I.nofs hb, .inr (Nat.le_trans I.sz hb), fun x c e z => ?_, fun p hp z => ?_⟩
  · obtain ⟨v, q⟩ := I.cell x c e
    exact absurd (Nat.lt_of_lt_of_le q.lt (by rw [z]; exact hb)) (Nat.lt_irrefl _)
  · exact absurd (Nat.lt_of_lt_of_le (Heap.lt_size (I.pin p hp).1) (by rw [z]; exact hb)) (Nat.lt_irrefl _)
structure Turn (P : Program) (w : World) (K : PySem.W.Frag) (tg : Expr) (J : It) (fp : List Addr) (it : Addr) (tn : Nat → Heap → Prop) : Prop where
  mem : it ∈ fp
  obj : ∀ i h, tn i h → ∀ b ∈ fp, ∃ o, h.get? b = some o ∧ ∀ v, o.data ≠ .cell v
  keep : ∀ i h h', tn i h → (∀ b ∈ fp, ∀ o, h.get? b = some o → h'.get? b = some o) → tn i h'
  item : ∀ (X : Cx), X.prog = P → X.w = w → X.K = K → X.calm = true → ∀ (i : Nat) (pins : List (Addr × Obj)) (s : Shared) (σ : St) (H : Hp) (E : Value → Shared → Prop), Inv X pins σ H s → (∀ b ∈ fp, FpOk X pins H b) → tn i s.heap → J.go i H →
    wpAny (model P w) X.A (pyNext (.ref it)) (fun r s1 => ∃ u, r = some u ∧
      wpAny (model P w) X.A (letOwnedTupleGo tg (.ref it) u) (fun _ s2 => ∃ x H', Inv X pins σ H' s2 ∧ RelV x u ∧ J.yld i H x H' ∧ tn (i + 1) s2.heap ∧ ∀ b ∈ fp, H' b = none) E s1) E s
  done : ∀ (X : Cx), X.prog = P → X.w = w → X.K = K → X.calm = true → ∀ (i : Nat) (pins : List (Addr × Obj)) (s : Shared) (σ : St) (H : Hp) (E : Value → Shared → Prop), Inv X pins σ H s → (∀ b ∈ fp, FpOk X pins H b) → tn i s.heap → J.stop i H →
    wpAny (model P w) X.A (pyNext (.ref it)) (fun r s1 => r = none ∧ Inv X pins σ H s1) E s
  self : ∀ (A : Around) (i : Nat) (s : Shared) (Q : Value → Shared → Prop) (E : Value → Shared → Prop), tn i s.heap → Q (.ref it) s → wpAny (model P w) A (pyIter (.ref it)) Q E s
abbrev TI := St → Hp → (It → Hp → Prop) → Prop
/-- an iterator has come -/
def PIE (X : Cx) (pins : List (Addr × Obj)) (σ : St) (tg : Expr) (R : It → Hp → Prop) (itv : Value) (s2 : Shared) : Prop :=
  ∃ (it : Addr) (fp : List Addr) (tn : Nat → Heap → Prop) (J : It) (H' : Hp), itv = .ref it ∧ Inv X pins σ H' s2 ∧ Turn X.prog X.w X.K tg J fp it tn ∧ tn 0 s2.heap ∧ (∀ b ∈ fp, FpOk X pins H' b) ∧ R J H'
def PI (X : Cx) (tg iter : Expr) (wi : TI) : Prop :=
  ∀ (pins : List (Addr × Obj)) (s : Shared) (σ : St) (H : Hp) (R : It → Hp → Prop), Inv X pins σ H s → wi σ H R →
    wpAny (model X.prog X.w) X.A (eval iter X.env) (fun v s1 => wpAny (model X.prog X.w) X.A (pyIter v) (PIE X pins σ tg R) X.xe s1) X.xe s

/-- the step ahead of the store is nothing for an iterator that keeps no tuple -/
theorem go_of {M : Model} {A : Around} {E : Value → Shared → Prop} {s : Shared} {tg : Expr} {it : Addr} {u : Value} {o : Obj} {n : String} {vs : Array Value} {Q : Unit → Shared → Prop} (ho : s.heap.get? it = some o) (hc : o.cls = .type n) (hd : o.data = .fields vs)
    (hn : ["enumerate", "zip", "dict_itemiterator", "dict_reverseitemiterator", "odict_iterator", "itertools.zip_longest", "itertools.pairwise"].contains n = false) (hQ : Q () s) : wpAny M A (letOwnedTupleGo tg (.ref it) u) Q E s := by
  unfold letOwnedTupleGo
  cases tg <;> first
    | exact wpAny_pure hQ
    | (cases u <;> first
        | exact wpAny_pure hQ
        | (refine wpAny_bind (wpAny_load ho ?_)
           rw [hc, hd]
           show wpAny M A (if (["enumerate", "zip", "dict_itemiterator", "dict_reverseitemiterator", "odict_iterator", "itertools.zip_longest", "itertools.pairwise"].contains n && vs[0]? == some (rawInt _)) = true then _ else _) Q E s
           rw [if_neg (by intro h; rw [hn, Bool.false_and] at h; cases h)]
           exact wpAny_pure hQ))

/-- the list at a, as it stands at each turn (a loop may append to it) -/
def Itl (K : PySem.W.Frag) (a : Addr) : It :=
  ⟨fun i H => ∃ xs x, SqL K H a xs ∧ xs[i]? = some x, fun i H x H' => H' = H ∧ ∀ xs, SqL K H a xs → xs[i]? = some x, fun i H => ∃ xs, SqL K H a xs ∧ xs.length ≤ i⟩
/-- lo, lo + 1, .. (n of them) -/
def Itr (lo : Int) (n : Nat) : It := ⟨fun i _ => i < n, fun i H x H' => H' = H ∧ x = .int (lo + i), fun i _ => n ≤ i⟩
theorem turn_list {P : Program} {w : World} {K : PySem.W.Frag} {tg : Expr} (a it : Addr) : Turn P w K tg (Itl K a) [it] it (fun i h => h.IsListIter it a i) where
  mem := by simp
  obj := fun i h st b hb => by
    have e : b = it := by simpa using hb
    subst e
    obtain ⟨o, e, c, d⟩ := st
    exact ⟨o, e, fun v z => by rw [d] at z; cases z⟩
  keep := fun i h h' st k => st.at fun o e => k it (by simp) o e
  item := by
    intro X hP hw hK hc i pins s σ H E I hf st hg
    subst hP hw hK
    obtain ⟨xs, x, hq, hx⟩ := hg
    obtain ⟨its, rv, p, hz⟩ := I.list hq
    obtain ⟨u, hu, ru⟩ := rv.get hx
    obtain ⟨f0, f1, f2, f3, f4, f5⟩ := hf it (by simp)
    refine wpAny_pyNext_list_item st p.isList (x := u) (by simpa using hu) fun h' st' sb => ?_
    have I1 : Inv X pins σ H { s with heap := h' } := I.turned (t' := s.toks) (fun b o hb e => (sb.2 b hb).trans e) f0 f1 f3 f4 f5
    obtain ⟨o, e, c, d⟩ := id st'
    exact ⟨u, rfl, go_of (s := { s with heap := h' }) e c d (by decide) ⟨x, H, I1, ru, ⟨rfl, fun ys hy => by rw [I.list_inj hy hq]; exact hx⟩, st', fun b hb => (hf b hb).1⟩⟩
  done := by
    intro X hP hw hK hc i pins s σ H E I hf st hg
    subst hP hw hK
    obtain ⟨xs, hq, hx⟩ := hg
    obtain ⟨its, rv, p, hz⟩ := I.list hq
    obtain ⟨f0, f1, f2, f3, f4, f5⟩ := hf it (by simp)
    have hl := rv.length
    exact wpAny_pyNext_list_end (I.ok.hd hc) st p.isList (by simp; omega) fun h' eb => ⟨rfl, I.turned (t' := s.toks) (fun b o hb e => eb b o hb e) f0 f1 f3 f4 f5⟩
  self := fun _ _ _ _ _ st h => wpAny_pyIter_listiter st h
theorem turn_range {P : Program} {w : World} {K : PySem.W.Frag} {tg : Expr} (it : Addr) (lo : Int) (n : Nat) : Turn P w K tg (Itr lo n) [it] it (fun i h => IsRangeIter h it (lo + (i : Nat) * 1) ((n : Int) - (i : Nat)) 1) where
  mem := by simp
  obj := fun i h st b hb => by
    have e : b = it := by simpa using hb
    subst e
    exact ⟨_, st, fun v z => by
      have z' : Data.fields _ = Data.cell v := z
      cases z'⟩
  keep := fun i h h' st k => k it (by simp) _ st
  item := by
    intro X hP hw hK hc i pins s σ H E I hf st hg
    subst hP hw hK
    obtain ⟨f0, f1, f2, f3, f4, f5⟩ := hf it (by simp)
    have W := Walks.range (prog := X.prog) (w := X.w) (I.ok.hd hc) it lo 1 n
    refine W.item i s _ _ hg st fun v h' tk hv st' kk => ?_
    obtain ⟨t, rfl⟩ := hv
    have I1 : Inv X pins σ H { s with heap := h', toks := tk } := I.turned (fun b o hb e => kk b o (by simpa using hb) e) f0 f1 f3 f4 f5
    refine ⟨_, rfl, go_of (s := { s with heap := h', toks := tk }) (n := "range_iterator") st' rfl rfl (by decide) ⟨.int (lo + i), H, I1, ⟨t, ?_⟩, ⟨rfl, rfl⟩, st', fun b hb => (hf b hb).1⟩⟩
    rw [Int.mul_one]
  done := by
    intro X hP hw hK hc i pins s σ H E I hf st hg
    subst hP hw hK
    obtain ⟨f0, f1, f2, f3, f4, f5⟩ := hf it (by simp)
    exact wpAny_pyNext_range_end (I.ok.hd hc) st (by have : n ≤ i := hg; omega) fun h' eb => ⟨rfl, I.turned (t' := s.toks) (fun b o hb e => eb b o hb e) f0 f1 f3 f4 f5⟩
  self := fun _ _ _ _ _ st h => wpAny_pyIter_rangeiter st h
end L2

namespace L2
open PySem PySem.Spec PyProof.Rows
section
variable {X : Cx} {tg : Expr}
def iList (K : PySem.W.Frag) (tl : TE) : TI := fun σ H R => tl σ H fun x H1 => ∃ a, x = .ref a ∧ (∃ xs, SqL K H1 a xs) ∧ R (Itl K a) H1
theorem pi_list {l : Expr} {tl : TE} (hl : PE X l tl) : PI X tg l (iList X.K tl) := by
  intro pins s σ H R I h
  refine thn (hl pins s σ H _ I h) fun v s1 ⟨x, H1, I1, r1, q1⟩ => ?_
  obtain ⟨a, e, ⟨xs, hq⟩, q⟩ := q1
  subst e
  cases r1
  obtain ⟨its, rv, p, hz⟩ := I1.list hq
  refine wpAny_pyIter_list p.isList ?_
  refine ⟨s1.heap.objs.size, [s1.heap.objs.size], _, _, H1, rfl, I1.kept (t' := s1.toks) fun b o e => Heap.get?_push_of_some _ e, turn_list a _, ⟨_, Heap.get?_push_size _ rfl, rfl, rfl⟩, fun b hb => ?_, q⟩
  have e : b = s1.heap.objs.size := by simpa using hb
  subst e
  exact I1.fpOk (Nat.le_refl _) (I1.hok.fresh (Nat.le_refl _))
/-- a range object just made, walked -/
theorem range_it {pins : List (Addr × Obj)} {σ : St} {H : Hp} {s : Shared} {R : It → Hp → Prop} {E : Value → Shared → Prop} {lo hi : Int} {t u v : Tok} {tk : Nat} (I : Inv X pins σ H s) (h1 : -(2 ^ 62) ≤ lo) (h2 : lo < 2 ^ 62) (h3 : -(2 ^ 62) ≤ hi) (h4 : hi < 2 ^ 62)
    (q : R (Itr lo (hi - lo).toNat) H) : wpAny (model X.prog X.w) X.A (pyIter (.ref s.heap.objs.size)) (PIE X pins σ tg R) E { s with heap := s.heap.push { cls := .type "range", data := .fields #[.int lo t, .int hi u, .int 1 v] }, toks := tk } := by
  refine wpAny_pyIter_range (IsRange.new ..) (small_one h1 h2 h3 h4) ?_
  have I1 : Inv X pins σ H { s with heap := s.heap.push { cls := .type "range", data := .fields #[.int lo t, .int hi u, .int 1 v] }, toks := tk } := I.kept fun b o e => Heap.get?_push_of_some _ e
  refine ⟨(s.heap.push { cls := .type "range", data := .fields #[.int lo t, .int hi u, .int 1 v] }).objs.size, [(s.heap.push { cls := .type "range", data := .fields #[.int lo t, .int hi u, .int 1 v] }).objs.size], _, _, H, rfl,
    I1.kept (t' := tk) fun b o e => Heap.get?_push_of_some _ e, turn_range _ lo (hi - lo).toNat, ?_, fun b hb => ?_, q⟩
  · have e1 : lo + ((0 : Nat) : Int) * 1 = lo := by simp
    have e2 : (((hi - lo).toNat : Nat) : Int) - ((0 : Nat) : Int) = Builtin.Range.rangeSize lo hi 1 := by rw [rangeSize_one]; split <;> omega
    show IsRangeIter _ _ (lo + ((0 : Nat) : Int) * 1) ((((hi - lo).toNat : Nat) : Int) - ((0 : Nat) : Int)) 1
    rw [e1, e2]
    exact Heap.get?_push_size _ rfl
  · have e : b = (s.heap.push { cls := .type "range", data := .fields #[.int lo t, .int hi u, .int 1 v] }).objs.size := by simpa using hb
    subst e
    exact I1.fpOk (Nat.le_refl _) (I1.hok.fresh (Nat.le_refl _))
def iRng1 (ta : TA) : TI := fun σ H R => ta σ H fun vs H1 => ∃ j : Int, vs = [.int j] ∧ -(2 ^ 62) ≤ j ∧ j < 2 ^ 62 ∧ R (Itr 0 j.toNat) H1
theorem pi_range1 {a : Expr} {ta : TA} {p pos : Pos} (hg : Gl X "range") (hm : X.mg "range" = none) (ha : PA X [a] ta) (hs : starEach [a] X.env = [(false, eval a X.env)] := by rfl) : PI X tg (.Call (.Name "range" p) [a] [] pos) (iRng1 ta) := by
  intro pins s σ H R I h
  refine Call_ (ld_blt I hg hm boot_range (PyProof.Rows.callWith_type1 (thn (ha pos pins s σ H _ I h) fun us s1 ⟨vs, H1, I1, r1, q1⟩ => ?_) hs rfl))
  obtain ⟨j, e, q1, q2, q⟩ := q1
  subst e
  cases r1 with
  | cons r rr =>
    cases rr
    obtain ⟨t, rfl⟩ := r
    exact call_range_1 (range_it I1 (by omega) (by omega) q1 q2 (by simpa using q))
/-! ### for -/
/-- W: the invariant by the turn and a measure; N: what the body is to reach -/
def tFor (wi : TI) (g : TG) (tb : TS) : TS := fun D σ H => wi σ H fun J H1 => ∃ W : Nat → Nat → St → Hp → Prop, (∃ m, W 0 m σ H1) ∧ ∀ i m σ H, W i m σ H →
  (J.stop i H ∧ D.nx σ H) ∨ (J.go i H ∧ ∃ N : St → Hp → Prop, (∀ σ' H', N σ' H' → ∃ m', m' < m ∧ W (i + 1) m' σ' H') ∧ ∀ x H', J.yld i H x H' → g x σ H' fun σ2 H2 => tb { D with nx := N, ct := N, bk := D.nx } σ2 H2)
/-- the records at fp as they stand -/
def pinsAt (fp : List Addr) (h : Heap) : List (Addr × Obj) := fp.filterMap fun b => (h.get? b).map fun o => (b, o)
theorem mem_pinsAt {fp : List Addr} {h : Heap} {b : Addr} {o : Obj} (hb : b ∈ fp) (e : h.get? b = some o) : (b, o) ∈ pinsAt fp h := List.mem_filterMap.mpr ⟨b, hb, by rw [e]; rfl⟩
theorem of_pinsAt {fp : List Addr} {h : Heap} {p : Addr × Obj} (hp : p ∈ pinsAt fp h) : p.1 ∈ fp ∧ h.get? p.1 = some p.2 := by
  obtain ⟨b, hb, e⟩ := List.mem_filterMap.mp hp
  cases q : h.get? b with
  | none => rw [q] at e; cases e
  | some o =>
    rw [q] at e
    have e' : (b, o) = p := Option.some.inj e
    subst e'
    exact ⟨hb, q⟩
theorem Inv.pinned {pins : List (Addr × Obj)} {σ : St} {H : Hp} {s : Shared} {fp : List Addr} (I : Inv X pins σ H s) (hf : ∀ b ∈ fp, FpOk X pins H b) (ho : ∀ b ∈ fp, ∃ o, s.heap.get? b = some o ∧ ∀ v, o.data ≠ .cell v) : Inv X (pins ++ pinsAt fp s.heap) σ H s :=
  I.pins_of fun p hp => (List.mem_append.mp hp).elim (fun z => I.pin p (List.mem_append_right _ z)) fun z => by
    obtain ⟨hb, e⟩ := of_pinsAt z
    obtain ⟨f0, f1, f2, _⟩ := hf p.1 hb
    obtain ⟨o, e', d⟩ := ho p.1 hb
    rw [e] at e'; cases e'
    exact ⟨e, f0, f1, f2, d⟩
theorem Inv.unpinned {pins pl : List (Addr × Obj)} {σ : St} {H : Hp} {s : Shared} (I : Inv X (pins ++ pl) σ H s) : Inv X pins σ H s := I.pins_of fun p hp => I.pin p (List.mem_append_right _ (List.mem_append_left _ hp))
theorem ps_for {iter : Expr} {body : List Stmt} {wi : TI} {g : TG} {tb : TS} {pos : Pos} (hp : PassesOwn (model X.prog X.w) X.A X.env X.xe) (hc : X.calm = true) (hi : PI X tg iter wi) (hg : PG X tg g) (hb : PSs X body tb)
    (hs : ∀ x, foldedSetIterable iter X.env x = pure x := by intro _; rfl) : PS X (.For tg iter body [] pos) (tFor wi g tb) := by
  intro pins s σ H D I h
  refine wpAny_For (thn (hi pins s σ H _ I h) fun v s1 h1 => thn h1 fun itv s2 h2 => ?_) hs
  obtain ⟨it, fp, tn, J, H2, e, I2, T, st2, f2, W, ⟨m0, w0⟩, turn⟩ := h2
  subst e
  -- what stays true of the iterator's objects through the loop
  have stat : ∀ {H' : Hp}, (∀ b ∈ fp, H' b = none) → ∀ b ∈ fp, FpOk X pins H' b := fun hn b hb => ⟨hn b hb, (f2 b hb).2⟩
  refine codeAny_forLoop_any (fun n s' => ∃ i σ' H', Inv X pins σ' H' s' ∧ tn i s'.heap ∧ (∀ b ∈ fp, H' b = none) ∧ W i n σ' H') ?_ m0 ⟨0, σ, H2, I2, st2, fun b hb => (f2 b hb).1, w0⟩
  rintro n s3 ⟨i, σ3, H3, I3, st3, fr3, w3⟩
  rcases turn i n σ3 H3 w3 with ⟨stop, qn⟩ | ⟨go, N, hN, step⟩
  · refine wpAny_passesOwn hp (thn (T.done X rfl rfl rfl hc i pins s3 σ3 H3 X.xe I3 (stat fr3) st3 stop) fun r s4 ⟨hr, I4⟩ => ?_)
    subst hr
    exact wpAny_execs_nil ⟨σ3, H3, I4, qn⟩
  · refine wpAny_passesOwn hp (thn (T.item X rfl rfl rfl hc i pins s3 σ3 H3 X.xe I3 (stat fr3) st3 go) fun r s4 ⟨u, hr, h4⟩ => ?_)
    subst hr
    refine wpAny_passesOwn hp (thn h4 fun _ s5 ⟨x, H5, I5, r5, y5, st5, fr5⟩ => ?_)
    have I5' := I5.pinned (stat fr5) (T.obj _ _ st5)
    refine wpAny_passesOwn hp (thn (hg _ s5 σ3 H5 x u _ I5' r5 (step x H5 y5)) fun _ s6 ⟨σ6, H6, I6, q6⟩ => ?_)
    refine wpAny_passesOwn hp (thn (hb _ s6 σ6 H6 _ I6 q6) fun f s7 q7 => ?_)
    have again : ∀ {σ7 : St} {H7 : Hp}, Inv X (pins ++ pinsAt fp s5.heap) σ7 H7 s7 → N σ7 H7 → ∃ m, m < n ∧ ∃ i σ' H', Inv X pins σ' H' s7 ∧ tn i s7.heap ∧ (∀ b ∈ fp, H' b = none) ∧ W i m σ' H' := fun {σ7 H7} I7 n7 => by
      obtain ⟨m', hm, w7⟩ := hN σ7 H7 n7
      refine ⟨m', hm, i + 1, σ7, H7, I7.unpinned, T.keep _ _ _ st5 fun b hb o e => (I7.pin (b, o) (List.mem_append_right _ (List.mem_append_right _ (mem_pinsAt hb e)))).1, fun b hb => ?_, w7⟩
      obtain ⟨o, e, d⟩ := T.obj _ _ st5 b hb
      exact (I7.pin (b, o) (List.mem_append_right _ (List.mem_append_right _ (mem_pinsAt hb e)))).2.1
    cases f with
    | next => obtain ⟨σ7, H7, I7, n7⟩ := q7; exact again I7 n7
    | cont => obtain ⟨σ7, H7, I7, n7⟩ := q7; exact again I7 n7
    | brk => obtain ⟨σ7, H7, I7, q7⟩ := q7; exact ⟨σ7, H7, I7.unpinned, q7⟩
    | ret v => obtain ⟨x7, σ7, H7, I7, r7, q7⟩ := q7; exact ⟨x7, σ7, H7, I7.unpinned, r7, q7⟩
end

/-! ### the forms one uses -/
/-- over a list that the body leaves as it is -/
theorem for_list {K : PySem.W.Frag} {a : Addr} {xs : List V} {g : TG} {tb : TS} {D : Ends} {σ : St} {H : Hp} (Pv : Nat → St → Hp → Prop) (h0 : Pv 0 σ H) (hl : ∀ i σ H, i ≤ xs.length → Pv i σ H → SqL K H a xs)
    (hs : ∀ i x σ H, xs[i]? = some x → Pv i σ H → g x σ H fun σ2 H2 => tb { D with nx := Pv (i + 1), ct := Pv (i + 1), bk := D.nx } σ2 H2) (hd : ∀ σ H, Pv xs.length σ H → D.nx σ H) :
    ∃ W : Nat → Nat → St → Hp → Prop, (∃ m, W 0 m σ H) ∧ ∀ i m σ H, W i m σ H →
      ((Itl K a).stop i H ∧ D.nx σ H) ∨ ((Itl K a).go i H ∧ ∃ N : St → Hp → Prop, (∀ σ' H', N σ' H' → ∃ m', m' < m ∧ W (i + 1) m' σ' H') ∧ ∀ x H', (Itl K a).yld i H x H' → g x σ H' fun σ2 H2 => tb { D with nx := N, ct := N, bk := D.nx } σ2 H2) := by
  refine ⟨fun i m σ H => m = xs.length - i ∧ i ≤ xs.length ∧ Pv i σ H, ⟨xs.length, by simp, Nat.zero_le _, h0⟩, ?_⟩
  rintro i m σ H ⟨rfl, hi, p⟩
  have q := hl i σ H hi p
  by_cases hlt : i < xs.length
  · refine .inr ⟨⟨xs, xs[i], q, by simp [hlt]⟩, Pv (i + 1), fun σ' H' p' => ⟨xs.length - (i + 1), by omega, rfl, hlt, p'⟩, fun x H' y => ?_⟩
    obtain ⟨e, y⟩ := y
    subst e
    exact hs i x σ _ (y xs q) p
  · have e : i = xs.length := by omega
    subst e
    exact .inl ⟨⟨xs, q, Nat.le_refl _⟩, hd σ H p⟩
theorem for_range {lo : Int} {n : Nat} {g : TG} {tb : TS} {D : Ends} {σ : St} {H : Hp} (Pv : Nat → St → Hp → Prop) (h0 : Pv 0 σ H)
    (hs : ∀ i σ H, i < n → Pv i σ H → g (.int (lo + i)) σ H fun σ2 H2 => tb { D with nx := Pv (i + 1), ct := Pv (i + 1), bk := D.nx } σ2 H2) (hd : ∀ σ H, Pv n σ H → D.nx σ H) :
    ∃ W : Nat → Nat → St → Hp → Prop, (∃ m, W 0 m σ H) ∧ ∀ i m σ H, W i m σ H →
      ((Itr lo n).stop i H ∧ D.nx σ H) ∨ ((Itr lo n).go i H ∧ ∃ N : St → Hp → Prop, (∀ σ' H', N σ' H' → ∃ m', m' < m ∧ W (i + 1) m' σ' H') ∧ ∀ x H', (Itr lo n).yld i H x H' → g x σ H' fun σ2 H2 => tb { D with nx := N, ct := N, bk := D.nx } σ2 H2) := by
  refine ⟨fun i m σ H => m = n - i ∧ i ≤ n ∧ Pv i σ H, ⟨n, by simp, Nat.zero_le _, h0⟩, ?_⟩
  rintro i m σ H ⟨rfl, hi, p⟩
  by_cases hlt : i < n
  · refine .inr ⟨hlt, Pv (i + 1), fun σ' H' p' => ⟨n - (i + 1), by omega, rfl, hlt, p'⟩, fun x H' y => ?_⟩
    obtain ⟨e, y⟩ := y
    subst e y
    exact hs i σ _ hlt p
  · have e : i = n := by omega
    subst e
    exact .inl ⟨Nat.le_refl _, hd σ H p⟩
end L2

namespace L2
open PySem PySem.Spec PyProof.Rows

abbrev R2 := V → V → Hp → VK → Prop
/-- a two-place operation on values: f is binaryOp op, inplaceOp op or compareOp op -/
def OpR (X : Cx) (f : Value → Value → Sem Value) (r : R2) : Prop :=
  ∀ (pins : List (Addr × Obj)) (s : Shared) (σ : St) (H : Hp) (x y : V) (v u : Value) (Q : VK), Inv X pins σ H s → RelV x v → RelV y u → r x y H Q →
    wpAny (model X.prog X.w) X.A (f v u) (EP X pins σ Q) X.xe s
/-- a one-place operation -/
def UnR (X : Cx) (f : Value → Sem Value) (r : V → Hp → VK → Prop) : Prop :=
  ∀ (pins : List (Addr × Obj)) (s : Shared) (σ : St) (H : Hp) (x : V) (v : Value) (Q : VK), Inv X pins σ H s → RelV x v → r x H Q →
    wpAny (model X.prog X.w) X.A (f v) (EP X pins σ Q) X.xe s
/-- a call of a value that is known (a builtin, a type) with values -/
def CallR (X : Cx) (f : Value) (r : List V → Hp → VK → Prop) : Prop :=
  ∀ (pins : List (Addr × Obj)) (s : Shared) (σ : St) (H : Hp) (xs : List V) (us : List Value) (Q : VK), Inv X pins σ H s → Vals xs us → r xs H Q →
    wpAny (model X.prog X.w) X.A (call f us) (EP X pins σ Q) X.xe s
/-- a value's truth -/
def TruR (X : Cx) (r : V → Hp → (Bool → Hp → Prop) → Prop) : Prop :=
  ∀ (pins : List (Addr × Obj)) (s : Shared) (σ : St) (H : Hp) (x : V) (v : Value) (Q : Bool → Hp → Prop), Inv X pins σ H s → RelV x v → r x H Q →
    wpAny (model X.prog X.w) X.A (truthy v) (TP X pins σ Q) X.xe s

def tOp (r : R2) (ta tb : TE) : TE := fun σ H Q => ta σ H fun x H1 => tb σ H1 fun y H2 => r x y H2 Q
def tUn (r : V → Hp → VK → Prop) (ta : TE) : TE := fun σ H Q => ta σ H fun x H1 => r x H1 Q
/-- ints in, under C, and a value out -/
def rI (C : Int → Int → Prop) (g : Int → Int → V) : R2 := fun x y H Q => ∃ i j, x = .int i ∧ y = .int j ∧ C i j ∧ Q (g i j) H
def rI0 (g : Int → Int → V) : R2 := fun x y H Q => ∃ i j, x = .int i ∧ y = .int j ∧ Q (g i j) H
def rU (g : Int → V) : V → Hp → VK → Prop := fun x H Q => ∃ i, x = .int i ∧ Q (g i) H

section
variable {X : Cx} {a b c : Expr} {ta tb tc : TE} {pos : Pos}

theorem binT (ha : PE X a ta) (hb : PE X b tb) {pins : List (Addr × Obj)} {s : Shared} {σ : St} {H : Hp} {R : V → V → Hp → Prop} (I : Inv X pins σ H s)
    (h : ta σ H fun x H1 => tb σ H1 fun y H2 => R x y H2) {Q : Value → Shared → Prop} {f : Value → Value → Sem Value}
    (hf : ∀ v u s2 x y H2, Inv X pins σ H2 s2 → RelV x v → RelV y u → R x y H2 → wpAny (model X.prog X.w) X.A (f v u) Q X.xe s2) :
    wpAny (model X.prog X.w) X.A (eval a X.env) (fun v s₁ => wpAny (model X.prog X.w) X.A (eval b X.env) (fun u s₂ => wpAny (model X.prog X.w) X.A (f v u) Q X.xe s₂) X.xe s₁) X.xe s := by
  refine thn (ha pins s σ H _ I h) fun v s1 ⟨x, H1, I1, r1, q1⟩ => ?_
  refine thn (hb pins s1 σ H1 _ I1 q1) fun u s2 ⟨y, H2, I2, r2, q2⟩ => ?_
  exact hf v u s2 x y H2 I2 r1 r2 q2

theorem pe_op {op : Operator} {r : R2} (ho : OpR X (binaryOp op) r) (ha : PE X a ta) (hb : PE X b tb) : PE X (.BinOp a op b pos) (tOp r ta tb) := by
  intro pins s σ H Q I h
  exact wpAny_BinOp (binT ha hb I h fun v u s2 x y H2 I2 rx ry q => ho pins s2 σ H2 x y v u Q I2 rx ry q)
theorem pe_un {op : UnaryOp} {r : V → Hp → VK → Prop} (ho : UnR X (unaryOp op) r) (ha : PE X a ta) : PE X (.UnaryOp op a pos) (tUn r ta) := by
  intro pins s σ H Q I h
  exact UnaryOp_ (thn (ha pins s σ H _ I h) fun v s1 ⟨x, H1, I1, r1, q1⟩ => ho pins s1 σ H1 x v Q I1 r1 q1)
/-! ### ints -/
theorem opI {f : Value → Value → Sem Value} {C : Int → Int → Prop} {g : Int → Int → Int}
    (rule : ∀ (i j : Int) (t u : Tok) (s : Shared) (Q : Value → Shared → Prop) (E : Value → Shared → Prop), C i j → Q (.int (g i j) s.toks) { s with toks := s.toks + 1 } → wpAny (model X.prog X.w) X.A (f (.int i t) (.int j u)) Q E s) :
    OpR X f (rI C fun i j => .int (g i j)) := by
  intro pins s σ H x y v u Q I rx ry h
  obtain ⟨i, j, rfl, rfl, hc, q⟩ := h
  obtain ⟨t, rfl⟩ := rx
  obtain ⟨t', rfl⟩ := ry
  exact rule i j t t' s _ _ hc ⟨.int (g i j), H, I.tok _, ⟨_, rfl⟩, q⟩
theorem opI0 {f : Value → Value → Sem Value} {g : Int → Int → Int}
    (rule : ∀ (i j : Int) (t u : Tok) (s : Shared) (Q : Value → Shared → Prop) (E : Value → Shared → Prop), Q (.int (g i j) s.toks) { s with toks := s.toks + 1 } → wpAny (model X.prog X.w) X.A (f (.int i t) (.int j u)) Q E s) :
    OpR X f (rI0 fun i j => .int (g i j)) := by
  intro pins s σ H x y v u Q I rx ry h
  obtain ⟨i, j, rfl, rfl, q⟩ := h
  obtain ⟨t, rfl⟩ := rx
  obtain ⟨t', rfl⟩ := ry
  exact rule i j t t' s _ _ ⟨.int (g i j), H, I.tok _, ⟨_, rfl⟩, q⟩
theorem opB0 {f : Value → Value → Sem Value} {g : Int → Int → Bool}
    (rule : ∀ (i j : Int) (t u : Tok) (s : Shared) (Q : Value → Shared → Prop) (E : Value → Shared → Prop), Q (.bool (g i j)) s → wpAny (model X.prog X.w) X.A (f (.int i t) (.int j u)) Q E s) :
    OpR X f (rI0 fun i j => .bl (g i j)) := by
  intro pins s σ H x y v u Q I rx ry h
  obtain ⟨i, j, rfl, rfl, q⟩ := h
  obtain ⟨t, rfl⟩ := rx
  obtain ⟨t', rfl⟩ := ry
  exact rule i j t t' s _ _ ⟨.bl (g i j), H, I, rfl, q⟩

def CDiv (i j : Int) : Prop := 0 < j ∧ j < 1073741824
def CMul (i j : Int) : Prop := (-(2 ^ 64) < i ∧ i < 2 ^ 64) ∨ (-(2 ^ 64) < j ∧ j < 2 ^ 64)
theorem CMul.ok {i j : Int} (h : CMul i j) : IntMulOk i j := by
  rcases h with ⟨h1, h2⟩ | ⟨h1, h2⟩
  · exact .of_left (intBits_le_64 h1 h2)
  · exact .of_right (intBits_le_64 h1 h2)
theorem op_add : OpR X (binaryOp .Add) (rI0 fun i j => .int (i + j)) := opI0 fun _ _ _ _ _ _ _ q => add_int q
theorem op_sub : OpR X (binaryOp .Sub) (rI0 fun i j => .int (i - j)) := opI0 fun _ _ _ _ _ _ _ q => sub_int q
theorem op_mul : OpR X (binaryOp .Mult) (rI CMul fun i j => .int (i * j)) := opI fun _ _ _ _ _ _ _ hc q => mul_int q hc.ok
/-- // by a positive divisor -/
theorem op_fdiv : OpR X (binaryOp .FloorDiv) (rI CDiv fun i j => .int (i / j)) := opI fun i j _ _ _ _ _ hc q => by
  have h1 : (0 : Int) < j := hc.1
  have h2 : j < 1073741824 := hc.2
  exact floordiv_int (by omega) (by rw [Int.fdiv_eq_ediv_of_nonneg i (by omega)]; exact q) (.inl (PyProof.noPylong_small (by omega)))
/-- % by a positive divisor of any size -/
theorem op_mod : OpR X (binaryOp .Mod) (rI (fun _ j => 0 < j) fun i j => .int (i % j)) := opI fun i j _ _ _ _ _ hc q => by
  have h1 : (0 : Int) < j := hc
  exact mod_int' (by omega) (by rw [Int.fmod_eq_emod_of_nonneg i (by omega)]; exact q)
theorem op_and : OpR X (binaryOp .BitAnd) (rI0 fun i j => .int (Builtin.bitAnd i j)) := opI0 fun _ _ _ _ _ _ _ q => and_int q
theorem unI {f : Value → Sem Value} {g : Int → Int}
    (rule : ∀ (i : Int) (t : Tok) (s : Shared) (Q : Value → Shared → Prop) (E : Value → Shared → Prop), Q (.int (g i) s.toks) { s with toks := s.toks + 1 } → wpAny (model X.prog X.w) X.A (f (.int i t)) Q E s) :
    UnR X f (rU fun i => .int (g i)) := by
  intro pins s σ H x v Q I rx h
  obtain ⟨i, rfl, q⟩ := h
  obtain ⟨t, rfl⟩ := rx
  exact rule i t s _ _ ⟨.int (g i), H, I.tok _, ⟨_, rfl⟩, q⟩
theorem un_neg : UnR X (unaryOp .USub) (rU fun i => .int (-i)) := unI fun _ _ _ _ _ q => neg_int q
/-! ### bools among ints: n += (a < b) -/
end

/-! ### comparisons -/
/-- the scalars that == tells apart as data does -/
def scal : V → V → Bool
  | .non, .non => true | .non, .int _ => true | .int _, .non => true | .non, .bl _ => true | .bl _, .non => true | .non, .str _ => true | .str _, .non => true
  | .int _, .int _ => true | .bl _, .bl _ => true | .str _, .str _ => true | .byt _, .byt _ => true
  | .int _, .str _ => true | .str _, .int _ => true | .bl _, .str _ => true | .str _, .bl _ => true
  | _, _ => false
def rEq : R2 := fun x y H Q => scal x y = true ∧ Q (.bl (decide (x = y))) H
def rNe : R2 := fun x y H Q => scal x y = true ∧ Q (.bl (!decide (x = y))) H

theorem dec_int {i j : Int} : decide (V.int i = V.int j) = (i == j) := by
  rw [Bool.eq_iff_iff]
  simp
theorem dec_bl {i j : Bool} : decide (V.bl i = V.bl j) = (i == j) := by
  rw [Bool.eq_iff_iff]
  simp
theorem dec_str {i j : Str} : decide (V.str i = V.str j) = (i == j) := by
  rw [Bool.eq_iff_iff]
  simp
theorem dec_byt {i j : Array UInt8} : decide (V.byt i = V.byt j) = (i.toList == j.toList) := by
  rw [Bool.eq_iff_iff]
  cases i
  cases j
  simp

section
variable {X : Cx} {a b c : Expr} {ta tb tc : TE} {pos : Pos}
theorem fin_bl {pins : List (Addr × Obj)} {σ : St} {H : Hp} {s : Shared} {Q : VK} {k k' : Bool} (I : Inv X pins σ H s) (q : Q (.bl k) H) (e : k = k') : EP X pins σ Q (.bool k') s := by
  subst e
  exact ⟨.bl k, H, I, rfl, q⟩
theorem op_eq : OpR X (compareOp .Eq) rEq := by
  intro pins s σ H x y v u Q I rx ry h
  obtain ⟨hs, q⟩ := h
  cases x with
  | non =>
    cases rx
    cases y with
    | non => cases ry; exact PySem.EqNone.eq_none_none (fin_bl I q (by simp))
    | bl j => cases ry; exact PySem.EqNone.eq_none_bool (fin_bl I q (by simp))
    | int j => obtain ⟨t', rfl⟩ := ry; exact PySem.EqNone.eq_none_int (fin_bl I q (by simp))
    | str j => obtain ⟨t', rfl⟩ := ry; exact PySem.EqNone.eq_none_str (fin_bl I q (by simp))
    | _ => exact absurd (show false = true from hs) Bool.false_ne_true
  | bl i =>
    cases rx
    cases y with
    | non => cases ry; exact PySem.EqNone.eq_bool_none (fin_bl I q (by simp))
    | bl j => cases ry; exact eq_bool (fin_bl I q dec_bl)
    | str j => obtain ⟨t', rfl⟩ := ry; exact PySem.EqMixed.eq_bool_str (fin_bl I q (by simp))
    | _ => exact absurd (show false = true from hs) Bool.false_ne_true
  | int i =>
    obtain ⟨t, rfl⟩ := rx
    cases y with
    | non => cases ry; exact PySem.EqNone.eq_int_none (fin_bl I q (by simp))
    | int j => obtain ⟨t', rfl⟩ := ry; exact eq_int (fin_bl I q dec_int)
    | str j => obtain ⟨t', rfl⟩ := ry; exact PySem.EqMixed.eq_int_str (fin_bl I q (by simp))
    | _ => exact absurd (show false = true from hs) Bool.false_ne_true
  | str i =>
    obtain ⟨t, rfl⟩ := rx
    cases y with
    | non => cases ry; exact PySem.EqNone.eq_str_none (fin_bl I q (by simp))
    | bl j => cases ry; exact PySem.EqMixed.eq_str_bool (fin_bl I q (by simp))
    | int j => obtain ⟨t', rfl⟩ := ry; exact PySem.EqMixed.eq_str_int (fin_bl I q (by simp))
    | str j => obtain ⟨t', rfl⟩ := ry; exact eq_str (fin_bl I q dec_str)
    | _ => exact absurd (show false = true from hs) Bool.false_ne_true
  | byt i =>
    obtain ⟨t, rfl⟩ := rx
    cases y with
    | byt j => obtain ⟨t', rfl⟩ := ry; exact PySem.W.eq_bytes (fin_bl I q dec_byt)
    | _ => exact absurd (show false = true from hs) Bool.false_ne_true
  | _ => cases y <;> exact absurd (show false = true from hs) Bool.false_ne_true
theorem op_ne : OpR X (compareOp .NotEq) rNe := by
  intro pins s σ H x y v u Q I rx ry h
  obtain ⟨hs, q⟩ := h
  cases x with
  | non =>
    cases rx
    cases y with
    | non => cases ry; exact PySem.EqNone.ne_none_none (fin_bl I q (by simp))
    | bl j => cases ry; exact PySem.EqNone.ne_none_bool (fin_bl I q (by simp))
    | int j => obtain ⟨t', rfl⟩ := ry; exact PySem.EqNone.ne_none_int (fin_bl I q (by simp))
    | str j => obtain ⟨t', rfl⟩ := ry; exact PySem.EqNone.ne_none_str (fin_bl I q (by simp))
    | _ => exact absurd (show false = true from hs) Bool.false_ne_true
  | bl i =>
    cases rx
    cases y with
    | non => cases ry; exact PySem.EqNone.ne_bool_none (fin_bl I q (by simp))
    | bl j => cases ry; exact ne_bool (fin_bl I q (congrArg not dec_bl))
    | str j => obtain ⟨t', rfl⟩ := ry; exact PySem.EqMixed.ne_bool_str (fin_bl I q (by simp))
    | _ => exact absurd (show false = true from hs) Bool.false_ne_true
  | int i =>
    obtain ⟨t, rfl⟩ := rx
    cases y with
    | non => cases ry; exact PySem.EqNone.ne_int_none (fin_bl I q (by simp))
    | int j => obtain ⟨t', rfl⟩ := ry; exact ne_int (fin_bl I q (congrArg not dec_int))
    | str j => obtain ⟨t', rfl⟩ := ry; exact PySem.EqMixed.ne_int_str (fin_bl I q (by simp))
    | _ => exact absurd (show false = true from hs) Bool.false_ne_true
  | str i =>
    obtain ⟨t, rfl⟩ := rx
    cases y with
    | non => cases ry; exact PySem.EqNone.ne_str_none (fin_bl I q (by simp))
    | bl j => cases ry; exact PySem.EqMixed.ne_str_bool (fin_bl I q (by simp))
    | int j => obtain ⟨t', rfl⟩ := ry; exact PySem.EqMixed.ne_str_int (fin_bl I q (by simp))
    | str j => obtain ⟨t', rfl⟩ := ry; exact ne_str (fin_bl I q (congrArg not dec_str))
    | _ => exact absurd (show false = true from hs) Bool.false_ne_true
  | byt i =>
    obtain ⟨t, rfl⟩ := rx
    cases y with
    | byt j => obtain ⟨t', rfl⟩ := ry; exact PySem.W.ne_bytes (fin_bl I q (congrArg not dec_byt))
    | _ => exact absurd (show false = true from hs) Bool.false_ne_true
  | _ => cases y <;> exact absurd (show false = true from hs) Bool.false_ne_true

theorem op_lt : OpR X (compareOp .Lt) (rI0 fun i j => .bl (decide (i < j))) := opB0 fun _ _ _ _ _ _ _ q => lt_int q
theorem op_le : OpR X (compareOp .LtE) (rI0 fun i j => .bl (decide (i ≤ j))) := opB0 fun _ _ _ _ _ _ _ q => le_int q
theorem op_gt : OpR X (compareOp .Gt) (rI0 fun i j => .bl (decide (j < i))) := opB0 fun _ _ _ _ _ _ _ q => gt_int q
theorem op_ge : OpR X (compareOp .GtE) (rI0 fun i j => .bl (decide (j ≤ i))) := opB0 fun _ _ _ _ _ _ _ q => ge_int q
/-- is None, is not None: the right side a value none -/
theorem op_isN : OpR X (compareOp .Is) (fun x y H Q => y = .non ∧ Q (.bl (decide (x = .non))) H) := by
  intro pins s σ H x y v u Q I rx ry h
  obtain ⟨rfl, q⟩ := h
  cases ry
  refine is_none_gen (fin_bl I q ?_)
  cases x <;> first
    | (cases rx; rfl)
    | (obtain ⟨t, rfl⟩ := rx; rfl)
theorem op_notN : OpR X (compareOp .IsNot) (fun x y H Q => y = .non ∧ Q (.bl (!decide (x = .non))) H) := by
  intro pins s σ H x y v u Q I rx ry h
  obtain ⟨rfl, q⟩ := h
  cases ry
  refine isnot_none_gen (fin_bl I q ?_)
  cases x <;> first
    | (cases rx; rfl)
    | (obtain ⟨t, rfl⟩ := rx; rfl)

/-- two rules for one operation: by cases -/
theorem OpR.or {f : Value → Value → Sem Value} {r r' : R2} (h : OpR X f r) (h' : OpR X f r') : OpR X f (fun x y H Q => r x y H Q ∨ r' x y H Q) := by
  intro pins s σ H x y v u Q I rx ry q
  rcases q with q | q
  · exact h pins s σ H x y v u Q I rx ry q
  · exact h' pins s σ H x y v u Q I rx ry q

theorem nomark (b : Expr) {op : CmpOp} (h : op ≠ .In := by decide) (h2 : op ≠ .NotIn := by decide) : behindInMarks op b = false := by
  have e1 : (op == CmpOp.In) = false := by cases op <;> first | rfl | exact absurd rfl h
  have e2 : (op == CmpOp.NotIn) = false := by cases op <;> first | rfl | exact absurd rfl h2
  cases b <;> simp [behindInMarks, e1, e2]
/-- a comparison as a value; hm: nomark b, or (for in, not in) by with_unfolding_all rfl -/
theorem pe_cmpR {op : CmpOp} {r : R2} (ho : OpR X (compareOp op) r) (ha : PE X a ta) (hb : PE X b tb) (hm : behindInMarks op b = false) : PE X (.Compare a [op] [b] pos) (tOp r ta tb) := by
  intro pins s σ H Q I h
  exact wpAny_Compare1 (binT ha hb I h fun v u s2 x y H2 I2 rx ry q => ho pins s2 σ H2 x y v u Q I2 rx ry q) hm
/-- a reading of a value as a test -/
def tTest (t : TE) : TT := fun σ H Q => t σ H fun x H' => ∃ k, x = .bl k ∧ Q k H'
theorem pt_cmpR {op : CmpOp} {r : R2} (ho : OpR X (compareOp op) r) (ha : PE X a ta) (hb : PE X b tb) (hm : behindInMarks op b = false) : PT X (.Compare a [op] [b] pos) (tTest (tOp r ta tb)) := by
  intro pins s σ H Q I h
  refine wpAny_isTrue_Compare1 (thn (ha pins s σ H _ I h) fun v s1 ⟨x, H1, I1, r1, q1⟩ => thn (hb pins s1 σ H1 _ I1 q1) fun u s2 ⟨y, H2, I2, r2, q2⟩ =>
    thn (ho pins s2 σ H2 x y v u _ I2 r1 r2 q2) fun c s3 ⟨z, H3, I3, r3, k, e, q3⟩ => ?_) hm
  subst e
  cases r3
  exact wpAny_truthy_bool ⟨H3, I3, q3⟩
/-- a op1 b op2 c -/
def tChain (r r' : R2) (ta tb tc : TE) : TE := fun σ H Q => ta σ H fun x H1 => tb σ H1 fun y H2 => r x y H2 fun z H3 => ∃ k, z = .bl k ∧
  (if k = true then tc σ H3 fun w' H4 => r' y w' H4 Q else Q (.bl false) H3)
theorem pe_chain {op op' : CmpOp} {r r' : R2} (ho : OpR X (compareOp op) r) (ho' : OpR X (compareOp op') r') (ha : PE X a ta) (hb : PE X b tb) (hc : PE X c tc)
    (hm : lastMarks [op, op'] [b, c] = false := by with_unfolding_all rfl) : PE X (.Compare a [op, op'] [b, c] pos) (tChain r r' ta tb tc) := by
  intro pins s σ H Q I h
  refine Compare_chain (thn (ha pins s σ H _ I h) fun v s1 ⟨x, H1, I1, r1, q1⟩ => chain_link (thn (hb pins s1 σ H1 _ I1 q1) fun u s2 ⟨y, H2, I2, r2, q2⟩ =>
    thn (ho pins s2 σ H2 x y v u _ I2 r1 r2 q2) fun d s3 ⟨z, H3, I3, r3, k, e, q3⟩ => ?_)) hm
  subst e
  cases r3
  refine wpAny_truthy_bool ?_
  cases k with
  | false => exact ite_ff ⟨.bl false, H3, I3, rfl, q3⟩
  | true => exact ite_tt (chain_last (thn (hc pins s3 σ H3 _ I3 q3) fun w' s4 ⟨z', H4, I4, r4, q4⟩ => ho' pins s4 σ H4 y z' u w' Q I4 r2 r4 q4))
theorem pt_chain {op op' : CmpOp} {r r' : R2} (ho : OpR X (compareOp op) r) (ho' : OpR X (compareOp op') r') (ha : PE X a ta) (hb : PE X b tb) (hc : PE X c tc)
    (hm : lastMarks [op, op'] [b, c] = false := by with_unfolding_all rfl) : PT X (.Compare a [op, op'] [b, c] pos) (tTest (tChain r r' ta tb tc)) := by
  intro pins s σ H Q I h
  refine isTrue_chain (thn (ha pins s σ H _ I h) fun v s1 ⟨x, H1, I1, r1, q1⟩ => test_link (thn (hb pins s1 σ H1 _ I1 q1) fun u s2 ⟨y, H2, I2, r2, q2⟩ =>
    thn (ho pins s2 σ H2 x y v u _ I2 r1 r2 q2) fun d s3 ⟨z, H3, I3, r3, k, e, q3⟩ => ?_)) hm
  subst e
  cases r3
  refine wpAny_truthy_bool ?_
  cases k with
  | false =>
    obtain ⟨k', e', q'⟩ := q3
    cases e'
    exact ite_ff ⟨H3, I3, q'⟩
  | true =>
    refine ite_tt (test_last (thn (hc pins s3 σ H3 _ I3 q3) fun w' s4 ⟨z', H4, I4, r4, q4⟩ => thn (ho' pins s4 σ H4 y z' u w' _ I4 r2 r4 q4) fun d' s5 ⟨z2, H5, I5, r5, k2, e2, q5⟩ => ?_))
    subst e2
    cases r5
    exact wpAny_truthy_bool ⟨H5, I5, q5⟩

/-! ### truth -/
/-- a value's truth by the abstract heap -/
def TruV (K : PySem.W.Frag) (x : V) (H : Hp) (k : Bool) : Prop :=
  match x with
  | .non => k = false
  | .bl b => k = b
  | .int i => k = (i != 0)
  | .str y => y.length ≤ sizeLine ∧ k = ((y.length : Int) != 0)
  | .byt y => y.size ≤ sizeLine ∧ k = ((y.size : Int) != 0)
  | .ref p => (∃ xs, SqL K H p xs ∧ k = !xs.isEmpty) ∨ (∃ xs, SqT K H p xs ∧ k = !xs.isEmpty) ∨ ∃ kvs, H p = some (.dK kvs) ∧ k = !kvs.isEmpty
  | _ => False
theorem isEmpty_kv {κ : Type} {kvs : List (κ × V)} {vs : List (κ × Value)} (r : KV kvs vs) : (!vs.isEmpty) = !kvs.isEmpty := by
  cases r <;> rfl
theorem isEmpty_of {xs : List V} {its : List Value} (r : Vals xs its) : (!its.toArray.isEmpty) = !xs.isEmpty := by
  cases r <;> simp
theorem line63 : (sizeLine : Nat) < 2 ^ 63 := by rw [sizeLine_eq]; decide
theorem tru_ok : TruR X (fun x H Q => ∃ k, TruV X.K x H k ∧ Q k H) := by
  intro pins s σ H x v Q I rx h
  obtain ⟨k, e, q⟩ := h
  have hl := line63
  have hs : sizeLine = 16777216 := sizeLine_eq
  cases x with
  | non =>
    cases rx
    have e' : k = false := e
    subst e'
    exact truthy_none ⟨H, I, q⟩
  | bl b =>
    cases rx
    have e' : k = b := e
    subst e'
    exact wpAny_truthy_bool ⟨H, I, q⟩
  | int i =>
    obtain ⟨t, rfl⟩ := rx
    have e' : k = (i != 0) := e
    subst e'
    exact PySem.P.truthy_int ⟨H, I, q⟩
  | str y =>
    obtain ⟨t, rfl⟩ := rx
    obtain ⟨hy, e'⟩ : y.length ≤ sizeLine ∧ k = ((y.length : Int) != 0) := e
    subst e'
    exact PySem.P.truthy_str (by omega) ⟨H, I.tok _, q⟩
  | byt y =>
    obtain ⟨t, rfl⟩ := rx
    obtain ⟨hy, e'⟩ : y.size ≤ sizeLine ∧ k = ((y.size : Int) != 0) := e
    subst e'
    exact PySem.W.truthy_bytes (by omega) ⟨H, I.tok _, q⟩
  | ref p =>
    cases rx
    have e' : (∃ xs, SqL X.K H p xs ∧ k = !xs.isEmpty) ∨ (∃ xs, SqT X.K H p xs ∧ k = !xs.isEmpty) ∨ ∃ kvs, H p = some (.dK kvs) ∧ k = !kvs.isEmpty := e
    rcases e' with ⟨xs, hx, e'⟩ | ⟨xs, hx, e'⟩ | ⟨kvs, hx, e'⟩
    · subst e'
      obtain ⟨its, r, pl, hz⟩ := I.list hx
      have hlen := r.length
      exact wpAny_truthy_list pl.isList (by simp only [List.size_toArray]; omega) ⟨H, I.tok _, by rw [isEmpty_of r]; exact q⟩
    · subst e'
      obtain ⟨its, r, pl, hz⟩ := I.tuple hx
      have hlen := r.length
      exact truthy_tuple pl (by simp only [List.size_toArray]; omega) ⟨H, I.tok _, by rw [isEmpty_of r]; exact q⟩
    · subst e'
      obtain ⟨hz, hS, vs, r, m⟩ : kvs.length ≤ sizeLine ∧ (p == sysModules) = false ∧ ∃ vs, KV kvs vs ∧ s.heap.DictOf (mixKind X.prog X.w) p vs := I.hok p _ hx
      have hlen : kvs.length = vs.length := Paired.length r
      exact wpAny_truthy_dict hS m (by omega) ⟨H, I.tok _, by rw [isEmpty_kv r]; exact q⟩
  | _ => exact (show False from e).elim
/-- any expression whose test is its value's truth (a name, a call, a subscript, a field ..: he by fun _ => rfl) -/
theorem pt_truth (ha : PE X a ta) (he : ∀ whole, isTrue a X.env whole = (do let v ← whole; standAt a.pos; holding [v] (truthy v))) :
    PT X a (fun σ H Q => ta σ H fun x H' => ∃ k, TruV X.K x H' k ∧ Q k H') := by
  intro pins s σ H Q I h
  exact isTrue_plain (thn (ha pins s σ H _ I h) fun v s1 ⟨x, H1, I1, r1, q1⟩ => tru_ok pins s1 σ H1 x v Q I1 r1 q1) (he _)

/-! ### strs and bytes -/
/-! ### scalar builtins, by CallR -/
theorem vals1 {x : V} {us : List Value} (r : Vals [x] us) : ∃ u, us = [u] ∧ RelV x u := by
  cases r with
  | cons r1 r2 => cases r2; exact ⟨_, rfl, r1⟩
theorem call_ord : CallR X (.builtin "ord") (fun xs H Q => ∃ x, xs = [.str x] ∧ x.length = 1 ∧ Q (.int (x.cps.getD 0 0 : Nat)) H) := by
  intro pins s σ H xs us Q I r h
  obtain ⟨x, rfl, hz, q⟩ := h
  obtain ⟨u, rfl, t, rfl⟩ := vals1 r
  exact ord_of_one hz ⟨.int _, H, I.tok _, ⟨_, rfl⟩, q⟩
/-- len of a str, a bytes, a list, a tuple -/
def LenV (K : PySem.W.Frag) (x : V) (H : Hp) (n : Nat) : Prop :=
  match x with
  | .str y => y.length ≤ sizeLine ∧ n = y.length
  | .byt y => y.size ≤ sizeLine ∧ n = y.size
  | .ref p => (∃ xs, SqL K H p xs ∧ n = xs.length) ∨ ∃ xs, SqT K H p xs ∧ n = xs.length
  | _ => False
theorem call_len : CallR X (.builtin "len") (fun xs H Q => ∃ x n, xs = [x] ∧ LenV X.K x H n ∧ Q (.int n) H) := by
  intro pins s σ H xs us Q I r h
  obtain ⟨x, n, rfl, e, q⟩ := h
  obtain ⟨u, rfl, rx⟩ := vals1 r
  have hl := line63
  have hs : sizeLine = 16777216 := sizeLine_eq
  cases x with
  | str y =>
    obtain ⟨t, rfl⟩ := rx
    obtain ⟨hy, e'⟩ : y.length ≤ sizeLine ∧ n = y.length := e
    subst e'
    exact len_str (by omega) ⟨.int _, H, I.tok _, ⟨_, rfl⟩, q⟩
  | byt y =>
    obtain ⟨t, rfl⟩ := rx
    obtain ⟨hy, e'⟩ : y.size ≤ sizeLine ∧ n = y.size := e
    subst e'
    exact PySem.W.len_bytes (by omega) ⟨.int _, H, I.tok _, ⟨_, rfl⟩, q⟩
  | ref p =>
    cases rx
    have e' : (∃ xs, SqL X.K H p xs ∧ n = xs.length) ∨ ∃ xs, SqT X.K H p xs ∧ n = xs.length := e
    rcases e' with ⟨xs, hx, e'⟩ | ⟨xs, hx, e'⟩
    · subst e'
      obtain ⟨its, r', pl, hz⟩ := I.list hx
      have hlen := r'.length
      exact Calls.call_len_list pl.isList (by simp only [List.size_toArray]; omega) ⟨.int xs.length, H, I.tok _, ⟨_, by simp only [List.size_toArray]; rw [hlen]⟩, q⟩
    · subst e'
      obtain ⟨its, r', pl, hz⟩ := I.tuple hx
      have hlen := r'.length
      exact len_tuple pl (by simp only [List.size_toArray]; omega) ⟨.int xs.length, H, I.tok _, ⟨_, by simp only [List.size_toArray]; rw [hlen]⟩, q⟩
  | _ => exact (show False from e).elim
end
end L2

namespace L2
open PySem PySem.Spec PyProof.Rows

/-! ### an instance, its attributes a map -/
structure ObjM (h : Heap) (x dx C : Addr) (mA : Str → Option Value) : Prop where
  obj : h.get? x = some (PySem.W.instObj C dx)
  ns : h.Ns1 dx mA
  ne : dx ≠ x

theorem lookIn_ns {h : Heap} {dx : Addr} {mA : Str → Option Value} (n : h.Ns1 dx mA) : ∃ od, h.get? dx = some od ∧ ∀ name, PySem.W.lookIn name od = some (mA name) := by
  obtain ⟨o, es, ep, ho, hd, hk, _, hm⟩ := n
  refine ⟨o, ho, fun name => ?_⟩
  have e := hm name
  unfold nsFind findBy at e
  rw [← Array.find?_toList] at e
  unfold PySem.W.lookIn
  rw [hd]
  dsimp only
  split
  · rename_i y q
    rw [q] at e
    exact congrArg some e
  · rename_i q
    rw [q] at e
    have a : es.toList.any (·.refKey) = false := by
      rw [List.any_eq_false]
      intro y hy
      obtain ⟨z, t, hkey⟩ := hk y (Array.mem_toList_iff.mp hy)
      simp [DictEntry.refKey, hkey]
    have a' : ¬ es.toList.any (·.refKey) = true := by rw [a]; exact Bool.false_ne_true
    rw [if_neg a']
    exact congrArg some e

theorem ObjM.look {h : Heap} {x dx C : Addr} {mA : Str → Option Value} (I : ObjM h x dx C mA) : ∃ od, PySem.W.InstAt h x (PySem.W.instObj C dx) C (some od) ∧ ∀ name, PySem.W.lookIn name od = some (mA name) :=
  let ⟨od, ho, hl⟩ := lookIn_ns I.ns
  ⟨od, ⟨I.obj, rfl, rfl, ho⟩, hl⟩

section
variable {prog : Program} {w : World} {A : Around} {E : Value → Shared → Prop} {s : Shared} {K : PySem.W.Frag} {x dx C f : Addr} {mA : Str → Option Value} {name : Str} {v : Value}

theorem get_map {expr : Bool} {Q : Value → Shared → Prop} (X : K.In s.heap) (I : ObjM s.heap x dx C mA) (hg : PySem.W.plainGet K C name = true) (hh : PySem.W.hasDictIn K C = true)
    (ha : PySem.W.findIn K (.ref C) name = some none) (hv : mA name = some v) (hv' : PySem.W.handedIn v = true) (h : Q v { s with toks := s.toks + 1 }) :
    wpAny (model prog w) A (getAttr (.ref x) name expr) Q E s := by
  obtain ⟨od, J, hl⟩ := I.look
  exact PySem.W.get_value X J (PySem.W.plainGet_of hg).1 (PySem.W.findObj_own hh ha rfl (by rw [hl, hv])) hv' h

theorem set_map {ns : List Str} {Q : Unit → Shared → Prop} (X : K.In s.heap) (I : ObjM s.heap x dx C mA)
    (hs : PySem.W.findIn K (.ref C) "__setattr__" = some (some (.builtin "object.__setattr__"))) (hp : PySem.W.plainOver K C = true) (ht : PySem.W.takerIn K C name = some none) (hh : PySem.W.hasDictIn K C = true)
    (hw : PySem.Within mA ns) (hsz : ns.length ≤ sizeLine)
    (h : ∀ h', ObjM h' x dx C (fun y => if y = name then some v else mA y) → Heap.SameBut dx s.heap h' → Q () { s with heap := h', toks := s.toks + 2 }) :
    wpAny (model prog w) A (setAttr (.ref x) name v) Q E s := by
  obtain ⟨od, J, hl⟩ := I.look
  refine PySem.W.set_plain X J hs (PySem.W.osa_open (s := { s with toks := s.toks + 1 }) (r := none) X J hp ht fun b => ?_)
  obtain ⟨cd, hc, hd'⟩ := PySem.W.any_some hh
  have hx : s.heap.get? x = some ⟨.ref C, some dx, .plain, #[]⟩ := I.obj
  refine wpAny_bind (wpAny_pure (wpAny_bind (wpAny_bind (wpAny_loadPart hx (wpAny_bind (PySem.W.Looks.here (s := { s with toks := s.toks + 1 }) (PySem.W.looks_clsIn X hc) ?_))))))
  rw [hd']
  refine wpAny_pure (a := some dx) (wpAny_bind (wpAny_pure (wpAny_bind ?_)))
  refine wpAny_nsSet1 (s := { s with toks := s.toks + 1 }) I.ns fun h' hn2 hs2 => ?_
  obtain ⟨oD, esD, epD, hoD, hdD, hcD⟩ := hn2.count (PySem.Within.cons name v hw)
  refine wpAny_bind (wpAny_lookBehind hoD (by rw [hdD]; exact pastItsLine_dict (Nat.le_trans hcD (by rw [List.length_cons]; omega))) ?_)
  exact wpAny_pure (h _ ⟨(hs2.2 _ (Ne.symm I.ne)).trans I.obj, hn2, I.ne⟩ hs2)

/-- C(..): the dict at the heap's end, the instance behind it; then its __init__ -/
theorem make_map {R : Result → Shared → Prop} {vs : List Value} {kw : List (Str × Value)} (X : K.In s.heap) (hm : PySem.W.makesIn K C = true)
    (hi : PySem.W.findIn K (.ref C) "__init__" = some (some (.ref f))) (hf : PySem.W.typeIn K (.ref f) = some (.type "function"))
    (h : codeAny (model prog w) (A.under (.builtin "type.__call__" ⟨.ref C :: vs, kw⟩)) (.call (.ref f) ⟨.ref (s.heap.objs.size + 1) :: vs, kw⟩) (PySem.W.InitBack (s.heap.objs.size + 1) R)
      { s with heap := (s.heap.push PySem.W.emptyDict).push (PySem.W.instObj C s.heap.objs.size) }) :
    codeAny (model prog w) A (.call (.ref C) ⟨vs, kw⟩) R s := by
  obtain ⟨hh, g, d, t, os⟩ := s
  exact PySem.W.make_core (PySem.W.makes_of X hm) (PySem.W.looks_findIn X hi) (fun self => PySem.W.bind_fn X self hf) (.inl rfl) h
end

/-! ### the attributes as a list of pairs -/
def putF (f : Str) (v : V) : List (Str × V) → List (Str × V)
  | [] => [(f, v)]
  | (g, x) :: r => if g = f then (g, v) :: r else (g, x) :: putF f v r
theorem lookup_putF (f g : Str) (v : V) : ∀ fs : List (Str × V), (putF f v fs).lookup g = if g = f then some v else fs.lookup g
  | [] => by
    show List.lookup g [(f, v)] = _
    by_cases h : g = f
    · have hb : (g == f) = true := beq_iff_eq.mpr h
      simp only [List.lookup, hb, if_pos h]
    · have hb : (g == f) = false := beq_eq_false_iff_ne.mpr h
      simp only [List.lookup, hb, if_neg h]
  | (k, x) :: r => by
    have ih := lookup_putF f g v r
    rw [show putF f v ((k, x) :: r) = (if k = f then (k, v) :: r else (k, x) :: putF f v r) from rfl]
    by_cases hk : k = f
    · rw [if_pos hk]
      by_cases h : g = k
      · have hb : (g == k) = true := beq_iff_eq.mpr h
        simp only [List.lookup, hb, if_pos (h.trans hk)]
      · have hb : (g == k) = false := beq_eq_false_iff_ne.mpr h
        simp only [List.lookup, hb, if_neg (fun e : g = f => h (e.trans hk.symm))]
    · rw [if_neg hk]
      by_cases h : g = k
      · have hb : (g == k) = true := beq_iff_eq.mpr h
        simp only [List.lookup, hb, if_neg (fun e : g = f => hk (h.symm.trans e))]
      · have hb : (g == k) = false := beq_eq_false_iff_ne.mpr h
        simp only [List.lookup, hb]
        exact ih
theorem keys_putF (f : Str) (v : V) : ∀ fs : List (Str × V), f ∈ (putF f v fs).map (·.1) ∧ ∀ g, g ∈ fs.map (·.1) → g ∈ (putF f v fs).map (·.1)
  | [] => ⟨by simp [putF], fun g h => by simp at h⟩
  | (k, x) :: r => by
    obtain ⟨i1, i2⟩ := keys_putF f v r
    rw [show putF f v ((k, x) :: r) = (if k = f then (k, v) :: r else (k, x) :: putF f v r) from rfl]
    by_cases hk : k = f
    · rw [if_pos hk]
      subst hk
      exact ⟨by simp, fun g h => by simpa using h⟩
    · rw [if_neg hk]
      refine ⟨?_, fun g h => ?_⟩
      · rw [List.map_cons]
        exact List.mem_cons_of_mem _ i1
      · rw [List.map_cons] at h ⊢
        rcases List.mem_cons.mp h with e | e
        · exact List.mem_cons.mpr (.inl e)
        · exact List.mem_cons_of_mem _ (i2 g e)
theorem length_putF (f : Str) (v : V) : ∀ fs : List (Str × V), (putF f v fs).length ≤ fs.length + 1
  | [] => by simp [putF]
  | (k, x) :: r => by
    have ih := length_putF f v r
    rw [show putF f v ((k, x) :: r) = (if k = f then (k, v) :: r else (k, x) :: putF f v r) from rfl]
    by_cases hk : k = f
    · rw [if_pos hk, List.length_cons, List.length_cons]; omega
    · rw [if_neg hk, List.length_cons, List.length_cons]; omega

theorem RelO.some_of {v : V} {o : Option Value} (r : RelO (some v) o) : ∃ u, o = some u ∧ RelV v u := by
  cases o with
  | none => exact (show False from r).elim
  | some u => exact ⟨u, rfl, r⟩
theorem handed_of {v : V} {u : Value} (r : RelV v u) : PySem.W.handedIn u = true := by
  cases v with
  | non => cases (show u = Value.none from r); rfl
  | bl b => cases (show u = Value.bool b from r); rfl
  | int i => obtain ⟨t, e⟩ := (show ∃ t, u = Value.int i t from r); cases e; rfl
  | str x => obtain ⟨t, e⟩ := (show ∃ t, u = Value.str x t from r); cases e; rfl
  | byt b => obtain ⟨t, e⟩ := (show ∃ t, u = Value.bytes b t from r); cases e; rfl
  | flt b => obtain ⟨t, e⟩ := (show ∃ t, u = Value.float b t from r); cases e; rfl
  | ref a => cases (show u = Value.ref a from r); rfl
  | ty n => cases (show u = Value.type n from r); rfl

section
variable {P : Program} {w : World} {H H' : Hp} {h h' : Heap} {a C dx : Addr} {fs fs' : List (Str × V)}
theorem ins_get (hok : HOk P w H h) (e : H a = some (.ins C dx fs)) : ∃ mA, ObjM h a dx C mA ∧ (∀ f, RelO (fs.lookup f) (mA f)) ∧ PySem.Within mA (fs.map (·.1)) ∧ fs.length ≤ 1000 ∧ H dx = some (.own a) := by
  obtain ⟨d, z, ne, ob, mA, n, r, q⟩ := (show ObjOk P w H h a (.ins C dx fs) from hok a _ e)
  exact ⟨mA, ⟨ob, n, ne⟩, r, q, z, d⟩
end

/-! ### what of the text a class must have -/
structure Cls (K : PySem.W.Frag) (C : Addr) : Prop where
  pg : PySem.W.plainGet K C Str.empty = true
  hd : PySem.W.hasDictIn K C = true
  po : PySem.W.plainOver K C = true
  sa : PySem.W.findIn K (.ref C) "__setattr__" = some (some (.builtin "object.__setattr__"))
theorem Cls.get {K : PySem.W.Frag} {C : Addr} (c : Cls K C) (f : Str) : PySem.W.plainGet K C f = true := c.pg
/-- no class of it has the name -/
def NoAttr (K : PySem.W.Frag) (C : Addr) (f : Str) : Prop := PySem.W.findIn K (.ref C) f = some none
theorem NoAttr.taker {K : PySem.W.Frag} {C : Addr} {f : Str} (n : NoAttr K C f) : PySem.W.takerIn K C f = some none := by
  unfold PySem.W.takerIn
  rw [show PySem.W.findIn K (.ref C) f = some none from n]
  rfl
section
variable {X : Cx} {pins : List (Addr × Obj)} {σ : St} {H : Hp} {s : Shared} {a C dx : Addr} {fs : List (Str × V)} {f : Str} {v : V} {A : Around} {E : Value → Shared → Prop}

theorem getattr_ok {b : Bool} {Q : Value → Shared → Prop} (I : Inv X pins σ H s) (e : H a = some (.ins C dx fs)) (c : Cls X.K C) (n : NoAttr X.K C f) (l : fs.lookup f = some v)
    (h : ∀ u s', Inv X pins σ H s' → RelV v u → Q u s') : wpAny (model X.prog X.w) A (getAttr (.ref a) f b) Q E s := by
  obtain ⟨mA, O, r, _, _, _⟩ := ins_get I.hok e
  obtain ⟨u, hu, ru⟩ := RelO.some_of (v := v) (o := mA f) (by rw [← l]; exact r f)
  exact get_map I.kIn O (c.get f) c.hd n hu (handed_of ru) (h u _ (I.tok _) ru)

theorem setattr_ok {y : V} {u : Value} {Q : Unit → Shared → Prop} (I : Inv X pins σ H s) (e : H a = some (.ins C dx fs)) (c : Cls X.K C) (n : NoAttr X.K C f) (hl : fs.length < 1000) (ry : RelV y u)
    (h : ∀ s', Inv X pins σ (upd H a (.ins C dx (putF f y fs))) s' → Q () s') : wpAny (model X.prog X.w) A (setAttr (.ref a) f u) Q E s := by
  obtain ⟨mA, O, r, wi, _, ho⟩ := ins_get I.hok e
  have hz : (fs.map (·.1)).length ≤ sizeLine := by rw [List.length_map, sizeLine_eq]; omega
  refine set_map I.kIn O c.sa c.po n.taker c.hd wi hz fun h' O' sb => h _ ?_
  have hd : ∃ o, h'.get? dx = some o := let ⟨o, _, _, e', _⟩ := O'.ns; ⟨o, e'⟩
  refine I.write (x := a) (e := dx) (by rw [e]; exact True.intro) (.inr ho) (fun b q hb z => (sb.2 b hb).trans z) hd ?_
  refine ⟨by rw [upd_ne O.ne]; exact ho, ?_, O.ne, O'.obj, _, O'.ns, fun g => ?_, fun g hg => ?_⟩
  · have := length_putF f y fs; omega
  · show RelO ((putF f y fs).lookup g) (if g = f then some u else mA g)
    rw [lookup_putF]
    by_cases q : g = f
    · rw [if_pos q, if_pos q]; exact ry
    · rw [if_neg q, if_neg q]; exact r g
  · by_cases q : g = f
    · rw [q]; exact (keys_putF f y fs).1
    · refine (keys_putF f y fs).2 g (wi g fun z => hg ?_)
      show (if g = f then some u else mA g) = none
      rw [if_neg q]; exact z

/-- a new instance, tracked, without attributes -/
theorem Inv.made (I : Inv X pins σ H s) : Inv X pins σ (upd (upd H s.heap.objs.size (.own (s.heap.objs.size + 1))) (s.heap.objs.size + 1) (.ins C s.heap.objs.size []))
    { s with heap := (s.heap.push PySem.W.emptyDict).push (PySem.W.instObj C s.heap.objs.size) } := by
  have e1 : (s.heap.push PySem.W.emptyDict).get? s.heap.objs.size = some PySem.W.emptyDict := Heap.get?_push_size s.heap rfl
  have e2 : ((s.heap.push PySem.W.emptyDict).push (PySem.W.instObj C s.heap.objs.size)).get? (s.heap.objs.size + 1) = some (PySem.W.instObj C s.heap.objs.size) := by
    have := Heap.get?_push_size (s.heap.push PySem.W.emptyDict) (o := PySem.W.instObj C s.heap.objs.size) rfl
    rwa [Heap.size_push] at this
  have e3 : (s.heap.push PySem.W.emptyDict).Ns s.heap.objs.size (fun _ => none) := ⟨PySem.W.emptyDict, #[], _, e1, rfl, (fun e he => absurd he (by simp)), fun _ => rfl⟩
  have I1 := I.laid (a := s.heap.objs.size) (o := .own (s.heap.objs.size + 1)) (h' := s.heap.push PySem.W.emptyDict) (t' := s.toks) (fun b u q => Heap.get?_push_of_some _ q) (Nat.le_refl _) ⟨_, e1⟩
  refine I1.laid (a := s.heap.objs.size + 1) (o := .ins C s.heap.objs.size []) (t' := s.toks) (fun b u q => Heap.get?_push_of_some _ q) (Nat.le_of_eq (Heap.size_push _ _)) ?_
  have ne : s.heap.objs.size ≠ s.heap.objs.size + 1 := Nat.ne_of_lt (Nat.lt_succ_self _)
  refine ⟨by rw [upd_ne ne, upd_same], Nat.zero_le _, ne, e2, fun _ => none, (Heap.Ns1.of_empty e3).at fun o q => Heap.get?_push_of_some _ q, fun _ => True.intro, fun y hy => absurd rfl hy⟩

/-- e.f where nothing but the object is asked: through attributeBase (super) and the last hold -/
theorem attr_of {prog : Program} {w : World} {env : Env} {e : Expr} {f : Str} {pos : Pos} {s : Shared} {Q : Value → Shared → Prop} (hb : attributeBase e f env (eval e env) = eval e env)
    (h : wpAny (model prog w) A (eval e env) (fun o s₁ => wpAny (model prog w) A (getAttr o f true) Q E s₁) E s) : wpAny (model prog w) A (eval (.Attribute e f pos) env) Q E s :=
  Attribute_any_ h (by rw [arm_eval_Attribute, hb])
end

/-! ### readings and rules -/
/-- e.f, an attribute of the instance -/
def tFld (K : PySem.W.Frag) (ta : TE) (f : Str) : TE := fun σ H Q => ta σ H fun x H1 => ∃ a C dx fs v, x = .ref a ∧ H1 a = some (.ins C dx fs) ∧ Cls K C ∧ NoAttr K C f ∧ fs.lookup f = some v ∧ Q v H1
/-- e.f = value -/
def sFld (K : PySem.W.Frag) (ta tv : TE) (f : Str) : TS := fun D σ H => tv σ H fun y H1 => ta σ H1 fun x H2 => ∃ a C dx fs, x = .ref a ∧ H2 a = some (.ins C dx fs) ∧ Cls K C ∧ NoAttr K C f ∧ fs.length < 1000 ∧
  D.nx σ (upd H2 a (.ins C dx (putF f y fs)))
section
variable {X : Cx} {o e value : Expr} {f : Str} {pos pos' tpos : Pos} {ta tv : TE}
theorem pe_fld (he : PE X e ta) (hb : attributeBase e f X.env (eval e X.env) = eval e X.env) : PE X (.Attribute e f pos) (tFld X.K ta f) := by
  intro pins s σ H Q I h
  refine attr_of hb (thn (he pins s σ H _ I h) fun u s1 ⟨x, H1, I1, rx, a, C, dx, fs, v, ex, ea, c, n, l, q⟩ => ?_)
  subst ex
  obtain rfl : u = Value.ref a := rx
  exact getattr_ok I1 ea c n l fun u' s2 I2 ru => ⟨v, H1, I2, ru, q⟩
theorem ps_fld (ha : PE X o ta) (hv : PE X value tv) (hs : swapsWith value (some (.Attribute o f pos')) pos.line X.env = pure false) : PS X (.Assign [.Attribute o f pos'] value pos) (sFld X.K ta tv f) := by
  intro pins s σ H D I h
  refine plainObj_wpAny_Assign_Attribute (thn (hv pins s σ H _ I h) fun u s1 ⟨y, H1, I1, ry, q⟩ => thn (ha pins s1 σ H1 _ I1 q) fun ov s2 ⟨x, H2, I2, rx, a, C, dx, fs, ex, ea, c, n, l, q2⟩ => ?_) hs
  subst ex
  obtain rfl : ov = Value.ref a := rx
  exact setattr_ok I2 ea c n l ry fun s3 I3 => ⟨σ, _, I3, q2⟩
end

/-! ### isinstance -/
section
variable {X : Cx} {pins : List (Addr × Obj)} {σ : St} {H : Hp} {s : Shared} {A : Around} {E : Value → Shared → Prop} {Q : Value → Shared → Prop} {c : Value} {b : Bool}
end
end L2

namespace L2
open PySem PySem.Spec PyProof.Rows

/-! ### room -/
structure Room (k : Nat) (A : Around) : Prop where
  hd : A.handled = none
  dp : A.depth + 3 * k + 5 < recursionLimit
  un : A.units + 16 * k + 200 < cLine
theorem Room.mono {j k : Nat} {A : Around} (r : Room k A) (h : j ≤ k) : Room j A := ⟨r.hd, by have := r.dp; omega, by have := r.un; omega⟩
theorem Room.deeper {k : Nat} {A : Around} (r : Room (k + 1) A) (env : Env) : Room k (A.deeper env) :=
  ⟨r.hd, by have := r.dp; show A.depth + 1 + 3 * k + 5 < _; omega, by have := r.un; show A.units + 3 + 16 * k + 200 < _; omega⟩
theorem Room.in1 {k : Nat} {A : Around} (r : Room (k + 1) A) : Room k A.in1 :=
  ⟨r.hd, by have := r.dp; show A.depth + 3 * k + 5 < _; omega, by have := r.un; show A.units + 1 + 16 * k + 200 < _; omega⟩
theorem make_depth {A : Around} {C : Addr} {us : List Value} {kw : List (Str × Value)} : (A.under (.builtin "type.__call__" ⟨.ref C :: us, kw⟩)).depth = A.depth + 1 := by
  first | rfl | simp [Around.under, Code.weight, Code.isCreation, Code.isGuard, Code.isCaller, Code.frames, Code.isFrame, guardIds]
theorem make_units {A : Around} {C : Addr} {us : List Value} {kw : List (Str × Value)} : (A.under (.builtin "type.__call__" ⟨.ref C :: us, kw⟩)).units = A.units + 1 := by
  first | rfl | simp [Around.under, Code.cUnits, Code.frames, Code.isFrame]
theorem Room.make {k : Nat} {A : Around} (r : Room (k + 1) A) (C : Addr) (us : List Value) (kw : List (Str × Value)) : Room k (A.under (.builtin "type.__call__" ⟨.ref C :: us, kw⟩)) :=
  ⟨r.hd, by have := r.dp; rw [make_depth]; omega, by have := r.un; rw [make_units]; omega⟩
theorem Room.depth {k : Nat} {A : Around} (r : Room k A) : A.depth < recursionLimit := by have := r.dp; omega
theorem Room.units {k : Nat} {A : Around} (r : Room k A) : A.units + 64 < cLine := by have := r.un; omega
/-! ### argument lists and displays -/
def tNil : TA := fun _ H Q => Q [] H
def tCons (ta : TE) (tr : TA) : TA := fun σ H Q => ta σ H fun x H1 => tr σ H1 fun xs H2 => Q (x :: xs) H2
section
variable {X : Cx} {e : Expr} {es : List Expr} {te : TE} {t : TA} {pos : Pos}
theorem pa_nil : PA X [] tNil := fun _ _ _ _ H Q I h => Calls.spliced_nil ⟨[], H, I, .nil, h⟩
theorem pa_cons (ha : PE X e te) (hr : PA X es t) (hs : starEach (e :: es) X.env = (false, eval e X.env) :: starEach es X.env := by rfl) : PA X (e :: es) (tCons te t) := by
  intro pos pins s σ H Q I h
  rw [hs]
  show wpAny _ _ (spliced ((false, eval e X.env) :: backTo pos (starEach es X.env))) _ _ s
  refine Calls.spliced_cons (thn (ha pins s σ H _ I h) fun u s1 ⟨x, H1, I1, r1, q1⟩ => ?_)
  exact thn (hr pos pins s1 σ H1 _ I1 q1) fun us s2 ⟨xs, H2, I2, r2, q2⟩ => ⟨x :: xs, H2, I2, .cons r1 r2, q2⟩

/-- a tuple, a list of written items -/
def tTup (t : TA) : TE := fun σ H Q => t σ H fun xs H1 => xs.length ≤ sizeLine ∧ ∀ p, H1 p = none → Q (.ref p) (upd H1 p (.tup xs))
def tLst (t : TA) : TE := fun σ H Q => t σ H fun xs H1 => xs.length ≤ sizeLine ∧ ∀ p, H1 p = none → Q (.ref p) (upd H1 p (.lst xs))
theorem pe_tup {x1} (h : PA X es t) : PE X (.Tuple es x1 pos) (tTup t) := by
  intro pins s σ H Q I hq
  refine wpAny_Tuple_spliced (thn (h pos pins s σ H _ I hq) fun us s1 ⟨xs, H1, I1, r, z, q⟩ => ⟨by rw [← r.length]; exact z, ?_⟩)
  have hf : H1 s1.heap.objs.size = none := I1.hok.fresh (Nat.le_refl _)
  refine ⟨.ref s1.heap.objs.size, upd H1 s1.heap.objs.size (.tup xs), I1.laid (t' := s1.toks) (fun b u e => Heap.get?_push_of_some _ e) (Nat.le_refl _) ?_, rfl, q _ hf⟩
  exact ⟨z, us, r, ⟨_, Heap.get?_push_size _ rfl, rfl, _, rfl⟩⟩
theorem pe_lst (h : PA X es t) : PE X (.List es pos) (tLst t) := by
  intro pins s σ H Q I hq
  refine wpAny_List_spliced (thn (h pos pins s σ H _ I hq) fun us s1 ⟨xs, H1, I1, r, z, q⟩ => ⟨by rw [← r.length]; exact z, ?_⟩)
  have hf : H1 s1.heap.objs.size = none := I1.hok.fresh (Nat.le_refl _)
  refine ⟨.ref s1.heap.objs.size, upd H1 s1.heap.objs.size (.lst xs), I1.laid (t' := s1.toks) (fun b u e => Heap.get?_push_of_some _ e) (Nat.le_refl _) ?_, rfl, q _ hf⟩
  exact ⟨z, us, 0, r, Heap.get?_push_size _ rfl⟩
end

/-! ### what a def promises -/
/-- a def's promise: the bound arguments in the parameters' order, the heap, the wanted end, the wanted exception -/
abbrev Sp := List V → Hp → VK → XK → Prop
/-- how an exception lies behind a call (file 08 gives it): the callers' frames, abstract heap and state ahead of the call, the wish, the exception, the state -/
abbrev CXT := List Env → Hp → Shared → XK → Value → Shared → Prop

/-- the state at a call -/
structure Env0 (P : Program) (w : World) (K : PySem.W.Frag) (mg : Str → Option Value) (base : Heap) (A : Around) (outer : List Env) (s : Shared) (H : Hp) : Prop where
  frames : A.frames = some outer
  mod : Mod K mg base
  bs : ∀ b o, base.get? b = some o → s.heap.get? b = some o ∧ H b = none
  bsz : base.objs.size ≤ s.heap.objs.size
  funs : s.heap.FunFrames base outer
  frf : ∀ b ∈ frs outer, H b = none
  hok : HOk P w H s.heap
  bare : AllBare s.gens
/-- a call's end -/
def CE (outer : List Env) (P : Program) (w : World) (H : Hp) (s : Shared) (Q : VK) (u : Value) (s' : Shared) : Prop :=
  ∃ v H', s'.os = s.os ∧ AllBare s'.gens ∧ Un (frs outer) [] H H' s.heap s'.heap ∧ HOk P w H' s'.heap ∧ RelV v u ∧ Q v H'
def CR (CX : CXT) (outer : List Env) (P : Program) (w : World) (H : Hp) (s : Shared) (Q : VK) (E : XK) (r : Result) (s' : Shared) : Prop :=
  match r with
  | .ok (.ret u) => CE outer P w H s Q u s'
  | .ok _ => False
  | .error e => CX outer H s E e s'
structure FnOk (P : Program) (w : World) (K : PySem.W.Frag) (mg : Str → Option Value) (base : Heap) (CX : CXT) (k : Nat) (f : Addr) (fd : FuncData) (ps : List Str) (sp : Sp) : Prop where
  len : ∀ vs H Q E, sp vs H Q E → vs.length = ps.length
  run : ∀ (A : Around) (outer : List Env) (s : Shared) (H : Hp) (args : Args) (us : List Value) (vs : List V) (Q : VK) (E : XK), Room k A → Env0 P w K mg base A outer s H → BindsTo s fd args (ps.zip us) → Vals vs us → sp vs H Q E →
    codeAny (model P w) A (.call (.ref f) args) (CR CX outer P w H s Q E) s
theorem FnOk.mono {P : Program} {w : World} {K : PySem.W.Frag} {mg : Str → Option Value} {base : Heap} {CX : CXT} {j k : Nat} {f : Addr} {fd : FuncData} {ps : List Str} {sp : Sp} (F : FnOk P w K mg base CX j f fd ps sp) (h : j ≤ k) :
    FnOk P w K mg base CX k f fd ps sp := ⟨F.len, fun A outer s H args us vs Q E hr => F.run A outer s H args us vs Q E (hr.mono h)⟩
theorem Env0.make {P : Program} {w : World} {K : PySem.W.Frag} {mg : Str → Option Value} {base : Heap} {A : Around} {outer : List Env} {s : Shared} {H : Hp} (e : Env0 P w K mg base A outer s H) (C : Addr) (us : List Value) (kw : List (Str × Value)) :
    Env0 P w K mg base (A.under (.builtin "type.__call__" ⟨.ref C :: us, kw⟩)) outer s H := ⟨by first | exact e.frames | (simpa [Around.under, Code.envs, Code.isFrame, pushEnvs] using e.frames), e.mod, e.bs, e.bsz, e.funs, e.frf, e.hok, e.bare⟩
theorem Env0.in1 {P : Program} {w : World} {K : PySem.W.Frag} {mg : Str → Option Value} {base : Heap} {A : Around} {outer : List Env} {s : Shared} {H : Hp} (e : Env0 P w K mg base A outer s H) :
    Env0 P w K mg base A.in1 outer s H := ⟨e.frames, e.mod, e.bs, e.bsz, e.funs, e.frf, e.hok, e.bare⟩

section
variable {X : Cx} {pins : List (Addr × Obj)} {σ : St} {H : Hp} {s s' : Shared}
/-- from a body: what a callee wants -/
theorem Inv.env0 (I : Inv X pins σ H s) : Env0 X.prog X.w X.K X.mg X.base X.A X.stack s H :=
  ⟨I.ok.frames, I.ok.mod, I.bs, Nat.le_trans I.ok.bsz I.sz, I.stack, I.stkFree, I.hok, I.bare⟩
/-- behind a call -/
theorem Inv.after {Q : VK} {u : Value} (I : Inv X pins σ H s) (h : CE X.stack X.prog X.w H s Q u s') : EP X pins σ Q u s' := by
  obtain ⟨v, H', os, bare, un, hok, r, q⟩ := h
  obtain ⟨hh, g, d, t, os'⟩ := s'
  obtain rfl : os' = s.os := os
  exact ⟨v, H', I.call (h' := hh) (g' := g) (d' := d) (t' := t) (ch := []) un hok bare (fun b z => absurd z (by simp)), r, q⟩
end

/-! ### calls -/
/-- f(..): the written arguments, then the defaults dvs; E: what is wanted of an exception -/
def tCall (sp : Sp) (dvs : List V) (E : XK) (t : TA) : TE := fun σ H Q => t σ H fun vs H1 => sp (vs ++ dvs) H1 Q E
/-- C(..): a new instance and its dict, then __init__ -/
def tMake (C : Addr) (sp : Sp) (dvs : List V) (E : XK) (t : TA) : TE := fun σ H Q => t σ H fun vs H1 => ∀ x dx, H1 x = none → H1 dx = none → dx ≠ x →
  sp (.ref x :: (vs ++ dvs)) (upd (upd H1 dx (.own x)) x (.ins C dx [])) (fun v H2 => v = .non ∧ Q (.ref x) H2) E

/-- how the parameters are bound: us the positional arguments, kw the keywords' values by name, ds the defaults that fill up -/
def Binds (K : PySem.W.Frag) (fd : FuncData) (ps : List Str) (ds : List Value) : Prop :=
  ∀ (s : Shared) (us : List Value), K.In s.heap → (us ++ ds).length = ps.length → BindsTo s fd ⟨us, []⟩ (ps.zip (us ++ ds))
/-- every parameter is given -/
theorem Binds.all {K : PySem.W.Frag} {fd : FuncData} {ps : List Str} (h : ∀ us : List Value, us.length = ps.length → bindArgs fd ⟨us, []⟩ = pure (ps.zip us)) : Binds K fd ps [] := fun s us _ hl => by
  rw [List.append_nil] at hl ⊢
  exact .of_eq (h us hl)

/-- an exception of a callee reaches what this body wants of exceptions -/
def Passes (CX : CXT) (X : Cx) (E : XK) : Prop := ∀ (pins : List (Addr × Obj)) (σ : St) (H : Hp) (s : Shared) (e : Value) (s' : Shared), Inv X pins σ H s → CX X.stack H s E e s' → X.xe e s'

section
variable {X : Cx} {CX : CXT} {k : Nat} {f C : Addr} {fd : FuncData} {ps : List Str} {sp : Sp} {dvs : List V} {ds : List Value} {E : XK} {x m : Str} {p pos apos : Pos} {e o : Expr} {es : List Expr} {ta : TE} {t : TA}

/-- the callee runs -/
theorem run_fn {pins : List (Addr × Obj)} {σ : St} {H : Hp} {s : Shared} {Q : VK} {us : List Value} {vs : List V} (F : FnOk X.prog X.w X.K X.mg X.base CX k f fd ps sp) (hr : Room k X.A) (hb : Binds X.K fd ps ds) (hd : Vals dvs ds) (hx : Passes CX X E)
    (I : Inv X pins σ H s) (r : Vals vs us) (h : sp (vs ++ dvs) H Q E) : wpAny (model X.prog X.w) X.A (call (.ref f) us) (EP X pins σ Q) X.xe s := by
  have r2 : Vals (vs ++ dvs) (us ++ ds) := r.append hd
  have hl : (us ++ ds).length = ps.length := by rw [← r2.length]; exact F.len _ _ _ _ h
  refine wpAny_call (codeAny_mono (F.run X.A X.stack s H ⟨us, []⟩ (us ++ ds) (vs ++ dvs) Q E hr I.env0 (hb s us I.kIn hl) r2 h) fun r s' hq => ?_)
  cases r with
  | error e => exact hx pins σ H s e s' I hq
  | ok fl =>
    cases fl with
    | ret u => exact I.after hq
    | next => exact False.elim hq
    | brk => exact False.elim hq
    | cont => exact False.elim hq

theorem pe_call (F : FnOk X.prog X.w X.K X.mg X.base CX k f fd ps sp) (hr : Room k X.A) (hg : Gl X x) (hm : X.mg x = some (.ref f)) (hk : PySem.W.keepIn X.K (.ref f) = true) (hb : Binds X.K fd ps ds) (hd : Vals dvs ds) (hx : Passes CX X E)
    (ha : PA X (e :: es) t) (hdb : (x == ("__debug__" : Str)) = false := by decide) (he : starEach (e :: es) X.env = (false, eval e X.env) :: starEach es X.env := by rfl) (hpl : (backTo pos (starEach es X.env)).any (·.1) = false := by rfl) :
    PE X (.Call (.Name x p) (e :: es) [] pos) (tCall sp dvs E t) := by
  intro pins s σ H Q I h
  refine wpAny_Call_Name_kw (ld_glob I hg hm ?_ hdb)
  refine PySem.W.callWith_K (h₀ := X.base) I.ok.mod.kin hk (thn (ha pos pins s σ H _ I h) fun us s1 ⟨vs, H1, I1, r, q⟩ => ⟨I1.kIn, ?_⟩) he hpl
  exact run_fn F hr hb hd hx I1 r q
/-- what a class must have to be made -/
structure Mk (K : PySem.W.Frag) (C f : Addr) : Prop where
  makes : PySem.W.makesIn K C = true
  init : PySem.W.findIn K (.ref C) "__init__" = some (some (.ref f))
  fn : PySem.W.isFn K (.ref f) = true
  kp : PySem.W.keepIn K (.ref C) = true

theorem run_make {pins : List (Addr × Obj)} {σ : St} {H : Hp} {s : Shared} {Q : VK} {us : List Value} {vs : List V} (M : Mk X.K C f) (F : FnOk X.prog X.w X.K X.mg X.base CX k f fd ps sp) (hr : Room (k + 1) X.A) (hb : Binds X.K fd ps ds) (hd : Vals dvs ds)
    (hx : Passes CX X E) (I : Inv X pins σ H s) (r : Vals vs us)
    (h : ∀ x dx, H x = none → H dx = none → dx ≠ x → sp (.ref x :: (vs ++ dvs)) (upd (upd H dx (.own x)) x (.ins C dx [])) (fun v H2 => v = .non ∧ Q (.ref x) H2) E) :
    wpAny (model X.prog X.w) X.A (call (.ref C) us) (EP X pins σ Q) X.xe s := by
  have hq := h (s.heap.objs.size + 1) s.heap.objs.size (I.hok.fresh (Nat.le_succ _)) (I.hok.fresh (Nat.le_refl _)) (Nat.ne_of_lt (Nat.lt_succ_self _))
  have I2 := Inv.made (C := C) I
  have r2 : Vals (V.ref (s.heap.objs.size + 1) :: (vs ++ dvs)) (Value.ref (s.heap.objs.size + 1) :: (us ++ ds)) := .cons rfl (r.append hd)
  have hl : (Value.ref (s.heap.objs.size + 1) :: us ++ ds).length = ps.length := by
    have e := r2.length
    rw [F.len _ _ _ _ hq] at e
    exact e.symm
  refine wpAny_call (make_map (f := f) I.kIn M.makes M.init (beq_iff_eq.mp M.fn) (codeAny_mono (F.run _ X.stack _ _ ⟨Value.ref (s.heap.objs.size + 1) :: us, []⟩ (Value.ref (s.heap.objs.size + 1) :: (us ++ ds)) _ _ E (hr.make C us [])
    (I2.env0.make C us []) (hb _ (Value.ref (s.heap.objs.size + 1) :: us) I2.kIn hl) r2 hq) fun r s' hq' => ?_))
  cases r with
  | error e => exact hx pins σ _ _ e s' I2 hq'
  | ok fl =>
    cases fl with
    | ret u =>
      obtain ⟨v, H', I3, rv, ev, q3⟩ := I2.after hq'
      subst ev
      exact ⟨rv, ⟨V.ref (s.heap.objs.size + 1), H', I3, rfl, q3⟩⟩
    | next => exact False.elim hq'
    | brk => exact False.elim hq'
    | cont => exact False.elim hq'
theorem pe_make (M : Mk X.K C f) (F : FnOk X.prog X.w X.K X.mg X.base CX k f fd ps sp) (hr : Room (k + 1) X.A) (hg : Gl X x) (hm : X.mg x = some (.ref C)) (hb : Binds X.K fd ps ds) (hd : Vals dvs ds) (hx : Passes CX X E)
    (ha : PA X (e :: es) t) (hdb : (x == ("__debug__" : Str)) = false := by decide) (he : starEach (e :: es) X.env = (false, eval e X.env) :: starEach es X.env := by rfl) (hpl : (backTo pos (starEach es X.env)).any (·.1) = false := by rfl) :
    PE X (.Call (.Name x p) (e :: es) [] pos) (tMake C sp dvs E t) := by
  intro pins s σ H Q I h
  refine wpAny_Call_Name_kw (ld_glob I hg hm ?_ hdb)
  refine PySem.W.callWith_K (h₀ := X.base) I.ok.mod.kin M.kp (thn (ha pos pins s σ H _ I h) fun us s1 ⟨vs, H1, I1, r, q⟩ => ⟨I1.kIn, ?_⟩) he hpl
  exact run_make M F hr hb hd hx I1 r q
end

/-! ### keywords -/
section
variable {X : Cx} {CX : CXT} {k : Nat} {f C : Addr} {fd : FuncData} {ps ks : List Str} {sp : Sp} {E : XK} {x m : Str} {p pos apos kpos : Pos} {e o : Expr} {es : List Expr} {kws : List Keyword} {te ta : TE} {t tk : TA} {nm : Option Str}
variable {g : List Value → List Value → List Value} {gV : List V → List V → List V}
end

/-! ### a def's body keeps its promise -/
/-- names: the parameters first -/
structure FnScope (N P : List Str) (sc : Scope) : Prop where
  kind : sc.kind = .function
  co : sc.isCoroutine = false
  gen : sc.isGenerator = false
  nd : N.Nodup
  pre : N.take P.length = P
  par : ∀ x ∈ P, sc.names.lookup x = some .local ∨ sc.names.lookup x = some .cell
  nofree : ∀ y ∈ sc.names, y.2 ≠ .free

theorem bindL_out {kindOf : Str → Option NameKind} {x : Str} : ∀ {binds : List (Str × Value)} {m : Str → Option Value}, (∀ v, (x, v) ∉ binds) → bindL kindOf binds m x = m x
  | [], _, _ => rfl
  | (n, v) :: r, m, h => by
    unfold bindL
    rw [bindL_out fun w hw => h w (List.mem_cons_of_mem _ hw)]
    split
    · have : x ≠ n := by rintro rfl; exact h v List.mem_cons_self
      simp [this]
    · rfl
theorem bindC_out {kindOf : Str → Option NameKind} {x : Str} : ∀ {binds : List (Str × Value)} {m : Str → Option Value}, (∀ v, (x, v) ∉ binds) → bindC kindOf binds m x = m x
  | [], _, _ => rfl
  | (n, v) :: r, m, h => by
    unfold bindC
    rw [bindC_out fun w hw => h w (List.mem_cons_of_mem _ hw)]
    split
    · rfl
    · have : x ≠ n := by rintro rfl; exact h v List.mem_cons_self
      simp [this]
theorem bindL_get {kindOf : Str → Option NameKind} {x : Str} {v : Value} : ∀ {P : List Str} {vs : List Value} {i : Nat} {m : Str → Option Value}, P.Nodup → P[i]? = some x → vs[i]? = some v → kindOf x = some .local →
    bindL kindOf (P.zip vs) m x = some v
  | [], _, _, _, _, h, _, _ => by simp at h
  | _ :: _, [], _, _, _, _, h, _ => by simp at h
  | p :: P, w :: vs, 0, m, nd, h1, h2, hk => by
    simp at h1 h2; subst h1; subst h2
    show bindL kindOf ((p, w) :: P.zip vs) m p = _
    unfold bindL
    rw [bindL_out fun v hv => (List.nodup_cons.mp nd).1 (List.of_mem_zip hv).1, if_pos hk]
    simp
  | p :: P, w :: vs, i + 1, m, nd, h1, h2, hk => by
    show bindL kindOf ((p, w) :: P.zip vs) m x = _
    unfold bindL
    exact bindL_get (i := i) (List.nodup_cons.mp nd).2 (by simpa using h1) (by simpa using h2) hk
theorem bindC_get {kindOf : Str → Option NameKind} {x : Str} {v : Value} : ∀ {P : List Str} {vs : List Value} {i : Nat} {m : Str → Option Value}, P.Nodup → P[i]? = some x → vs[i]? = some v → kindOf x ≠ some .local →
    bindC kindOf (P.zip vs) m x = some v
  | [], _, _, _, _, h, _, _ => by simp at h
  | _ :: _, [], _, _, _, _, h, _ => by simp at h
  | p :: P, w :: vs, 0, m, nd, h1, h2, hk => by
    simp at h1 h2; subst h1; subst h2
    show bindC kindOf ((p, w) :: P.zip vs) m p = _
    unfold bindC
    rw [bindC_out fun v hv => (List.nodup_cons.mp nd).1 (List.of_mem_zip hv).1, if_neg hk]
    simp
  | p :: P, w :: vs, i + 1, m, nd, h1, h2, hk => by
    show bindC kindOf ((p, w) :: P.zip vs) m x = _
    unfold bindC
    exact bindC_get (i := i) (List.nodup_cons.mp nd).2 (by simpa using h1) (by simpa using h2) hk

/-- the names' values at the entry -/
def start (N : List Str) (vs : List V) : St := vs.map some ++ List.replicate (N.length - vs.length) none

/-- the context of a def's body, at its entry; an exception leaves the frame, then lies as CX says -/
def cxOf (CX : CXT) (P : Program) (w : World) (K : PySem.W.Frag) (mg : Str → Option Value) (base : Heap) (N : List Str) (qual : Str) (scope : Scope) (f : Addr) (cd : Value) (A : Around) (outer : List Env) (s : Shared) (H : Hp) (E : XK) : Cx where
  prog := P
  w := w
  K := K
  mg := mg
  base := base
  A := A.deeper (envOfC qual scope s.heap.objs.size f cd)
  N := N
  s_0 := s
  H_0 := H
  env := envOfC qual scope s.heap.objs.size f cd
  outer := outer
  stack := envOfC qual scope s.heap.objs.size f cd :: outer
  ex := []
  calm := true
  fn := fun _ => true
  pn := []
  xe := fun e s' => wpAny (model P w) (A.deeper (envOfC qual scope s.heap.objs.size f cd)) (leaving (envOfC qual scope s.heap.objs.size f cd) e) (fun _ s'' => CX outer H s E e s'') (fun e' s'' => CX outer H s E e' s'') s'

theorem cell_has {sc : Scope} {n : Nat} {x : Str} (h : sc.names.lookup x = some .cell) : ∃ c, (cellsFrom n sc.names []).lookup x = some c := by
  have q := PySem.W.cellsFrom_some sc.names n [] (.inl h)
  exact Option.isSome_iff_exists.mp q

theorem inv_start {CX : CXT} {P : Program} {w : World} {K : PySem.W.Frag} {mg : Str → Option Value} {base : Heap} {N ps : List Str} {qual : Str} {scope : Scope} {f : Addr} {cd : Value} {A : Around} {outer : List Env} {s s1 : Shared} {H : Hp} {E : XK} {us : List Value} {vs : List V}
    (S : FnScope N ps scope) (hd : A.handled = none) (e0 : Env0 P w K mg base A outer s H) (hl : vs.length = ps.length) (r : Vals vs us)
    (x : InCallC s s.heap.objs.size (bindL (envOfC qual scope s.heap.objs.size f cd).kindOf (ps.zip us) fun _ => none) (cellsFrom (s.heap.objs.size + 1) scope.names []) (bindC (envOfC qual scope s.heap.objs.size f cd).kindOf (ps.zip us) fun _ => none) s1) :
    Inv (cxOf CX P w K mg base N qual scope f cd A outer s H E) [] (start N vs) H s1 := by
  have hpl : ps.length ≤ N.length := by have := congrArg List.length S.pre; rw [List.length_take] at this; omega
  obtain ⟨h1, tk, rfl, hk⟩ := x.done
  have noA : ∀ b : Addr, b ∉ (cxOf CX P w K mg base N qual scope f cd A outer s H E).ex := fun b z => absurd (show b ∈ ([] : List Addr) from z) (by simp)
  refine ⟨⟨e0.mod, S.kind, rfl, rfl, Nat.le_refl _, fun y z c h1 h2 => ?_, fun y hy => ?_, fun y c _ h => ?_, fun _ => hd, Around.frames_deeper e0.frames, .inr ⟨rfl, rfl⟩, fun b z => absurd z (noA b), e0.bs, e0.bsz, fun b _ _ => noA b, fun b z => absurd z (noA b), e0.funs, e0.frf⟩,
    rfl, e0.bare, Un.kept hk, ⟨_, x.toInCall.ns, fun i y v h1 h2 h3 => ?_⟩, fun y c h => ⟨_, x.cell y c h⟩, e0.hok.fresh (Nat.le_refl _), fun y c h => ?_, fun p hp => absurd (show p ∈ ([] : List (Addr × Obj)) from hp) (by simp), e0.hok.kept hk, ?_⟩
  · exact name_of_addr x.apart (PySem.mem_of_lookup h1) (PySem.mem_of_lookup h2)
  · have hy : scope.names.lookup y = some .cell ∨ scope.names.lookup y = some .free := hy
    rcases hy with hy | hy
    · exact cell_has hy
    · exact absurd rfl (S.nofree _ (PySem.mem_of_lookup hy))
  · exact Nat.le_of_lt (x.above y c (PySem.mem_of_lookup h))
  · have hi : i < vs.length := by
      unfold start at h2
      by_cases hi : i < vs.length
      · exact hi
      · rw [List.getElem?_append_right (by simpa using hi)] at h2
        rw [List.getElem?_replicate] at h2
        split at h2 <;> cases h2
    have ha : vs[i]? = some v := by
      unfold start at h2
      rw [List.getElem?_append_left (by simpa using hi), List.getElem?_map] at h2
      cases e : vs[i]? with
      | none => rw [e] at h2; cases h2
      | some a => rw [e] at h2; cases h2; rfl
    obtain ⟨u, hu, rv⟩ := r.get ha
    have hp : ps[i]? = some y := by
      rw [← S.pre, List.getElem?_take_of_lt (by omega)]; exact h1
    have ndP : ps.Nodup := by rw [← S.pre]; exact S.nd.sublist (List.take_sublist _ _)
    refine ⟨u, rv, ?_⟩
    rcases S.par y (List.mem_of_getElem? hp) with k | k
    · exact .inl ⟨k, bindL_get ndP hp hu k⟩
    · obtain ⟨c, e⟩ := cell_has (n := s.heap.objs.size + 1) k
      refine .inr ⟨.inl k, c, e, ?_⟩
      have q := x.cell y c e
      rw [bindC_get ndP hp hu (by show scope.names.lookup y ≠ _; rw [k]; decide)] at q
      exact q
  · exact e0.hok.fresh (Nat.le_of_lt (x.above y c (PySem.mem_of_lookup h)))
  · unfold start
    show _ = N.length
    rw [List.length_append, List.length_map, List.length_replicate]
    omega

/-- THE RULE: a def (or a method) of the text, by its body. The body's reading t is chosen for each entry; it is run at the parameters' values -/
theorem fn_of {CX : CXT} {P : Program} {w : World} {K : PySem.W.Frag} {mg : Str → Option Value} {base : Heap} {k : Nat} {f : Addr} {name qual : Str} {params : Arguments} {body : List Stmt} {scope : Scope} {dV kV doc pm cdv ct oc : Value} {an od : Option Addr}
    {osl : Array (Option Value)} {N ps : List Str} {sp : Sp} (lk : K.lookup f = some ⟨oc, od, .func (PySem.W.fnOf name qual params body scope dV kV doc pm an cdv ct), osl⟩) (hcd : PySem.W.codeIn K cdv qual = true) (S : FnScope N ps scope)
    (len : ∀ vs H Q E, sp vs H Q E → vs.length = ps.length)
    (hbody : ∀ (A : Around) (outer : List Env) (s : Shared) (H : Hp) (vs : List V) (Q : VK) (E : XK), Room k (A.deeper (envOfC qual scope s.heap.objs.size f cdv)) → sp vs H Q E →
      ∃ t, PSs (cxOf CX P w K mg base N qual scope f cdv A outer s H E) body t ∧ t { nx := fun _ H' => Q .non H', rt := Q } (start N vs) H) :
    FnOk P w K mg base CX (k + 1) f (PySem.W.fnOf name qual params body scope dV kV doc pm an cdv ct) ps sp := by
  refine ⟨len, fun A outer s H args us vs Q E hr e0 hb r hsp => ?_⟩
  have hl := len _ _ _ _ hsp
  have KX : K.In s.heap := e0.mod.kin.keeps fun b o e => (e0.bs b o e).1
  have lim : s.heap.NoLimit := e0.mod.nolimit.keeps fun b o e => (e0.bs b o e).1
  have hkind : ∀ y ∈ ps.zip us, scope.names.lookup y.1 = some .local ∨ (scope.names.lookup y.1 = some .cell ∧ ((cellsFrom (s.heap.objs.size + 1) scope.names []).lookup y.1).isSome = true) := fun ⟨n, v⟩ hy => by
    rcases S.par n (List.of_mem_zip hy).1 with q | q
    · exact .inl q
    · exact .inr ⟨q, PySem.W.cellsFrom_some _ _ _ (.inl q)⟩
  refine codeAny_call_function hr.depth (KX _ _ lk) rfl S.co S.gen rfl (PySem.W.codeRec_of KX hcd) (hb _ _ _ _ ?_)
  refine wpAny_newFunctionEnv_cells S.kind hkind fun env he s1 x => ?_
  subst he
  refine ⟨lim.keeps x.toInCall.keep, codeAny_func ?_⟩
  obtain ⟨t, ht, hq⟩ := hbody A outer s H vs Q E (hr.deeper _) hsp
  have I : Inv (cxOf CX P w K mg base N qual scope f cdv A outer s H E) [] (start N vs) H s1 := inv_start S hr.hd e0 hl r x
  refine wpAny_mono (ht [] s1 (start N vs) H _ I hq) (fun fl s' hs => ?_) fun e s' hs => hs
  have fin : ∀ {σ' : St} {H' : Hp} {v : V} {u : Value}, Inv (cxOf CX P w K mg base N qual scope f cdv A outer s H E) [] σ' H' s' → RelV v u → Q v H' → CE outer P w H s Q u s' :=
    fun {σ' H' v u} J rv q => ⟨v, H', J.os, J.bare, J.base, J.hok, rv, q⟩
  cases fl with
  | ret u =>
    obtain ⟨v, σ', H', J, rv, q⟩ := hs
    exact fin J rv q
  | next =>
    obtain ⟨σ', H', J, q⟩ := hs
    exact fin (v := V.non) (u := Value.none) J rfl q
  | brk =>
    obtain ⟨_, _, _, q⟩ := hs
    exact False.elim q
  | cont =>
    obtain ⟨_, _, _, q⟩ := hs
    exact False.elim q
end L2

namespace L2
open PySem PySem.Spec PyProof.Rows
section
variable {X : Cx} {x : Str} {p pos : Pos} {e : Expr} {es : List Expr} {t : TA} {id T : String} {r : List V → Hp → VK → Prop}

def tCB (r : List V → Hp → VK → Prop) (t : TA) : TE := fun σ H Q => t σ H fun vs H1 => r vs H1 Q
/-- f(e, ..), f a built-in function -/
theorem pe_callB (hc : CallR X (.builtin id) r) (hg : Gl X x) (hm : X.mg x = none) (hv : bootBuiltins x = some (.builtin id)) (ha : PA X (e :: es) t) (hn : x ≠ "__name__" := by decide) (hdb : (x == ("__debug__" : Str)) = false := by decide)
    (he : starEach (e :: es) X.env = (false, eval e X.env) :: starEach es X.env := by rfl) (hpl : (backTo pos (starEach es X.env)).any (·.1) = false := by rfl) : PE X (.Call (.Name x p) (e :: es) [] pos) (tCB r t) := by
  intro pins s σ H Q I h
  refine wpAny_Call_Name_kw (ld_blt I hg hm hv ?_ hn hdb)
  exact PyProof.Rows.callWith_builtin1 (thn (ha pos pins s σ H _ I h) fun us s1 ⟨vs, H1, I1, r1, q1⟩ => hc pins s1 σ H1 vs us Q I1 r1 q1) he hpl
/-- T(e, ..), T a built-in type -/
theorem pe_callTy (hc : CallR X (.type T) r) (hg : Gl X x) (hm : X.mg x = none) (hv : bootBuiltins x = some (.type T)) (ha : PA X (e :: es) t) (hn : x ≠ "__name__" := by decide) (hdb : (x == ("__debug__" : Str)) = false := by decide)
    (he : starEach (e :: es) X.env = (false, eval e X.env) :: starEach es X.env := by rfl) (hpl : (backTo pos (starEach es X.env)).any (·.1) = false := by rfl) : PE X (.Call (.Name x p) (e :: es) [] pos) (tCB r t) := by
  intro pins s σ H Q I h
  refine wpAny_Call_Name_kw (ld_blt I hg hm hv ?_ hn hdb)
  exact PyProof.Rows.callWith_type1 (thn (ha pos pins s σ H _ I h) fun us s1 ⟨vs, H1, I1, r1, q1⟩ => hc pins s1 σ H1 vs us Q I1 r1 q1) he hpl
end
end L2

namespace HT
open PySem PyProof.Rows

section
open PySem.SeqAt
open PySem.AutoSeq1 (wpAny_loadPart')
open PySem.MeetsSeq PySem.MeetsSeq2 PySem.MeetsSeq3

end

section
variable {prog : Program} {w : World} {A : Around} {E : Value → Shared → Prop} {s : Shared}

/-! ### t[a:b], not the whole -/
/-- a slice's bound as a place among n (d where it is left out) -/
def sIx (n d : Nat) : Option Int → Nat
  | none => d
  | some v => if v < 0 then (v + (n : Int)).toNat else min v.toNat n
end
end HT

namespace L2
open PySem PySem.Spec PyProof.Rows

/-! ### the parts of a slice -/
abbrev TO := St → Hp → (Option Int → Hp → Prop) → Prop
/-- a slice's part (left out, or an int) -/
def PO (X : Cx) (e : Option Expr) (t : TO) : Prop :=
  ∀ (pins : List (Addr × Obj)) (s : Shared) (σ : St) (H : Hp) (Q : Option Int → Hp → Prop), Inv X pins σ H s → t σ H Q →
    wpAny (model X.prog X.w) X.A (evalPart e X.env) (fun u s' => ∃ o H', Inv X pins σ H' s' ∧ IsPart u o ∧ Q o H') X.xe s
def tNoPart : TO := fun _ H Q => Q none H
def tPart (t : TE) : TO := fun σ H Q => t σ H fun x H1 => ∃ i, x = .int i ∧ Q (some i) H1

section
variable {X : Cx} {e : Expr} {te : TE} {lo hi : Option Expr} {tl th : TO} {pos p2 : Pos}

theorem po_none : PO X none tNoPart := by
  intro pins s σ H Q I h
  rw [evalPart_none]
  exact wpAny_pure ⟨none, H, I, .none, h⟩
theorem po_some (h : PE X e te) : PO X (some e) (tPart te) := by
  intro pins s σ H Q I hw
  rw [evalPart_some]
  refine thn (h pins s σ H _ I hw) fun u s1 ⟨x, H1, I1, r1, q1⟩ => ?_
  obtain ⟨i, rfl, q⟩ := q1
  obtain ⟨t, rfl⟩ := r1
  exact ⟨some i, H1, I1, .int i t, q⟩

/-- what a slice of a value is, by values: the slice object stands at sl -/
def SlR (X : Cx) (r : V → Option Int → Option Int → Hp → VK → Prop) : Prop :=
  ∀ (pins : List (Addr × Obj)) (s : Shared) (σ : St) (H : Hp) (x : V) (v vl vu : Value) (lo hi : Option Int) (sl : Addr) (Q : VK), Inv X pins σ H s → RelV x v → s.heap.IsSliceOf sl vl vu .none → IsPart vl lo → IsPart vu hi → r x lo hi H Q →
    ∃ T id, typeLookup (.type T) "__getitem__" = pure (some (.builtin id)) ∧ s.TypeIs v T ∧ wpAny (model X.prog X.w) X.A (getItem v (.ref sl)) (EP X pins σ Q) X.xe s
theorem SlR.or {r r' : V → Option Int → Option Int → Hp → VK → Prop} (h : SlR X r) (h' : SlR X r') : SlR X (fun x lo hi H Q => r x lo hi H Q ∨ r' x lo hi H Q) := by
  intro pins s σ H x v vl vu lo hi sl Q I rx hs pl pu q
  rcases q with q | q
  · exact h pins s σ H x v vl vu lo hi sl Q I rx hs pl pu q
  · exact h' pins s σ H x v vl vu lo hi sl Q I rx hs pl pu q
def tSl (r : V → Option Int → Option Int → Hp → VK → Prop) (te : TE) (tl th : TO) : TE := fun σ H Q => te σ H fun x H1 => tl σ H1 fun l H2 => th σ H2 fun u H3 => r x l u H3 Q
/-- a[lo:hi], any a -/
theorem pe_slice {r : V → Option Int → Option Int → Hp → VK → Prop} (hr : SlR X r) (he : PE X e te) (hl : PO X lo tl) (hu : PO X hi th) : PE X (.Subscript e (.Slice lo hi none p2) pos) (tSl r te tl th) := by
  intro pins s σ H Q I h
  refine Subscript_ (thn (he pins s σ H _ I h) fun v s1 ⟨x, H1, I1, r1, q1⟩ => ?_)
  refine wpAny_Slice (thn (hl pins s1 σ H1 _ I1 q1) fun vl s2 ⟨l, H2, I2, pl, q2⟩ => thn (hu pins s2 σ H2 _ I2 q2) fun vu s3 ⟨u, H3, I3, pu, q3⟩ => ?_)
  rw [evalPart_none]
  refine wpAny_pure ?_
  have I4 : Inv X pins σ H3 { s3 with heap := s3.heap.push { cls := .type "slice", data := .fields #[vl, vu, .none] } } := I3.kept (t' := s3.toks) fun b ob q => Heap.get?_push_of_some _ q
  obtain ⟨T, id, hT, ht, hg⟩ := hr pins { s3 with heap := s3.heap.push { cls := .type "slice", data := .fields #[vl, vu, .none] } } σ H3 x v vl vu l u s3.heap.objs.size Q I4 r1 (Heap.IsSliceOf.new ..) pl pu q3
  show wpAny (model X.prog X.w) X.A (subscriptTail e (.Slice lo hi none p2) v (.ref s3.heap.objs.size)) (EP X pins σ Q) X.xe { s3 with heap := s3.heap.push { cls := .type "slice", data := .fields #[vl, vu, .none] } }
  exact tail_any (ops := [.ref s3.heap.objs.size, v]) ht hT hg (by with_unfolding_all rfl)

/-- the items of xs[lo:hi] -/
def cutV (xs : List V) (lo hi : Option Int) : List V := (xs.drop (HT.sIx xs.length 0 lo)).take (HT.sIx xs.length xs.length hi - HT.sIx xs.length 0 lo)
theorem cutV_length (xs : List V) (lo hi : Option Int) : (cutV xs lo hi).length ≤ xs.length := by
  unfold cutV
  rw [List.length_take, List.length_drop]
  omega
/-! ### t < u, t + u -/
end
end L2

namespace L2
open PySem PySem.Spec PyProof.Rows

/-! ### places -/
/-- the place that an index of any sign means -/
def ixN (n : Nat) (i : Int) : Option Nat := if 0 ≤ i then (if i < n then some i.toNat else none) else if -(n : Int) ≤ i then some (i + n).toNat else none
def atI {α : Type} (xs : List α) (i : Int) : Option α := (ixN xs.length i).bind fun j => xs[j]?
theorem ixN_seq {n : Nat} {i : Int} {j : Nat} (h : ixN n i = some j) : seqIndex? i n = some j ∧ j < n ∧ -(n : Int) ≤ i ∧ i < n := by
  unfold ixN at h
  by_cases h0 : 0 ≤ i
  · rw [if_pos h0] at h
    by_cases h1 : i < n
    · rw [if_pos h1] at h
      have e : i.toNat = j := Option.some.inj h
      exact ⟨by rw [seqIndex_of h0 h1, e], by omega, by omega, h1⟩
    · rw [if_neg h1] at h; cases h
  · rw [if_neg h0] at h
    by_cases h1 : -(n : Int) ≤ i
    · rw [if_pos h1] at h
      have e : (i + n).toNat = j := Option.some.inj h
      exact ⟨by rw [seqIndex_neg (by omega) h1, e], by omega, h1, by omega⟩
    · rw [if_neg h1] at h; cases h
theorem atI_get {α : Type} {xs : List α} {i : Int} {v : α} (h : atI xs i = some v) : ∃ j, seqIndex? i xs.length = some j ∧ xs[j]? = some v ∧ j < xs.length ∧ -(xs.length : Int) ≤ i ∧ i < xs.length := by
  unfold atI at h
  cases e : ixN xs.length i with
  | none => rw [e] at h; cases h
  | some j =>
    rw [e] at h
    obtain ⟨h1, h2, h3, h4⟩ := ixN_seq e
    exact ⟨j, h1, h, h2, h3, h4⟩
theorem atI_nat {α : Type} {xs : List α} {j : Nat} {v : α} (h : xs[j]? = some v) : atI xs (j : Int) = some v := by
  have hj : j < xs.length := (List.getElem?_eq_some_iff.mp h).1
  have e : ixN xs.length (j : Int) = some j := by
    unfold ixN
    rw [if_pos (by omega), if_pos (by omega)]; simp
  unfold atI; rw [e]; exact h
theorem atI_last {α : Type} (xs : List α) (v : α) : atI (xs ++ [v]) (-1) = some v := by
  have hl : (xs ++ [v]).length = xs.length + 1 := by simp
  have e : ixN (xs ++ [v]).length (-1) = some xs.length := by
    unfold ixN
    rw [hl, if_neg (by decide), if_pos (by omega)]
    congr 1
    omega
  unfold atI
  rw [e]
  show (xs ++ [v])[xs.length]? = some v
  simp

/-! ### what may be subscripted -/
/-- what stands as an index of a plain subscript -/
def PlainIx (b : Expr) : Prop := ∀ o i, subscripted b false o i = operate [o, i] (getItem o i)
/-- a subscript by values -/
def IxR (X : Cx) (r : R2) : Prop :=
  ∀ (value slice : Expr) (pins : List (Addr × Obj)) (s : Shared) (σ : St) (H : Hp) (x y : V) (v u : Value) (Q : VK), Inv X pins σ H s → RelV x v → RelV y u → r x y H Q →
    subscripted slice false v u = operate [v, u] (getItem v u) → wpAny (model X.prog X.w) X.A (subscriptTail value slice v u) (EP X pins σ Q) X.xe s
/-- a call of a builtin's method by values: the receiver, the arguments -/
def MtR (X : Cx) (id : String) (r : V → List V → Hp → VK → Prop) : Prop :=
  ∀ (pins : List (Addr × Obj)) (s : Shared) (σ : St) (H : Hp) (x : V) (xs : List V) (v : Value) (us : List Value) (Q : VK), Inv X pins σ H s → RelV x v → Vals xs us → r x xs H Q →
    wpAny (model X.prog X.w) X.A (call (.builtin id) (v :: us)) (EP X pins σ Q) X.xe s
section
variable {X : Cx} {a b : Expr} {ta tb : TE} {pos : Pos}
theorem IxR.or {r r' : R2} (h : IxR X r) (h' : IxR X r') : IxR X (fun x y H Q => r x y H Q ∨ r' x y H Q) := by
  intro value slice pins s σ H x y v u Q I rx ry q hs
  rcases q with q | q
  · exact h value slice pins s σ H x y v u Q I rx ry q hs
  · exact h' value slice pins s σ H x y v u Q I rx ry q hs
theorem MtR.or {id : String} {r r' : V → List V → Hp → VK → Prop} (h : MtR X id r) (h' : MtR X id r') : MtR X id (fun x xs H Q => r x xs H Q ∨ r' x xs H Q) := by
  intro pins s σ H x xs v us Q I rx rs q
  rcases q with q | q
  · exact h pins s σ H x xs v us Q I rx rs q
  · exact h' pins s σ H x xs v us Q I rx rs q
/-- a[b] -/
theorem pe_ix {r : R2} (hr : IxR X r) (ha : PE X a ta) (hb : PE X b tb) (hs : PlainIx b) : PE X (.Subscript a b pos) (tOp r ta tb) := by
  intro pins s σ H Q I h
  exact Subscript_ (binT ha hb I h fun v u s2 x y H2 I2 rx ry q => hr a b pins s2 σ H2 x y v u Q I2 rx ry q (hs _ _))

def rIxL (K : PySem.W.Frag) : R2 := fun x y H Q => ∃ p xs i v, x = .ref p ∧ y = .int i ∧ SqL K H p xs ∧ atI xs i = some v ∧ Q v H
theorem ix_list : IxR X (rIxL X.K) := by
  intro value slice pins s σ H x y v u Q I rx ry h hs
  obtain ⟨p, xs, i, z, rfl, rfl, hq, he, q⟩ := h
  cases rx
  obtain ⟨t, rfl⟩ := ry
  obtain ⟨its, r, pl, hz⟩ := I.list hq
  obtain ⟨j, h1, h2, h3, h4, h5⟩ := atI_get he
  obtain ⟨w, ew, rw'⟩ := r.get h2
  have hl := r.length
  have hn := line63
  have fin : EP X pins σ Q w s := ⟨z, H, I, rw', q⟩
  by_cases h0 : 0 ≤ i
  · have hj : i.toNat = j := by
      rw [seqIndex_of h0 h5] at h1
      exact Option.some.inj h1
    exact item_listR pl.isList h0 (by omega) (by rw [hj]; simpa using ew) fin hs
  · have hj : (i + (its.toArray.size : Int)).toNat = j := by
      rw [seqIndex_neg (by omega) h4] at h1
      rw [List.size_toArray, ← hl]
      exact Option.some.inj h1
    exact subscriptTail_builtinR (x := w) pl.isList.typeIs slot_list_getitem.lookup
      (wpAny_getItem_list_neg (Q := fun r s' => r = w ∧ EP X pins σ Q r s') pl.isList (by omega) (by rw [List.size_toArray] <;> omega) (by omega) (by rw [hj]; simpa using ew) ⟨rfl, fin⟩) hs
/-! ### xs[i] = v, any sign -/
theorem Inv.lst {pins : List (Addr × Obj)} {σ : St} {H : Hp} {s : Shared} {p : Addr} {xs : List V} (I : Inv X pins σ H s) (h : H p = some (.lst xs)) :
    ∃ (its : List Value) (n : Nat), Vals xs its ∧ s.heap.get? p = some { cls := .type "list", data := .seq its.toArray n } ∧ xs.length ≤ sizeLine := by
  obtain ⟨z, its, n, r, e⟩ := I.hok p _ h
  exact ⟨its, n, r, e, z⟩
/-! ### slices -/
theorem slice_bounds (lo hi : Option Int) (n : Nat) : (sliceBounds lo hi none n).1 = ((HT.sIx n 0 lo : Nat) : Int) ∧ (sliceBounds lo hi none n).2.1 = ((HT.sIx n n hi : Nat) : Int) ∧ (sliceBounds lo hi none n).2.2 = 1 := by
  refine ⟨?_, ?_, rfl⟩
  · cases lo with
    | none => simp [sliceBounds, HT.sIx]
    | some i =>
      simp only [sliceBounds, HT.sIx, Option.getD_none, show (1 : Int) > 0 by decide, if_true]
      by_cases h : i < 0
      · simp only [h, if_true] <;> omega
      · simp only [h, if_false] <;> omega
  · cases hi with
    | none => simp [sliceBounds, HT.sIx]
    | some i =>
      simp only [sliceBounds, HT.sIx, Option.getD_none, show (1 : Int) > 0 by decide, if_true]
      by_cases h : i < 0
      · simp only [h, if_true] <;> omega
      · simp only [h, if_false] <;> omega
theorem slicePick_cut (its : List Value) (lo hi : Option Int) : slicePick its.toArray lo hi none = ((its.drop (HT.sIx its.length 0 lo)).take (HT.sIx its.length its.length hi - HT.sIx its.length 0 lo)).toArray := by
  obtain ⟨h1, h2, h3⟩ := slice_bounds lo hi its.toArray.size
  unfold slicePick
  rw [h1, h2, h3]
  simp only [sliceRange_one, pick_run, List.size_toArray] <;> rfl
/-- xs[lo:hi] of a list: a new list -/
def rSlL (K : PySem.W.Frag) : V → Option Int → Option Int → Hp → VK → Prop := fun x lo hi H Q => ∃ a xs, x = .ref a ∧ SqL K H a xs ∧ ∀ p, H p = none → Q (.ref p) (upd H p (.lst (cutV xs lo hi)))
theorem sl_list : SlR X (rSlL X.K) := by
  intro pins s σ H x v vl vu lo hi sl Q I rx hs pl pu h
  obtain ⟨a, xs, rfl, hx, q⟩ := h
  cases rx
  obtain ⟨its, r, ht, hz⟩ := I.list hx
  have hlen := r.length
  refine ⟨"list", _, slot_list_getitem.lookup, ht.isList.typeIs, ?_⟩
  refine wpAny_getItem_list_slice ht.isList hs pl pu .none (by simp) ?_ (by rw [List.size_toArray] <;> omega)
  rw [slicePick_cut, ← hlen]
  refine ⟨.ref s.heap.objs.size, _, I.laid (t' := s.toks) (o := .lst (cutV xs lo hi)) (fun b ob q => Heap.get?_push_of_some _ q) (Nat.le_refl _) ?_, rfl, q _ (I.hok.fresh (Nat.le_refl _))⟩
  exact ⟨Nat.le_trans (cutV_length xs lo hi) hz, _, 0, (r.drop (HT.sIx xs.length 0 lo)).take (HT.sIx xs.length xs.length hi - HT.sIx xs.length 0 lo), Heap.get?_push_size _ rfl⟩

/-! ### in, not in: flat items -/
def flatV : V → Bool
  | .non => true
  | .bl _ => true
  | .int _ => true
  | .str _ => true
  | _ => false
/-- == of flat values -/
def eqV : V → V → Bool
  | .non, .non => true
  | .bl a, .bl b => a == b
  | .bl a, .int b => (if a then 1 else 0) == b
  | .int a, .bl b => a == (if b then 1 else 0)
  | .int a, .int b => a == b
  | .str a, .str b => a == b
  | _, _ => false
theorem eqAt_V {A : Around} {s : Shared} {y x : V} {u v : Value} (ry : RelV y u) (rx : RelV x v) (fy : flatV y = true) (fx : flatV x = true) : SeqAt.EqAt A s u v (eqV y x) := by
  cases y with
  | non =>
    cases ry
    cases x with
    | non => cases rx; exact SeqAt.EqAt.same _
    | bl b => cases rx; exact SeqAt.EqAt.none_bool b
    | int b => obtain ⟨t, rfl⟩ := rx; exact SeqAt.EqAt.none_int b t
    | str b => obtain ⟨t, rfl⟩ := rx; exact SeqAt.EqAt.none_str b t
    | _ => exact absurd (show false = true from fx) Bool.false_ne_true
  | bl a =>
    cases ry
    cases x with
    | non => cases rx; exact SeqAt.EqAt.bool_none a
    | bl b => cases rx; exact SeqAt.EqAt.bool_bool a b
    | int b => obtain ⟨t, rfl⟩ := rx; exact SeqAt.EqAt.bool_int a b t
    | str b => obtain ⟨t, rfl⟩ := rx; exact SeqAt.EqAt.bool_str a b t
    | _ => exact absurd (show false = true from fx) Bool.false_ne_true
  | int a =>
    obtain ⟨t', rfl⟩ := ry
    cases x with
    | non => cases rx; exact SeqAt.EqAt.int_none a t'
    | bl b => cases rx; exact SeqAt.EqAt.int_bool a t' b
    | int b => obtain ⟨t, rfl⟩ := rx; exact SeqAt.EqAt.int_int a t' b t
    | str b => obtain ⟨t, rfl⟩ := rx; exact SeqAt.EqAt.int_str a t' b t
    | _ => exact absurd (show false = true from fx) Bool.false_ne_true
  | str a =>
    obtain ⟨t', rfl⟩ := ry
    cases x with
    | non => cases rx; exact SeqAt.EqAt.str_none a t'
    | bl b => cases rx; exact SeqAt.EqAt.str_bool a t' b
    | int b => obtain ⟨t, rfl⟩ := rx; exact SeqAt.EqAt.str_int a t' b t
    | str b => obtain ⟨t, rfl⟩ := rx; exact SeqAt.EqAt.str_str a t' b t
    | _ => exact absurd (show false = true from fx) Bool.false_ne_true
  | _ => exact absurd (show false = true from fy) Bool.false_ne_true
/-- the items' answers, read off the values (a value's own answer does not lean on its token) -/
def eqU (x : V) (u : Value) : Bool := match u with
  | .none => eqV .non x
  | .bool b => eqV (.bl b) x
  | .int i _ => eqV (.int i) x
  | .str z _ => eqV (.str z) x
  | _ => false
theorem eqU_of {x y : V} {u : Value} (r : RelV y u) (f : flatV y = true) : eqU x u = eqV y x := by
  cases y with
  | non => cases r; rfl
  | bl b => cases r; rfl
  | int i => obtain ⟨t, rfl⟩ := r; rfl
  | str z => obtain ⟨t, rfl⟩ := r; rfl
  | _ => exact absurd (show false = true from f) Bool.false_ne_true
theorem any_eqU {x : V} : ∀ {xs : List V} {us : List Value}, Vals xs us → xs.all flatV = true → us.any (eqU x) = xs.any fun y => eqV y x
  | _, _, .nil, _ => rfl
  | y :: xs, u :: us, .cons r t, f => by
    rw [List.all_cons, Bool.and_eq_true] at f
    rw [List.any_cons, List.any_cons, eqU_of r f.1, any_eqU t f.2]
theorem mem_eqAt {A : Around} {s : Shared} {x : V} {v : Value} (rx : RelV x v) (fx : flatV x = true) : ∀ {xs : List V} {us : List Value}, Vals xs us → xs.all flatV = true → ∀ u ∈ us, SeqAt.EqAt A s u v (eqU x u)
  | _, _, .nil, _ => fun u hu => by cases hu
  | y :: xs, u :: us, .cons r t, f => fun u' hu => by
    rw [List.all_cons, Bool.and_eq_true] at f
    rcases List.mem_cons.mp hu with rfl | hu
    · rw [eqU_of r f.1]; exact eqAt_V r rx f.1 fx
    · exact mem_eqAt rx fx t f.2 u' hu
def inV (x : V) (xs : List V) : Bool := xs.any fun y => eqV y x
/-- x in a list or tuple of flat items -/
def rIn (K : PySem.W.Frag) (neg : Bool) : R2 := fun x y H Q => ∃ p xs, y = .ref p ∧ (SqL K H p xs ∨ SqT K H p xs) ∧ flatV x = true ∧ xs.all flatV = true ∧ Q (.bl (if neg then !inV x xs else inV x xs)) H
theorem op_in_seq : OpR X (compareOp .In) (rIn X.K false) := by
  intro pins s σ H x y v u Q I rx ry h
  obtain ⟨p, xs, rfl, hq, fx, fs, q⟩ := h
  cases ry
  rcases hq with hq | hq
  · obtain ⟨its, r, pl, hz⟩ := I.list hq
    refine SeqAt.in_listAt (eqU x) pl.isList (fun w hw => mem_eqAt rx fx r fs w (by simpa using hw)) ⟨.bl _, H, I, rfl, ?_⟩
    rw [show its.toArray.any (eqU x) = its.any (eqU x) by simp, any_eqU r fs]
    exact q
  · obtain ⟨its, r, pl, hz⟩ := I.tuple hq
    refine SeqAt.in_tupleAt (eqU x) pl (fun w hw => mem_eqAt rx fx r fs w (by simpa using hw)) ⟨.bl _, H, I, rfl, ?_⟩
    rw [show its.toArray.any (eqU x) = its.any (eqU x) by simp, any_eqU r fs]
    exact q
/-! ### len, list(x), tuple(x) of any list or tuple that is read -/
theorem CallR.or {f : Value} {r r' : List V → Hp → VK → Prop} (h : CallR X f r) (h' : CallR X f r') : CallR X f (fun xs H Q => r xs H Q ∨ r' xs H Q) := by
  intro pins s σ H xs us Q I rs q
  rcases q with q | q
  · exact h pins s σ H xs us Q I rs q
  · exact h' pins s σ H xs us Q I rs q
theorem call_list_of : CallR X (.type "list") (fun xs H Q => ∃ p ys, xs = [.ref p] ∧ (SqL X.K H p ys ∨ SqT X.K H p ys) ∧ ∀ l, H l = none → Q (.ref l) (upd H l (.lst ys))) := by
  intro pins s σ H xs us Q I r h
  obtain ⟨p, ys, rfl, hq, q⟩ := h
  obtain ⟨u, rfl, rx⟩ := vals1 r
  cases rx
  have fin : ∀ (its : List Value), Vals ys its → ys.length ≤ sizeLine → ∀ (h' : Heap) (c' : Nat), (∀ b o', s.heap.get? b = some o' → h'.get? b = some o') →
      h'.get? s.heap.objs.size = some { cls := .type "list", dict := none, data := .seq its.toArray c', slots := #[] } → EP X pins σ Q (.ref s.heap.objs.size) { s with heap := h' } := fun its r' hz h' c' kp e =>
    ⟨.ref s.heap.objs.size, _, I.laid (t' := s.toks) kp (Nat.le_refl _) (show ObjOk X.prog X.w _ h' _ (.lst ys) from ⟨hz, its, c', r', e⟩), rfl, q _ (I.hok.fresh (Nat.le_refl _))⟩
  rcases hq with hq | hq
  · obtain ⟨its, r', pl, hz⟩ := I.list hq
    have hlen := r'.length
    obtain ⟨o, ho, hc, n, hd⟩ := pl.isList
    exact call_list_seq p (.inl rfl) ho hc hd (fun h' c' kp e => fin its r' hz h' c' kp e) (by simp only [List.size_toArray] <;> omega)
  · obtain ⟨its, r', pl, hz⟩ := I.tuple hq
    have hlen := r'.length
    obtain ⟨o, ho, hc, n, hd⟩ := pl
    exact call_list_seq p (.inr rfl) ho hc hd (fun h' c' kp e => fin its r' hz h' c' kp e) (by simp only [List.size_toArray] <;> omega)
/-! ### the call of a builtin's method: o.m(..) -/
/-- the value is of that builtin type -/
def tyV (K : PySem.W.Frag) (T : String) (x : V) (H : Hp) : Prop := match x with
  | .str _ => T = "str"
  | .int _ => T = "int"
  | .ref p => (T = "list" ∧ ∃ xs, SqL K H p xs) ∨ (T = "tuple" ∧ ∃ o, K.lookup p = some o ∧ o.cls = .type "tuple" ∧ o.dict = none) ∨
      (T = "dict" ∧ ((∃ kvs, H p = some (.dK kvs)) ∨ ∃ kvs, H p = some (.dT kvs))) ∨ (T = "set" ∧ ∃ S n, H p = some (.set S n))
  | _ => False
theorem tyV_is {pins : List (Addr × Obj)} {σ : St} {H : Hp} {s : Shared} {T : String} {x : V} {v : Value} (I : Inv X pins σ H s) (r : RelV x v) (ty : tyV X.K T x H) :
    s.TypeIs v T ∧ ∀ a, v = .ref a → ∃ ob, s.heap.get? a = some ob ∧ ob.dict = none := by
  cases x with
  | str z =>
    obtain ⟨t, rfl⟩ := r
    cases (show T = "str" from ty)
    exact ⟨typeIs_str s z t, fun _ e => nomatch e⟩
  | int i =>
    obtain ⟨t, rfl⟩ := r
    cases (show T = "int" from ty)
    exact ⟨typeIs_int s i t, fun _ e => nomatch e⟩
  | ref p =>
    cases r
    rcases ty with ⟨rfl, xs, hq⟩ | ⟨rfl, o, hk, hc, hd⟩ | ⟨rfl, hk⟩ | ⟨rfl, S, n, hk⟩
    · obtain ⟨its, _, pl, _⟩ := I.list hq
      refine ⟨pl.isList.typeIs, fun a e => ?_⟩
      cases e
      obtain ⟨o, n, e, c, hd, _⟩ := pl
      exact ⟨o, e, hd⟩
    · refine ⟨⟨o, I.kIn p o hk, hc⟩, fun a e => ?_⟩
      cases e
      exact ⟨o, I.kIn _ o hk, hd⟩
    · have z : ∃ o, s.heap.get? p = some o ∧ o.ExactDict := by
        rcases hk with ⟨kvs, hk⟩ | ⟨kvs, hk⟩
        · obtain ⟨_, _, _, _, o, _, _, e, ex, _⟩ := I.hok p _ hk
          exact ⟨o, e, ex⟩
        · obtain ⟨_, _, _, _, o, _, _, e, ex, _⟩ := I.hok p _ hk
          exact ⟨o, e, ex⟩
      obtain ⟨o, e, ex⟩ := z
      refine ⟨⟨o, e, ex.1⟩, fun a e2 => ?_⟩
      cases e2
      exact ⟨o, e, ex.2.1⟩
    · obtain ⟨o, _, _, _, e, ex, _⟩ := I.hok p _ hk
      refine ⟨⟨o, e, ex.1⟩, fun a e2 => ?_⟩
      cases e2
      exact ⟨o, e, ex.2.1⟩
  | _ => exact False.elim ty
def tBM (K : PySem.W.Frag) (T : String) (r : V → List V → Hp → VK → Prop) (to : TE) (t : TA) : TE := fun σ H Q => to σ H fun x H1 => tyV K T x H1 ∧ t σ H1 fun xs H2 => r x xs H2 Q
variable {o e : Expr} {es : List Expr} {to : TE} {t : TA} {name : Str} {apos cpos : Pos} {T id : String} {r : V → List V → Hp → VK → Prop}
theorem pe_bm (pa : PlainAttrs T) (slot : Slot T name id) (hty : typeOf (.builtin id) = pure (.type "method_descriptor")) (hm : MtR X id r) (ho : PE X o to) (ha : PA X (e :: es) t)
    (hbase : attributeBase o name X.env (eval o X.env) = eval o X.env := by rfl)
    (hfew : ((backTo cpos (starEach (e :: es) X.env)).all (fun x => !x.1) && (backToKw cpos (keywordEach [] X.env)).all (fun x => x.1.isSome)
      && decide ((e :: es).length + ([] : List Keyword).length + (if ([] : List Keyword).isEmpty then 0 else 1) < 30)) = true := by rfl)
    (hline : (apos.endLine == cpos.line) = true := by rfl) (hs : starEach (e :: es) X.env = (false, eval e X.env) :: starEach es X.env := by rfl) (hplain : (backTo cpos (starEach es X.env)).any (·.1) = false := by rfl) :
    PE X (.Call (.Attribute o name apos) (e :: es) [] cpos) (tBM X.K T r to t) := by
  intro pins s σ H Q I h
  refine wpAny_Call_method_late hbase hfew hline rfl (thn (ho pins s σ H _ I h) fun v s1 ⟨x, H1, I1, r1, ty, q1⟩ => ?_)
  obtain ⟨h1, h2⟩ := tyV_is I1 r1 ty
  refine ⟨T, id, pa, slot, hty, h1, h2, ?_⟩
  have hA := ha cpos pins s1 σ H1 _ I1 q1
  rw [hs] at hA ⊢
  refine Calls.callWith_builtin (by show (false || (backTo cpos (starEach es X.env)).any (·.1)) = false; rw [hplain] <;> rfl) (Calls.evalArgs_plain ?_)
  exact thn hA fun us s2 ⟨vs, H2, I2, r2, q2⟩ => hm pins s2 σ H2 x vs v us Q I2 r1 r2 q2
/- xs.append(e), list.index on a module's tuple .. are MtR facts of 06m -/
end
end L2

namespace L2
open PySem PySem.Spec PyProof.Rows

def MtM (X : Cx) (id : String) (r : V → List V → Hp → VK → Prop) : Prop :=
  ∀ (pins : List (Addr × Obj)) (s : Shared) (σ : St) (H : Hp) (x : V) (xs : List V) (v : Value) (us : List Value) (Q : VK), Inv X pins σ H s → RelV x v → Vals xs us → r x xs H Q →
    wpAny (model X.prog X.w) X.A (call (.builtin id) (v :: us)) (EP X pins σ Q) X.xe s

/-! ### lists of values -/
theorem Vals.one : ∀ {x : V} {us : List Value}, Vals [x] us → ∃ u, us = [u] ∧ RelV x u
  | _, _, .cons r .nil => ⟨_, rfl, r⟩
theorem Vals.two : ∀ {x y : V} {us : List Value}, Vals [x, y] us → ∃ u v, us = [u, v] ∧ RelV x u ∧ RelV y v
  | _, _, _, .cons r (.cons q .nil) => ⟨_, _, rfl, r, q⟩
theorem Vals.zero : ∀ {us : List Value}, Vals [] us → us = []
  | _, .nil => rfl
theorem Vals.eraseIdx : ∀ {xs : List V} {us : List Value} (i : Nat), Vals xs us → Vals (xs.eraseIdx i) (us.eraseIdx i)
  | _, _, _, .nil => .nil
  | _, _, 0, .cons _ t => t
  | _, _, i + 1, .cons r t => .cons r (Vals.eraseIdx i t)
theorem Vals.reverse {xs : List V} {us : List Value} (h : Vals xs us) : Vals xs.reverse us.reverse := by
  induction h with
  | nil => exact .nil
  | cons r t ih => rw [List.reverse_cons, List.reverse_cons]; exact Vals.append ih (.cons r .nil)
theorem Vals.rep {xs : List V} {us : List Value} (h : Vals xs us) : ∀ k : Nat, Vals (List.replicate k xs).flatten (List.replicate k us).flatten
  | 0 => .nil
  | k + 1 => by
    rw [List.replicate_succ, List.replicate_succ, List.flatten_cons, List.flatten_cons]
    exact Vals.append h (Vals.rep h k)
section
variable {X : Cx} {pins : List (Addr × Obj)} {σ : St} {H : Hp} {s : Shared} {l b : Addr} {xs ys zs : List V}

/-! ### the two steps: a tracked list is rewritten, a new list is laid -/
theorem Inv.lset {its its' : List Value} {n : Nat} {f : Array Value → Array Value} {t' : Nat} (I : Inv X pins σ H s) (hH : H l = some (.lst xs))
    (e : s.heap.get? l = some { cls := .type "list", data := .seq its.toArray n }) (hf : f its.toArray = its'.toArray) (hv : Vals ys its') (hz : ys.length ≤ sizeLine) :
    Inv X pins σ (upd H l (.lst ys)) { s with heap := s.heap.update l (Obj.mapSeq f), toks := t' } := by
  have q := PySem.IsL.update e f
  rw [hf] at q
  refine I.write (x := l) (e := l) (by rw [hH]; exact trivial) (.inl rfl) (fun b' u hb hu => (Heap.get?_update_other s.heap (Obj.mapSeq f) (Ne.symm hb)).trans hu) ⟨_, q⟩ ?_
  exact ⟨hz, its', _, hv, q⟩
theorem Inv.fresh (I : Inv X pins σ H s) : H s.heap.objs.size = none := I.hok.fresh (Nat.le_refl _)
theorem Inv.lstM (I : Inv X pins σ H s) (hH : H l = some (.lst xs)) : xs.length ≤ sizeLine ∧ ∃ (its : List Value) (n : Nat), Vals xs its ∧ xs.length = its.length ∧ s.heap.get? l = some { cls := .type "list", data := .seq its.toArray n } := by
  obtain ⟨z, its, n, r, e⟩ := I.hok l _ hH
  exact ⟨z, its, n, r, r.length, e⟩

theorem notLongL {n : Nat} (h : n ≤ sizeLine) : Builtin.List.listTooLong n = false := by
  unfold Builtin.List.listTooLong
  exact decide_eq_false (by omega)
end

section
variable {X : Cx}

/-! ### methods -/
def rAppend : V → List V → Hp → VK → Prop := fun x vs H Q => ∃ l xs y, x = .ref l ∧ vs = [y] ∧ H l = some (.lst xs) ∧ xs.length < sizeLine ∧ Q .non (upd H l (.lst (xs ++ [y])))
theorem mt_append : MtM X "list.append" rAppend := by
  intro pins s σ H x vs v us Q I rx rv h
  obtain ⟨l, xs, y, rfl, rfl, hH, hz, q⟩ := h
  cases rx
  obtain ⟨u, rfl, ru⟩ := rv.one
  obtain ⟨z, its, n, r, hl, e⟩ := I.lstM hH
  refine call_meets F.slot_list_append ⟨_, e, rfl⟩ F.entry_list_append (F.args_list_append_2 _ _) (PySem.list_append l its.toArray n u (by rw [List.size_toArray]; omega)) ⟨e, ?_⟩
  refine ⟨.non, _, I.lset (its' := its ++ [u]) hH e (by simp) (r.append (.cons ru .nil)) ?_, rfl, q⟩
  rw [List.length_append, List.length_singleton]
  omega

def rExtend : V → List V → Hp → VK → Prop := fun x vs H Q => ∃ l b xs zs, x = .ref l ∧ vs = [.ref b] ∧ H l = some (.lst xs) ∧ H b = some (.lst zs) ∧ xs.length + zs.length ≤ sizeLine ∧ Q .non (upd H l (.lst (xs ++ zs)))
theorem mt_extend : MtM X "list.extend" rExtend := by
  intro pins s σ H x vs v us Q I rx rv h
  obtain ⟨l, b, xs, zs, rfl, rfl, hH, hB, hz, q⟩ := h
  cases rx
  obtain ⟨u, rfl, ru⟩ := rv.one
  cases ru
  obtain ⟨z, its, n, r, hl, e⟩ := I.lstM hH
  obtain ⟨z2, its2, n2, r2, hl2, e2⟩ := I.lstM hB
  have hsz : its.toArray.size + its2.toArray.size ≤ sizeLine := by rw [List.size_toArray, List.size_toArray]; omega
  have hlong : ¬ (!its.toArray.isEmpty && Builtin.List.listTooLong (its.toArray.size + its2.toArray.size)) = true := by
    rw [notLongL hsz, Bool.and_false]
    exact Bool.false_ne_true
  refine call_meets F.slot_list_extend ⟨_, e, rfl⟩ F.entry_list_extend (F.args_list_extend_2 _ _)
    (AutoSeq1.list_extend_list_list_0 l its.toArray n b its2.toArray n2 hlong (by rw [List.size_toArray]; omega) (by omega)) ⟨e, e2, ?_⟩
  refine ⟨.non, _, I.lset (its' := its ++ its2) hH e (by simp) (r.append r2) ?_, rfl, q⟩
  rw [List.length_append]
  omega

/-! ### list + list, list += list, list * int -/
/-! ### del xs[i] -/
end

/-! ### xs[a:b] = ys -/
section
variable {prog : Program} {w : World} {A : Around} {E : Value → Shared → Prop} {s : Shared}
set_option maxRecDepth 100000 in
end

section
variable {X : Cx}
end
end L2

namespace L2
open PySem PySem.Spec PyProof.Rows

theorem Vals.ints : ∀ {ns : List Int} {us : List Value}, Vals (ns.map V.int) us → IntsAre us ns
  | [], us, h => by
    rw [List.map_nil] at h
    cases h
    exact IntsAre.nil
  | n :: ns, us, h => by
    rw [List.map_cons] at h
    cases h with
    | cons r t =>
      obtain ⟨k, rfl⟩ := r
      exact IntsAre.cons n k (Vals.ints t)
theorem vals_of_ints : ∀ {us : List Value} {ns : List Int}, IntsAre us ns → Vals (ns.map V.int) us
  | _, _, .nil => by rw [List.map_nil]; exact Paired.nil
  | _, _, .cons n t h => by rw [List.map_cons]; exact Paired.cons (show RelV (V.int n) (Value.int n t) from ⟨t, rfl⟩) (vals_of_ints h)
theorem Vals.strs : ∀ {xs : List Str} {us : List Value}, Vals (xs.map V.str) us → StrsAre us xs
  | [], us, h => by
    rw [List.map_nil] at h
    cases h
    exact StrsAre.nil
  | x :: xs, us, h => by
    rw [List.map_cons] at h
    cases h with
    | cons r t =>
      obtain ⟨k, rfl⟩ := r
      exact StrsAre.cons x k (Vals.strs t)
theorem Vals.bls : ∀ {bs : List Bool} {us : List Value}, Vals (bs.map V.bl) us → us = bs.map Value.bool
  | [], us, h => by
    rw [List.map_nil] at h
    cases h
    rfl
  | b :: bs, us, h => by
    rw [List.map_cons] at h
    cases h with
    | cons r t =>
      cases r
      rw [Vals.bls t, List.map_cons]
theorem Vals.ref1 {a : Addr} {us : List Value} (r : Vals [V.ref a] us) : us = [Value.ref a] := by
  cases r with
  | cons r t =>
    cases t
    cases r
    rfl
/-! ### the library's walks over a list of ints, kept objects alone -/
section
variable {prog : Program} {w : World} {A : Around} {E : Value → Shared → Prop} {s : Shared} {l : Addr} {its : List Value} {ns : List Int} {Q : Value → Shared → Prop}
end

/-! ### the calls, by values (CallR of 03t; MtR of 06l) -/
section
variable {X : Cx}
/-! sorted, sort (fewer than 64 items: the library's own bound) -/
end

/-! ### list.index, flat items -/
section
variable {X : Cx}
end

/-! ### type(x) of an own instance; is, is not of a module's class -/
section
variable {X : Cx}
end

/-! ### any(xs), all(xs) of a list of bools -/
theorem iter_any {prog : Program} {w : World} {A : Around} {E : Value → Shared → Prop} {s : Shared} {l : Addr} {items : Array Value} {Q : Value → Shared → Prop} (hl : s.heap.IsList l items)
    (h : ∀ s₂ : Shared, s₂ = { s with heap := s.heap.push { cls := .type "list_iterator", data := .fields #[.ref l, .int 0 0] } } →
      (s₂.heap.IsListIter s.heap.objs.size l 0 ∧ s₂.heap.IsList l items) → l ≠ s.heap.objs.size → Q (.ref s.heap.objs.size) s₂) : wpAny (model prog w) A (pyIter (.ref l)) Q E s := by
  have hlt : l < s.heap.objs.size := by obtain ⟨_, e, _⟩ := hl; exact Heap.lt_size e
  exact wpAny_pyIter_list hl (h _ rfl ⟨⟨_, Heap.get?_push_size _ rfl, rfl, rfl⟩, hl.push _⟩ (Nat.ne_of_lt hlt))
theorem truth_bools {prog : Program} {w : World} {A : Around} {bs : List Bool} {its : List Value} (e : its = bs.map Value.bool) :
    TruthOf prog w A (fun i v => its.toArray[i]? = some v) (fun i => bs.getD i false) := fun i v s Q E hv hq => by
  have hv' : its[i]? = some v := by simpa using hv
  rw [e, List.getElem?_map] at hv'
  obtain ⟨b, hb, rfl⟩ := Option.map_eq_some_iff.mp hv'
  have hg : bs.getD i false = b := by rw [List.getD_eq_getElem?_getD, hb] <;> rfl
  have hq' : Q (bs.getD i false) s := hq
  rw [hg] at hq'
  exact wpAny_truthy_bool hq'
theorem any_range : ∀ bs : List Bool, (List.range bs.length).any (fun i => bs.getD i false) = bs.any id
  | [] => rfl
  | b :: bs => by
    rw [List.length_cons, List.range_succ_eq_map, List.any_cons, List.any_map, List.any_cons, ← any_range bs]
    all_goals rfl
theorem all_range : ∀ bs : List Bool, (List.range bs.length).all (fun i => bs.getD i false) = bs.all id
  | [] => rfl
  | b :: bs => by
    rw [List.length_cons, List.range_succ_eq_map, List.all_cons, List.all_map, List.all_cons, ← all_range bs]
    all_goals rfl
section
variable {X : Cx}
def rAny (K : PySem.W.Frag) : List V → Hp → VK → Prop := fun vs H Q => ∃ (a : Addr) (bs : List Bool), vs = [V.ref a] ∧ SqL K H a (bs.map V.bl) ∧ Q (.bl (bs.any id)) H
def rAll (K : PySem.W.Frag) : List V → Hp → VK → Prop := fun vs H Q => ∃ (a : Addr) (bs : List Bool), vs = [V.ref a] ∧ SqL K H a (bs.map V.bl) ∧ Q (.bl (bs.all id)) H
theorem cr_any (hc : X.calm = true) : CallR X (.builtin "any") (rAny X.K) := by
  intro pins s σ H vs us Q I r h
  obtain ⟨a, bs, rfl, hs, q⟩ := h
  obtain ⟨its, rv, hl, _⟩ := I.list hs
  rw [Vals.ref1 r]
  have hb := rv.bls
  refine call_any_walk (iter_any hl.isList fun s₂ e2 st hne => ?_)
  subst e2
  refine ⟨_, _, _, _, _, _, _, rfl, Walks.list (A := X.A.in1) (I.ok.hd hc) _ a hne its.toArray, st, truth_bools hb, fun h' tk hk => ?_⟩
  refine ⟨.bl _, H, I.kept fun b o eo => hk b o (fun hmem => ?_) (Heap.get?_push_of_some _ eo), ?_, q⟩
  · rcases List.mem_cons.mp hmem with e1 | hmem
    · exact absurd (e1 ▸ Heap.lt_size eo) (Nat.lt_irrefl _)
    · cases hmem
  · show Value.bool _ = Value.bool _
    rw [← any_range, hb, List.size_toArray, List.length_map]
theorem cr_all (hc : X.calm = true) : CallR X (.builtin "all") (rAll X.K) := by
  intro pins s σ H vs us Q I r h
  obtain ⟨a, bs, rfl, hs, q⟩ := h
  obtain ⟨its, rv, hl, _⟩ := I.list hs
  rw [Vals.ref1 r]
  have hb := rv.bls
  refine call_all_walk (iter_any hl.isList fun s₂ e2 st hne => ?_)
  subst e2
  refine ⟨_, _, _, _, _, _, _, rfl, Walks.list (A := X.A.in1) (I.ok.hd hc) _ a hne its.toArray, st, truth_bools hb, fun h' tk hk => ?_⟩
  refine ⟨.bl _, H, I.kept fun b o eo => hk b o (fun hmem => ?_) (Heap.get?_push_of_some _ eo), ?_, q⟩
  · rcases List.mem_cons.mp hmem with e1 | hmem
    · exact absurd (e1 ▸ Heap.lt_size eo) (Nat.lt_irrefl _)
    · cases hmem
  · show Value.bool _ = Value.bool _
    rw [← all_range, hb, List.size_toArray, List.length_map]
end

/-! ### == and != of data at any depth: none, bools, ints, texts, lists, tuples -/
mutual
inductive Dp (K : PySem.W.Frag) (H : Hp) : V → PyData → Prop
  | non : Dp K H .non .none
  | bl (b : Bool) : Dp K H (.bl b) (.bool b)
  | int (i : Int) : Dp K H (.int i) (.int i)
  | str (x : Str) : Dp K H (.str x) (.str x)
  | lst {a : Addr} {xs : List V} {ds : List PyData} : SqL K H a xs → DpAll K H xs ds → Dp K H (.ref a) (.list ds)
  | tup {a : Addr} {xs : List V} {ds : List PyData} : SqT K H a xs → DpAll K H xs ds → Dp K H (.ref a) (.tuple ds)
inductive DpAll (K : PySem.W.Frag) (H : Hp) : List V → List PyData → Prop
  | nil : DpAll K H [] []
  | cons {v : V} {vs : List V} {d : PyData} {ds : List PyData} : Dp K H v d → DpAll K H vs ds → DpAll K H (v :: vs) (d :: ds)
end
section
variable {X : Cx} {pins : List (Addr × Obj)} {σ : St} {H : Hp} {s : Shared}
mutual
theorem Dp.reads (I : Inv X pins σ H s) : ∀ (d : PyData) (v : V) (u : Value), Dp X.K H v d → RelV v u → ∃ as, Reads s.heap u d as
  | .none, _, _, h, r => by
    cases h
    cases r
    exact ⟨_, Reads.none⟩
  | .bool b, _, _, h, r => by
    cases h
    cases r
    exact ⟨_, Reads.bool b⟩
  | .int i, _, _, h, r => by
    cases h
    obtain ⟨t, rfl⟩ := r
    exact ⟨_, Reads.int i t⟩
  | .str x, _, _, h, r => by
    cases h
    obtain ⟨t, rfl⟩ := r
    exact ⟨_, Reads.str x t⟩
  | .list ds, _, _, h, r => by
    cases h with
    | lst hs ha =>
      cases r
      obtain ⟨its, rv, ⟨o, n, ho, hc, _, hd⟩, _⟩ := I.list hs
      obtain ⟨as, hr⟩ := Dp.readsAll I ds _ its ha rv
      exact ⟨_, Reads.list ho hc hd hr⟩
  | .tuple ds, _, _, h, r => by
    cases h with
    | tup hs ha =>
      cases r
      obtain ⟨its, rv, ⟨o, ho, hc, n, hd⟩, _⟩ := I.tuple hs
      obtain ⟨as, hr⟩ := Dp.readsAll I ds _ its ha rv
      exact ⟨_, Reads.tuple ho hc hd hr⟩
  | .dict _, _, _, h, _ => by cases h
theorem Dp.readsAll (I : Inv X pins σ H s) : ∀ (ds : List PyData) (vs : List V) (us : List Value), DpAll X.K H vs ds → Vals vs us → ∃ as, ReadsAll s.heap us ds as
  | [], _, _, h, r => by
    cases h
    cases r
    exact ⟨_, ReadsAll.nil⟩
  | d :: ds, _, _, h, r => by
    cases h with
    | cons h1 h2 =>
      cases r with
      | cons r1 r2 =>
        obtain ⟨as, q1⟩ := Dp.reads I d _ _ h1 r1
        obtain ⟨bs, q2⟩ := Dp.readsAll I ds _ _ h2 r2
        exact ⟨_, ReadsAll.cons q1 q2⟩
end
end
section
variable {X : Cx}
def rEqD (K : PySem.W.Frag) : R2 := fun x y H Q => ∃ d e, Dp K H x d ∧ Dp K H y e ∧ SeqAt.shaped d = true ∧ SeqAt.shaped e = true ∧ Q (.bl (PyData.eqv d e)) H
theorem op_eqD (hu : X.A.units + 64 < cLine) : OpR X (compareOp .Eq) (rEqD X.K) := by
  intro pins s σ H x y v u Q I rx ry h
  obtain ⟨d, e, hd, he, sd, se, q⟩ := h
  obtain ⟨as, r1⟩ := Dp.reads I d x v hd rx
  obtain ⟨bs, r2⟩ := Dp.reads I e y u he ry
  exact SeqAt.compareEq_shaped r1 r2 sd se hu ⟨.bl _, H, I, rfl, q⟩
end
end L2

namespace L2
open PySem PySem.Spec PyProof.Rows
abbrev CellAt (h : Heap) (c : Addr) (v : Option Value) : Prop := h.IsCell c v
def relS (scope sc : Scope) : Scope :=
  { scope with names := scope.names.map fun (n, k) => if (k == .free && sc.kind == .function && sc.names.lookup n == some .cell) then (n, .cell) else (n, k) }

def cloFrom (cells : List (Str × Addr)) : List (Str × NameKind) → List (Str × Addr) → List (Str × Addr)
  | [], acc => acc
  | (n, k) :: r, acc => if k == .free then cloFrom cells r ((n, (cells.lookup n).getD 0) :: acc) else cloFrom cells r acc

theorem closure_loop (env : Env) (f : Str × NameKind → List (Str × Addr) → Sem (ForInStep (List (Str × Addr))))
    (hf : ∀ n k c, f (n, k) c = if k == .free then (do let a ← cellOf env n; pure (.yield ((n, a) :: c))) else pure (.yield c)) :
    ∀ (names : List (Str × NameKind)) (acc : List (Str × Addr)), (∀ y ∈ names, y.2 = .free → ∃ c, env.cells.lookup y.1 = some c) → forIn names acc f = pure (cloFrom env.cells names acc)
  | [], acc, _ => by rw [List.forIn_nil]; rfl
  | (n, k) :: r, acc, h => by
    rw [List.forIn_cons, hf]
    have ih := fun acc => closure_loop env f hf r acc fun y hy => h y (List.mem_cons_of_mem _ hy)
    unfold cloFrom
    by_cases hk : (k == NameKind.free) = true
    · rw [if_pos hk, if_pos hk]
      obtain ⟨c, hc⟩ := h (n, k) List.mem_cons_self (by simpa using hk)
      have e : cellOf env n = pure c := by unfold cellOf; rw [hc]
      rw [e]
      have e2 : (env.cells.lookup n).getD 0 = c := by rw [hc]; rfl
      rw [e2]
      exact ih _
    · rw [if_neg hk, if_neg hk]
      exact ih _
theorem closure_ok {scope : Scope} {env : Env} (h : ∀ y ∈ scope.names, y.2 = .free → ∃ c, env.cells.lookup y.1 = some c) : closureFor scope env = pure (cloFrom env.cells scope.names []) := by
  simp only [closureFor]
  rw [closure_loop env _ (fun n k c => rfl) scope.names [] h]
  rfl

theorem mem_lookup {α : Type} : ∀ {l : List (Str × α)} {n : Str} {c : α}, (n, c) ∈ l → ∃ c', l.lookup n = some c'
  | (k, v) :: r, n, c, h => by
    rw [List.lookup_cons]
    cases hb : n == k with
    | true => exact ⟨_, rfl⟩
    | false =>
      rcases List.mem_cons.mp h with e | h
      · cases e; simp at hb
      · exact mem_lookup h

theorem cloFrom_mem {cells : List (Str × Addr)} : ∀ {names : List (Str × NameKind)} {acc : List (Str × Addr)} {n : Str} {c : Addr}, (n, c) ∈ cloFrom cells names acc → (n, c) ∈ acc ∨ ((n, .free) ∈ names ∧ c = (cells.lookup n).getD 0)
  | [], _, _, _, h => .inl h
  | (m, k) :: r, acc, n, c, h => by
    unfold cloFrom at h
    split at h
    · rename_i hk
      have hk : k = .free := by simpa using hk
      rcases cloFrom_mem h with h | ⟨h1, h2⟩
      · rcases List.mem_cons.mp h with e | h
        · cases e; exact .inr ⟨hk ▸ List.mem_cons_self, rfl⟩
        · exact .inl h
      · exact .inr ⟨List.mem_cons_of_mem _ h1, h2⟩
    · rcases cloFrom_mem h with h | ⟨h1, h2⟩
      · exact .inl h
      · exact .inr ⟨List.mem_cons_of_mem _ h1, h2⟩
theorem cloFrom_acc {cells : List (Str × Addr)} : ∀ {names : List (Str × NameKind)} {acc : List (Str × Addr)} {p : Str × Addr}, p ∈ acc → p ∈ cloFrom cells names acc
  | [], _, _, h => h
  | (m, k) :: r, acc, p, h => by
    unfold cloFrom
    split
    · exact cloFrom_acc (List.mem_cons_of_mem _ h)
    · exact cloFrom_acc h
theorem cloFrom_has {cells : List (Str × Addr)} : ∀ {names : List (Str × NameKind)} {acc : List (Str × Addr)} {n : Str}, (n, .free) ∈ names → (n, (cells.lookup n).getD 0) ∈ cloFrom cells names acc
  | (m, k) :: r, acc, n, h => by
    unfold cloFrom
    rcases List.mem_cons.mp h with e | h
    · cases e
      exact cloFrom_acc List.mem_cons_self
    · split
      · exact cloFrom_has h
      · exact cloFrom_has h

theorem cells_mem : ∀ {names : List (Str × NameKind)} {h : Heap} {acc : List (Str × Addr)} {x : Str} {c : Addr}, (x, c) ∈ cellsFrom h.objs.size names acc →
    (x, c) ∈ acc ∨ ((x, .cell) ∈ names ∧ h.objs.size ≤ c ∧ CellAt (pushCells h names) c none)
  | [], _, _, _, _, h => .inl h
  | (n, k) :: r, h, acc, x, c, hm => by
    unfold cellsFrom at hm
    unfold pushCells
    split at hm
    · rename_i hk
      rw [if_pos hk]
      have hk : k = .cell := by simpa using hk
      rw [← Heap.size_push h { cls := .type "cell", data := .cell none }] at hm
      rcases cells_mem hm with hm | ⟨h1, h2, h3⟩
      · rcases List.mem_cons.mp hm with e | hm
        · cases e
          exact .inr ⟨hk ▸ List.mem_cons_self, Nat.le_refl _, _, pushCells_keeps r _ _ _ (Heap.get?_push_size _ rfl), rfl⟩
        · exact .inl hm
      · rw [Heap.size_push] at h2
        exact .inr ⟨List.mem_cons_of_mem _ h1, Nat.le_of_succ_le h2, h3⟩
    · rename_i hk
      rw [if_neg hk]
      rcases cells_mem hm with hm | ⟨h1, h2, h3⟩
      · exact .inl hm
      · exact .inr ⟨List.mem_cons_of_mem _ h1, h2, h3⟩
theorem cells_acc : ∀ {names : List (Str × NameKind)} {n : Nat} {acc : List (Str × Addr)} {p : Str × Addr}, p ∈ acc → p ∈ cellsFrom n names acc
  | [], _, _, _, h => h
  | (m, k) :: r, n, acc, p, h => by
    unfold cellsFrom
    split
    · exact cells_acc (List.mem_cons_of_mem _ h)
    · exact cells_acc h
theorem cells_has : ∀ {names : List (Str × NameKind)} {n : Nat} {acc : List (Str × Addr)} {x : Str}, (x, .cell) ∈ names → ∃ c, (x, c) ∈ cellsFrom n names acc
  | (m, k) :: r, n, acc, x, h => by
    unfold cellsFrom
    rcases List.mem_cons.mp h with e | h
    · cases e
      exact ⟨n, cells_acc List.mem_cons_self⟩
    · split
      · exact cells_has h
      · exact cells_has h
theorem cells_inj : ∀ {names : List (Str × NameKind)} {h : Heap} {acc : List (Str × Addr)} {x y : Str} {c : Addr}, (∀ p ∈ acc, p.2 < h.objs.size) → (∀ x y c, (x, c) ∈ acc → (y, c) ∈ acc → x = y) →
    (x, c) ∈ cellsFrom h.objs.size names acc → (y, c) ∈ cellsFrom h.objs.size names acc → x = y
  | [], _, _, _, _, _, _, hi, h1, h2 => hi _ _ _ h1 h2
  | (n, k) :: r, h, acc, x, y, c, hl, hi, h1, h2 => by
    unfold cellsFrom at h1 h2
    split at h1
    · rename_i hk
      rw [if_pos hk] at h2
      rw [← Heap.size_push h { cls := .type "cell", data := .cell none }] at h1 h2
      refine cells_inj (h := h.push _) (fun p hp => ?_) (fun x y c a b => ?_) h1 h2
      · rw [Heap.size_push]
        rcases List.mem_cons.mp hp with rfl | hp
        · exact Nat.lt_succ_self _
        · exact Nat.lt_succ_of_lt (hl p hp)
      · rcases List.mem_cons.mp a with e | a <;> rcases List.mem_cons.mp b with e' | b
        · cases e; cases e'; rfl
        · cases e; exact absurd (hl _ b) (Nat.lt_irrefl _)
        · cases e'; exact absurd (hl _ a) (Nat.lt_irrefl _)
        · exact hi _ _ _ a b
    · rename_i hk
      rw [if_neg hk] at h2
      exact cells_inj hl hi h1 h2

theorem newEnv_comp {M : Model} {A : Around} {E : Value → Shared → Prop} {s : Shared} {scope : Scope} {globals : Addr} {closure : List (Str × Addr)} {qual : Str} {func : Option Addr} {code : Value} {around : Env} {builtins : Addr} {Q : Env → Shared → Prop}
    (h : Q (newEnv scope s.heap.objs.size globals (cellsFrom (s.heap.objs.size + 1) scope.names closure) qual func code (some around) builtins)
      { s with heap := pushCells (s.heap.push { cls := .type "dict", data := .dict #[] }) scope.names }) :
    wpAny M A (newFunctionEnv scope globals closure [] qual func code (some around) builtins) Q E s := by
  simp only [newFunctionEnv, Option.isSome_some, if_true]
  refine wpAny_bind (wpAny_alloc ?_)
  refine wpAny_bind (wpAny_layCells _ (fun n k c => rfl) scope.names closure _ _ ?_)
  rw [show ({ s with heap := s.heap.push { cls := .type "dict", data := .dict #[] } } : Shared).heap.objs.size = s.heap.objs.size + 1 from Heap.size_push ..]
  rw [List.forIn_nil]
  exact wpAny_bind (wpAny_pure (wpAny_pure h))

/-- every name of the written scope, in the scope that runs -/
theorem lookup_relS {sc : Scope} : ∀ {names : List (Str × NameKind)} {x : Str} {k : NameKind},
    (names.map fun (n, k) => if (k == NameKind.free && sc.kind == .function && sc.names.lookup n == some .cell) then (n, NameKind.cell) else (n, k)).lookup x = some k →
    ∃ k', names.lookup x = some k' ∧ (k = k' ∨ (k' = .free ∧ k = .cell))
  | [], _, _, h => by simp at h
  | (n, k₀) :: r, x, k, h => by
    have ih := @lookup_relS sc r x k
    have h' : List.lookup x ((if (k₀ == NameKind.free && sc.kind == .function && sc.names.lookup n == some .cell) = true then (n, NameKind.cell) else (n, k₀)) :: (r.map _)) = some k := h
    cases hx : x == n with
    | true =>
      simp only [List.lookup_cons, hx]
      by_cases hc : (k₀ == NameKind.free && sc.kind == .function && sc.names.lookup n == some .cell) = true
      · rw [if_pos hc] at h'
        simp only [List.lookup_cons, hx] at h'
        cases h'
        simp only [Bool.and_eq_true, beq_iff_eq] at hc
        exact ⟨k₀, rfl, .inr ⟨hc.1.1, rfl⟩⟩
      · rw [if_neg hc] at h'
        simp only [List.lookup_cons, hx] at h'
        cases h'
        exact ⟨_, rfl, .inl rfl⟩
    | false =>
      simp only [List.lookup_cons, hx]
      by_cases hc : (k₀ == NameKind.free && sc.kind == .function && sc.names.lookup n == some .cell) = true
      · rw [if_pos hc] at h'
        simp only [List.lookup_cons, hx] at h'
        exact ih h'
      · rw [if_neg hc] at h'
        simp only [List.lookup_cons, hx] at h'
        exact ih h'
/-- the names of a comprehension's block: its own (with their places in N), or captured -/
structure BlkOk (N : List Str) (sc scope : Scope) (own : List (Str × Nat)) : Prop where
  kind : scope.kind = .function
  uniq : ∀ y ∈ scope.names, scope.names.lookup y.1 = some y.2
  ix : ∀ p ∈ own, N[p.2]? = some p.1
  free : ∀ y ∈ scope.names, y.2 = .free → sc.names.lookup y.1 = some .cell ∨ sc.names.lookup y.1 = some .free
  own : ∀ y ∈ scope.names, y.2 = .local ∨ y.2 = .cell → y.1 ∈ own.map (·.1) ∨ y.1 ∉ N
/-- the slots of the block's own names forgotten -/
def wipe (σ : St) : List Nat → St
  | [] => σ
  | v :: vs => (wipe σ vs).set v none
theorem wipe_length (σ : St) : ∀ vs : List Nat, (wipe σ vs).length = σ.length
  | [] => rfl
  | v :: vs => by unfold wipe; rw [List.length_set, wipe_length σ vs]
theorem wipe_some {σ : St} {i : Nat} {x : V} : ∀ {vs : List Nat}, (wipe σ vs)[i]? = some (some x) → σ[i]? = some (some x) ∧ i ∉ vs
  | [], h => ⟨h, by simp⟩
  | v :: vs, h => by
    unfold wipe at h
    by_cases hi : v = i
    · subst hi
      by_cases hv : v < (wipe σ vs).length
      · rw [List.getElem?_set_self hv] at h; cases h
      · rw [List.getElem?_eq_none (by simpa using hv)] at h; cases h
    · rw [List.getElem?_set_ne hi] at h
      obtain ⟨h1, h2⟩ := wipe_some h
      exact ⟨h1, by simp only [List.mem_cons, not_or]; exact ⟨fun e => hi e.symm, h2⟩⟩

/-- the context of a block that starts at s, its iterator's objects at fp -/
abbrev Cx.blk (X : Cx) (s : Shared) (H : Hp) (scope : Scope) (cenv : Env) (fp : List Addr) : Cx := { X with s_0 := s, H_0 := H, env := cenv, outer := X.stack, ex := fp, fn := fun x => scope.names.lookup x == some .cell, pn := [], xe := fun _ _ => False }
section
variable {X : Cx} {pins : List (Addr × Obj)} {σ : St} {H : Hp} {s : Shared}
theorem block_start {scope : Scope} {own : List (Str × Nat)} {fp : List Addr} (I : Inv X pins σ H s) (ok : BlkOk X.N X.env.scope scope own) (hN : X.N.Nodup) (hfp : ∀ b ∈ fp, FpOk X pins H b ∧ b < s.heap.objs.size) :
    Inv (X.blk s H scope (compEnvC scope (cellsFrom (s.heap.objs.size + 1) scope.names (cloFrom X.env.cells scope.names [])) s.heap.objs.size X.env) fp) [] (wipe σ (own.map (·.2))) H { s with heap := pushCells (s.heap.push { cls := .type "dict", data := .dict #[] }) scope.names } := by
  have hfree : ∀ y ∈ scope.names, y.2 = .free → ∃ c, X.env.cells.lookup y.1 = some c := fun y hy e => by
    rcases ok.free y hy e with k | k
    · exact I.ok.has _ (.inl k)
    · exact I.ok.has _ (.inr k)
  generalize hcenv : compEnvC scope (cellsFrom (s.heap.objs.size + 1) scope.names (cloFrom X.env.cells scope.names [])) s.heap.objs.size X.env = cenv
  have kp : ∀ b o, s.heap.get? b = some o → (pushCells (s.heap.push { cls := .type "dict", data := .dict #[] }) scope.names).get? b = some o := fun b o e => pushCells_keeps _ _ _ _ (Heap.get?_push_of_some _ e)
  have hL : cenv.locals = s.heap.objs.size := by rw [← hcenv]; rfl
  have hcl : cenv.cells = cellsFrom (s.heap.objs.size + 1) scope.names (cloFrom X.env.cells scope.names []) := by rw [← hcenv]; rfl
  have hsc : cenv.scope = relS scope X.env.scope := by rw [← hcenv]; rfl
  rw [← Heap.size_push s.heap { cls := .type "dict", data := .dict #[] }] at hcl
  have cm : ∀ {y c}, (y, c) ∈ cloFrom X.env.cells scope.names [] → X.env.cells.lookup y = some c ∧ c < s.heap.objs.size := fun {y c} hm => by
    rcases cloFrom_mem hm with hm | ⟨h1, rfl⟩
    · cases hm
    · obtain ⟨c, hc⟩ := hfree _ h1 rfl
      rw [hc]
      obtain ⟨w, z⟩ := I.cell _ _ hc
      exact ⟨rfl, z.lt⟩
  have mem : ∀ {y c}, cenv.cells.lookup y = some c → (X.env.cells.lookup y = some c ∧ c < s.heap.objs.size) ∨ (s.heap.objs.size + 1 ≤ c ∧ CellAt (pushCells (s.heap.push { cls := .type "dict", data := .dict #[] }) scope.names) c none) := fun {y c} e => by
    rw [hcl] at e
    rcases cells_mem (PySem.mem_of_lookup e) with hm | ⟨_, h2, h3⟩
    · exact .inl (cm hm)
    · rw [Heap.size_push] at h2; exact .inr ⟨h2, h3⟩
  have look : ∀ {y}, scope.names.lookup y = some .free → ∃ c, cenv.cells.lookup y = some c ∧ X.env.cells.lookup y = some c := fun {y} hl => by
    have hy : (y, NameKind.free) ∈ scope.names := PySem.mem_of_lookup hl
    obtain ⟨c', e'⟩ := mem_lookup (cells_acc (names := scope.names) (n := (s.heap.push { cls := .type "dict", data := .dict #[] }).objs.size) (cloFrom_has (cells := X.env.cells) (acc := []) hy))
    rw [← hcl] at e'
    refine ⟨c', e', ?_⟩
    rw [hcl] at e'
    rcases cells_mem (PySem.mem_of_lookup e') with hm | ⟨h1, _, _⟩
    · exact (cm hm).1
    · have := ok.uniq _ h1
      rw [hl] at this; cases this
  have okB : (X.blk s H scope cenv fp).Ok := by
    refine ⟨I.ok.mod, by show cenv.scope.kind = _; rw [hsc]; exact ok.kind, by show cenv.globals = _; rw [← hcenv]; exact I.ok.glob, by show cenv.builtins = _; rw [← hcenv]; exact I.ok.blt, by show s.heap.objs.size ≤ cenv.locals; rw [hL]; exact Nat.le_refl _,
      fun y z c e1 e2 => ?_, fun y hy => ?_, fun y c z e => ?_, I.ok.hd, I.ok.frames, .inl rfl, fun b hb => ⟨?_, fun y c e z => ?_⟩, I.bs, Nat.le_trans I.ok.bsz I.sz, fun b o e hb => ?_, fun b hb z => ?_, I.stack, I.stkFree⟩
    · have e1 : cenv.cells.lookup y = some c := e1
      have e2 : cenv.cells.lookup z = some c := e2
      rw [hcl] at e1 e2
      refine cells_inj (fun p hp => ?_) (fun y z c a b => I.ok.inj y z c (cm a).1 (cm b).1) (PySem.mem_of_lookup e1) (PySem.mem_of_lookup e2)
      rw [Heap.size_push]
      exact Nat.lt_succ_of_lt (cm (y := p.1) (c := p.2) hp).2
    · show ∃ c, cenv.cells.lookup y = some c
      have key : ∀ k, cenv.kindOf y = some k → (k = .cell ∨ k = .free) → ∃ c, cenv.cells.lookup y = some c := fun k hk hk' => by
        unfold Env.kindOf at hk
        rw [hsc] at hk
        obtain ⟨k', e, r⟩ := lookup_relS hk
        have : k' = .cell ∨ k' = .free := by
          rcases r with rfl | ⟨rfl, _⟩
          · exact hk'
          · exact .inr rfl
        rcases this with rfl | rfl
        · obtain ⟨c, hm⟩ := cells_has (n := (s.heap.push { cls := .type "dict", data := .dict #[] }).objs.size) (acc := cloFrom X.env.cells scope.names []) (PySem.mem_of_lookup e)
          obtain ⟨c', e'⟩ := mem_lookup hm
          exact ⟨c', by rw [hcl]; exact e'⟩
        · obtain ⟨c, h1, _⟩ := look e
          exact ⟨c, h1⟩
      rcases hy with hy | hy
      · exact key _ hy (.inl rfl)
      · exact key _ hy (.inr rfl)
    · have z : (scope.names.lookup y == some NameKind.cell) = true := z
      have z : scope.names.lookup y = some .cell := by simpa using z
      have e : cenv.cells.lookup y = some c := e
      rw [hcl] at e
      rcases cells_mem (PySem.mem_of_lookup e) with hm | ⟨_, h2, _⟩
      · rcases cloFrom_mem hm with hm | ⟨h1, _⟩
        · cases hm
        · have q := ok.uniq _ h1
          rw [z] at q; cases q
      · rw [Heap.size_push] at h2
        exact Nat.le_of_succ_le h2
    · show b ≠ cenv.locals
      rw [hL]; exact Nat.ne_of_lt (hfp b hb).2
    · have e : cenv.cells.lookup y = some c := e
      rcases mem e with ⟨h1, _⟩ | ⟨h1, _⟩
      · exact (hfp b hb).1.2.2.2.2.1 y c h1 z
      · have h2 : s.heap.objs.size + 1 ≤ b := by rw [← z]; exact h1
        exact absurd (Nat.lt_of_lt_of_le (hfp b hb).2 (Nat.le_of_succ_le h2)) (Nat.lt_irrefl _)
    · rcases (hfp b hb).1.2.2.2.1 with z | z
      · exact I.ok.noex b o e z
      · exact absurd (Nat.lt_of_lt_of_le (Heap.lt_size e) (Nat.le_trans I.ok.bsz z)) (Nat.lt_irrefl _)
    · rcases List.mem_cons.mp (I.stkSub b z) with z | z
      · exact (hfp b hb).1.2.1 z
      · exact (hfp b hb).1.2.2.1 z
  refine ⟨okB, rfl, I.bare, Un.kept kp, ⟨fun _ => none, ?_, fun i y av e1 e2 e3 => ?_⟩, fun y c e => ?_, ?_, fun y c e => ?_, fun p hp => ?_, I.hok.kept kp, by rw [wipe_length]; exact I.len⟩
  · show Heap.Ns _ cenv.locals _
    rw [hL]
    exact Heap.Ns.keeps (Heap.Ns.new ..) fun b o e => pushCells_keeps _ _ _ _ e
  · obtain ⟨e2, hne⟩ := wipe_some e2
    have hfr : scope.names.lookup y = some .free ∧ (cenv.kindOf y = some .cell ∨ cenv.kindOf y = some .free) := by
      have key : ∀ k, cenv.scope.names.lookup y = some k → k = .local ∨ k = .cell ∨ k = .free → scope.names.lookup y = some .free ∧ (cenv.kindOf y = some .cell ∨ cenv.kindOf y = some .free) := fun k hk hk' => by
        have hk0 := hk
        rw [hsc] at hk
        obtain ⟨k', e, r⟩ := lookup_relS hk
        have no : ¬ (k' = .local ∨ k' = .cell) := fun hh => by
          rcases ok.own _ (PySem.mem_of_lookup e) hh with e' | e'
          · obtain ⟨p, hp, hpy⟩ := List.mem_map.mp e'
            have e3 := ok.ix p hp
            have : p.1 = y := hpy
            rw [this] at e3
            exact hne (List.mem_map.mpr ⟨p, hp, nodup_ix hN e3 e1⟩)
          · exact e' (List.mem_of_getElem? e1)
        rcases r with rfl | ⟨rfl, rfl⟩
        · rcases hk' with rfl | rfl | rfl
          · exact absurd (.inl rfl) no
          · exact absurd (.inr rfl) no
          · exact ⟨e, .inr hk0⟩
        · exact ⟨e, .inl hk0⟩
      have e3 : Vis cenv.scope y := e3
      rcases e3 with e3 | e3 | e3
      · exact key _ e3 (.inl rfl)
      · exact key _ e3 (.inr (.inl rfl))
      · exact key _ e3 (.inr (.inr rfl))
    obtain ⟨m, hn, hl⟩ := I.loc
    have hvis : Vis X.env.scope y := (ok.free _ (PySem.mem_of_lookup hfr.1) rfl).elim (fun k => .inr (.inl k)) (fun k => .inr (.inr k))
    obtain ⟨w, r, q⟩ := hl i y av e1 e2 hvis
    refine ⟨w, r, .inr ⟨hfr.2, ?_⟩⟩
    obtain ⟨c, h1, h2⟩ := look hfr.1
    rcases q with ⟨k, _⟩ | ⟨_, c', e', z⟩
    · have k : X.env.scope.names.lookup y = some .local := k
      rcases ok.free _ (PySem.mem_of_lookup hfr.1) rfl with k' | k' <;> rw [show X.env.scope.names.lookup y = _ from k'] at k <;> cases k
    · rw [h2] at e'; cases e'
      exact ⟨c, h1, z.keeps kp⟩
  · have e : cenv.cells.lookup y = some c := e
    rcases mem e with ⟨h1, _⟩ | ⟨_, z⟩
    · obtain ⟨w, z⟩ := I.cell y c h1
      exact ⟨w, z.keeps kp⟩
    · exact ⟨_, z⟩
  · show H cenv.locals = none
    rw [hL]; exact I.hok.fresh (Nat.le_refl _)
  · have e : cenv.cells.lookup y = some c := e
    rcases mem e with ⟨h1, _⟩ | ⟨h1, _⟩
    · exact I.freeC y c h1
    · exact I.hok.fresh (Nat.le_of_succ_le h1)
  · exact absurd (show p ∈ ([] : List (Addr × Obj)) ++ [] from hp) (by simp)

/-- an item appended to a tracked list -/
theorem app_ok {E : Value → Shared → Prop} {D : Addr} {xs : List V} {y : V} {v : Value} {Q : Value → Shared → Prop} (I : Inv X pins σ H s) (hD : H D = some (.lst xs)) (hz : xs.length < sizeLine) (r : RelV y v)
    (h : ∀ s', Inv X pins σ (upd H D (.lst (xs ++ [y]))) s' → Q .none s') : wpAny (model X.prog X.w) X.A (call (.builtin "list.append") [.ref D, v]) Q E s := by
  obtain ⟨hz', its, n, ri, e⟩ := I.hok D _ hD
  have hl := ri.length
  refine append_at (hsz := by rw [List.size_toArray]; omega) e fun h' sb ho' => ?_
  refine h { s with heap := h' } (I.write (t' := s.toks) (by rw [hD]; trivial) (.inl rfl) (fun b u hb q => (sb.2 b hb).trans q) ⟨_, ho'⟩ ⟨by rw [List.length_append]; exact hz, its ++ [v], n + 1, ri.append (.cons r .nil), ?_⟩)
  rw [ho']
  simp

/-- a clause's tests -/
def PTs (X : Cx) (ifs : List Expr) (t : TT) : Prop :=
  ∀ (pins : List (Addr × Obj)) (s : Shared) (σ : St) (H : Hp) (Q : Bool → Hp → Prop), Inv X pins σ H s → t σ H Q →
    wpAny (model X.prog X.w) X.A (forIn ifs true fun c r => if r = true then do let ok ← isTrue c X.env (eval c X.env); pure (ForInStep.yield ok) else pure (ForInStep.yield r)) (TP X pins σ Q) X.xe s
def tYes : TT := fun _ H Q => Q true H
theorem pts_nil : PTs X [] tYes := fun _ _ _ H _ I h => wpAny_tests_nil ⟨H, I, h⟩
theorem pts_one {c : Expr} {t : TT} (h : PT X c t) : PTs X [c] t := fun pins s σ H Q I hw => wpAny_tests_one (h pins s σ H Q I hw)
end

theorem thnF {α : Type} {t : Sem α} {Q Q' : α → Shared → Prop} {M : Model} {A : Around} {E : Value → Shared → Prop} {s : Shared} (h : wpAny M A t Q (fun _ _ => False) s) (hQ : ∀ a s, Q a s → Q' a s) : wpAny M A t Q' E s := wpAny_mono h hQ fun _ _ z => False.elim z

/-- the loop of a list comprehension's block, the target of any form (codeAny_compLoop_tests asks a target that no tuple goes to; statement and proof follow it, PyProof/CompMap.lean:41-61, with the step letOwnedTupleGo kept) -/
theorem compLoop_any {prog : Program} {w : World} {A : Around} {R : Result → Shared → Prop} {s : Shared} {elt target iter : Expr} {ifs : List Expr} {scope : Scope} {pos : Pos} {it acc : Value} {env : Env} (I : Nat → Shared → Prop)
    (turn : ∀ n s, I n s → wpAny (model prog w) A (pyNext it) (fun r s₁ => match r with
      | none => R (.ok .next) s₁
      | some v => wpAny (model prog w) A (letOwnedTupleGo target it v) (fun _ s₁' => wpAny (model prog w) A (assign target env v) (fun _ s₂ =>
          wpAny (model prog w) A (forIn ifs true fun c r => if r = true then do let ok ← isTrue c env (eval c env); pure (ForInStep.yield ok) else pure (ForInStep.yield r)) (fun ok s₃ =>
            if ok = true then wpAny (model prog w) A (eval elt env) (fun x s₄ =>
              wpAny (model prog w) A (call (.builtin "list.append") [acc, x]) (fun _ s₅ => ∃ m, m < n ∧ I m s₅) (notedBy (model prog w) A env fun e s' => R (.error e) s') s₄) (notedBy (model prog w) A env fun e s' => R (.error e) s') s₃
            else ∃ m, m < n ∧ I m s₃) (notedBy (model prog w) A env fun e s' => R (.error e) s') s₂) (notedBy (model prog w) A env fun e s' => R (.error e) s') s₁') (notedBy (model prog w) A env fun e s' => R (.error e) s') s₁) (notedBy (model prog w) A env fun e s' => R (.error e) s') s)
    (n : Nat) (h : I n s) :
    codeAny (model prog w) A (.compLoop (.ListComp elt [⟨target, iter, ifs, 0⟩] scope pos) 0 it acc env) R s := by
  refine codeAny_loop rfl I (fun n s hI => ?_) n h
  show wpAny _ A ((compTurn (.ListComp elt [⟨target, iter, ifs, 0⟩] scope pos) 0 it acc env).onRaise (fun x => do noteFrame x env; theTreesLotGoes x)) _ _ s
  refine wpAny_noted ?_
  rw [compTurn_list]
  refine wpAny_bind (wpAny_standAt (wpAny_bind (wpAny_mono (turn n s hI) (fun r s₁ h₁ => ?_) fun _ _ h' => h')))
  cases r with
  | none => exact wpAny_pure h₁
  | some v =>
    refine wpAny_bind (wpAny_mono h₁ (fun _ s₁' h₁' => ?_) fun _ _ h' => h')
    refine wpAny_bind (wpAny_mono h₁' (fun _ s₂ h₂ => wpAny_bind (wpAny_mono h₂ (fun ok s₃ h₃ => ?_) fun _ _ h' => h')) fun _ _ h' => h')
    cases ok with
    | false => exact wpAny_pure ⟨rfl, h₃⟩
    | true =>
      exact wpAny_bind (wpAny_bind (wpAny_mono h₃ (fun x s₄ h₄ => wpAny_bind (wpAny_mono h₄ (fun _ s₅ h₅ => wpAny_pure (wpAny_pure ⟨rfl, h₅⟩)) fun _ _ h' => h')) fun _ _ h' => h'))

section
variable {X : Cx}
/-- [elt for target in iter if ..]: D the new list; W by the turn and a measure, Nx what a turn is to reach -/
def tLc (wi : TI) (g : TG) (tt : TT) (te : TE) (vs : List Nat) : TE := fun σ H Q => wi σ H fun J H1 => ∀ D, H1 D = none → ∃ W : Nat → Nat → Hp → Prop, (∃ m, W 0 m (upd H1 D (.lst []))) ∧ ∀ i m H, W i m H →
  (J.stop i H ∧ Q (.ref D) H) ∨ (J.go i H ∧ ∃ Nx : Hp → Prop, (∀ H', Nx H' → ∃ m', m' < m ∧ W (i + 1) m' H') ∧ ∀ x H', J.yld i H x H' → g x (wipe σ vs) H' fun σ2 H2 => wipe σ2 vs = wipe σ vs ∧ tt σ2 H2 fun b H3 =>
    if b = true then te σ2 H3 fun y H4 => ∃ acc, H4 D = some (.lst acc) ∧ acc.length < sizeLine ∧ Nx (upd H4 D (.lst (acc ++ [y]))) else Nx H3)
theorem lc_core {pins : List (Addr × Obj)} {s : Shared} {σ : St} {H : Hp} {Q : VK} {elt tg iter : Expr} {ifs : List Expr} {scope : Scope} {own : List (Str × Nat)} {pos pos' : Pos} {wi : TI} {g : TG} {tt : TT} {te : TE} {use : Option (Value → Sem Unit)} {Qf : Value → Shared → Prop}
    (hc : X.calm = true) (hN : X.N.Nodup) (I : Inv X pins σ H s) (hi : PI X tg iter wi) (ok : BlkOk X.N X.env.scope scope own)
    (hg : ∀ (s : Shared) (H : Hp) (C : Addr) (cl : List (Str × Addr)) (fp : List Addr), PG (X.blk s H scope (compEnvC scope cl C X.env) fp) tg g) (ht : ∀ (s : Shared) (H : Hp) (C : Addr) (cl : List (Str × Addr)) (fp : List Addr), PTs (X.blk s H scope (compEnvC scope cl C X.env) fp) ifs tt)
    (he : ∀ (s : Shared) (H : Hp) (C : Addr) (cl : List (Str × Addr)) (fp : List Addr), PE (X.blk s H scope (compEnvC scope cl C X.env) fp) elt te) (hs : ∀ x, foldedSetIterable iter X.env x = pure x)
    (h : tLc wi g tt te (own.map (·.2)) σ H Q)
    (hRR : ∀ D C s' m H', Inv X pins σ H' s' → Q (.ref D) H' → s'.heap.Ns C m → FpOk X pins H' C → compPost (model X.prog X.w) X.A X.xe use Qf (.ref D) C (.ok .next) s') :
    wpAny (model X.prog X.w) X.A (comprehension (.ListComp elt [⟨tg, iter, ifs, 0⟩] scope pos) scope X.env pos' (newList []) false (eval iter X.env) use) Qf X.xe s := by
  have hfree : ∀ y ∈ scope.names, y.2 = .free → ∃ c, X.env.cells.lookup y.1 = some c := fun y hy e => by
    rcases ok.free y hy e with k | k
    · exact I.ok.has _ (.inl k)
    · exact I.ok.has _ (.inr k)
  refine wpAny_comprehension_free (use := use) rfl hs (closure_ok hfree) ok.kind (fun y hy e => by rw [ok.uniq y hy, e])
    (thn (hi pins s σ H _ I h) fun xv s1 hx => thn hx fun itv s2 h2 => ?_)
  obtain ⟨it, fp, tn, J, H2, e, I2, T, st2, f2, q⟩ := h2
  subst e
  refine wpAny_newObj_type (newEnv_comp ?_) (by show 0 ≤ sizeLine; decide)
  generalize hD : s2.heap.objs.size = D
  have hDn : H2 D = none := I2.hok.fresh (Nat.le_of_eq hD)
  obtain ⟨W, ⟨m0, w0⟩, turn⟩ := q D hDn
  -- the new list
  generalize hs3 : ({ s2 with heap := s2.heap.push { cls := .type "list", data := .seq ([] : List Value).toArray } } : Shared) = s3
  have I3 : Inv X pins σ (upd H2 D (.lst [])) s3 := by
    rw [← hs3]
    refine I2.laid (t' := s2.toks) (fun b o e => Heap.get?_push_of_some _ e) (Nat.le_of_eq hD) ⟨Nat.zero_le _, [], 0, .nil, ?_⟩
    rw [← hD]
    exact Heap.get?_push_size _ rfl
  have h3 : s3.heap = s2.heap.push { cls := .type "list", data := .seq ([] : List Value).toArray } := by rw [← hs3]
  have sz : ∀ b ∈ fp, b < s2.heap.objs.size := fun b hb => by
    obtain ⟨o, e, _⟩ := T.obj _ _ st2 b hb
    exact Heap.lt_size e
  have f3 : ∀ b ∈ fp, FpOk X pins (upd H2 D (.lst [])) b ∧ b < s3.heap.objs.size := fun b hb => by
    have hlt := sz b hb
    refine ⟨⟨?_, (f2 b hb).2⟩, by rw [h3, Heap.size_push]; exact Nat.lt_succ_of_lt hlt⟩
    rw [upd_ne (by rw [← hD]; exact Nat.ne_of_lt hlt)]
    exact (f2 b hb).1
  have st3 : tn 0 s3.heap := T.keep _ _ _ st2 fun b _ o e => by rw [h3]; exact Heap.get?_push_of_some _ e
  have I4 := block_start I3 ok hN f3
  have pg := hg s3 (upd H2 D (.lst [])) s3.heap.objs.size (cellsFrom (s3.heap.objs.size + 1) scope.names (cloFrom X.env.cells scope.names [])) fp
  have pt := ht s3 (upd H2 D (.lst [])) s3.heap.objs.size (cellsFrom (s3.heap.objs.size + 1) scope.names (cloFrom X.env.cells scope.names [])) fp
  have pe := he s3 (upd H2 D (.lst [])) s3.heap.objs.size (cellsFrom (s3.heap.objs.size + 1) scope.names (cloFrom X.env.cells scope.names [])) fp
  show codeAny _ _ (.compStart (.ListComp elt [⟨tg, iter, ifs, 0⟩] scope pos) 0 (.ref it) (.ref D) (compEnvC scope (cellsFrom (s3.heap.objs.size + 1) scope.names (cloFrom X.env.cells scope.names [])) s3.heap.objs.size X.env)) (compPost (model X.prog X.w) X.A X.xe use Qf (.ref D) s3.heap.objs.size) { s3 with heap := pushCells (s3.heap.push { cls := .type "dict", data := .dict #[] }) scope.names }
  have nfp : ∀ b ∈ fp, (upd H2 D (.lst [])) b = none := fun b hb => (f3 b hb).1.1
  generalize hce : compEnvC scope (cellsFrom (s3.heap.objs.size + 1) scope.names (cloFrom X.env.cells scope.names [])) s3.heap.objs.size X.env = ce at I4 pg pt pe ⊢
  have cL : ce.locals = s3.heap.objs.size := by subst hce; rfl
  generalize hH3 : upd H2 D (.lst []) = H3 at I3 I4 pg pt pe w0 nfp f3
  generalize hs4 : ({ s3 with heap := pushCells (s3.heap.push { cls := .type "dict", data := .dict #[] }) scope.names } : Shared) = s4 at I4 ⊢
  have st4 : tn 0 s4.heap := T.keep _ _ _ st3 fun b _ o e => by rw [← hs4]; exact pushCells_keeps _ _ _ _ (Heap.get?_push_of_some _ e)
  have stat : ∀ {σ' : St} {H' : Hp} {s' : Shared}, Inv (X.blk s3 H3 scope ce fp) [] σ' H' s' → (∀ b ∈ fp, H' b = none) → ∀ b ∈ fp, FpOk (X.blk s3 H3 scope ce fp) [] H' b := fun {σ' H' s'} I' hn b hb =>
    ⟨hn b hb, (I'.ok.exf b hb).1, I'.ok.exfs b hb, .inl hb, fun x c e => (I'.ok.exf b hb).2 x c e, fun p hp => absurd (show p ∈ ([] : List (Addr × Obj)) ++ [] from hp) (by simp)⟩
  have loop : codeAny (model X.prog X.w) X.A (.compLoop (.ListComp elt [⟨tg, iter, ifs, 0⟩] scope pos) 0 (.ref it) (.ref D) ce) (compPost (model X.prog X.w) X.A X.xe use Qf (.ref D) s3.heap.objs.size) s4 := by
    refine compLoop_any (fun n s' => ∃ i H', Inv (X.blk s3 H3 scope ce fp) [] (wipe σ (own.map (·.2))) H' s' ∧ tn i s'.heap ∧ (∀ b ∈ fp, H' b = none) ∧ W i n H') ?_ m0 ⟨0, H3, I4, st4, nfp, w0⟩
    rintro n s5 ⟨i, H5, I5, st5, n5, w5⟩
    rcases turn i n H5 w5 with ⟨stop, qq⟩ | ⟨go, Nx, hNx, step⟩
    · have td := T.done (X.blk s3 H3 scope ce fp) rfl rfl rfl hc i [] s5 _ H5 (fun _ _ => False) I5 (stat I5 n5) st5 stop
      refine thnF td fun r s6 ⟨hr, I6⟩ => ?_
      subst hr
      -- back in the def's context
      have I7 : Inv X pins σ H5 s6 := I3.call' (ch := fp) I6.os I6.base I6.hok I6.bare fun b hb => ⟨(f3 b hb).1.2.2.2.1, (f3 b hb).1.2.1, (f3 b hb).1.2.2.2.2.1, (f3 b hb).1.2.2.2.2.2⟩
      have nC : H5 s3.heap.objs.size = none := by
        have z : H5 ce.locals = none := I6.free
        rw [cL] at z
        exact z
      obtain ⟨m, hn, _⟩ := I6.loc
      have hn : s6.heap.Ns ce.locals m := hn
      rw [cL] at hn
      exact hRR D s3.heap.objs.size s6 m H5 I7 qq hn (I3.fpOk (Nat.le_refl _) nC)
    · have ti := T.item (X.blk s3 H3 scope ce fp) rfl rfl rfl hc i [] s5 _ H5 (fun _ _ => False) I5 (stat I5 n5) st5 go
      refine thnF ti fun r s6 ⟨u, hr, h6⟩ => ?_
      subst hr
      refine thnF h6 fun _ s7 ⟨x, H7, I7, r7, y7, st7, n7⟩ => ?_
      have I7' := I7.pinned (stat I7 n7) (T.obj _ _ st7)
      refine thnF (pg _ s7 _ H7 x u _ I7' r7 (step x H7 y7)) fun _ s8 ⟨σ8, H8, I8, hw8, q8⟩ => ?_
      refine thnF (pt _ s8 σ8 H8 _ I8 q8) fun b s9 ⟨H9, I9, q9⟩ => ?_
      -- the turn's end
      have fin : ∀ {s' : Shared} {H' : Hp}, Inv (X.blk s3 H3 scope ce fp) ([] ++ pinsAt fp s7.heap) σ8 H' s' → Nx H' → ∃ m, m < n ∧ ∃ i H', Inv (X.blk s3 H3 scope ce fp) [] (wipe σ (own.map (·.2))) H' s' ∧ tn i s'.heap ∧ (∀ b ∈ fp, H' b = none) ∧ W i m H' := fun {s' H'} I' nx => by
        obtain ⟨m', hm, w'⟩ := hNx H' nx
        have pin' : ∀ b ∈ fp, ∀ o, s7.heap.get? b = some o → s'.heap.get? b = some o ∧ H' b = none := fun b hb o e =>
          let z := I'.pin (b, o) (List.mem_append_right _ (List.mem_append_right _ (mem_pinsAt hb e)))
          ⟨z.1, z.2.1⟩
        have hl : (wipe σ (own.map (·.2))).length = σ8.length := by rw [← hw8, wipe_length]
        refine ⟨m', hm, i + 1, H', (I'.unpinned (pins := [])).weak hl (fun j v e => ?_), T.keep _ _ _ st7 fun b hb o e => (pin' b hb o e).1, fun b hb => ?_, w'⟩
        · rw [← hw8] at e
          exact (wipe_some e).1
        · obtain ⟨o, e, _⟩ := T.obj _ _ st7 b hb
          exact (pin' b hb o e).2
      cases b with
      | false =>
        simp only [Bool.false_eq_true, if_false] at q9 ⊢
        exact fin I9 q9
      | true =>
        simp only [if_true] at q9 ⊢
        refine thnF (pe _ s9 σ8 H9 _ I9 q9) fun z s10 ⟨yv, H10, I10, r10, acc, hD10, hz10, nx⟩ => ?_
        exact app_ok (X := X.blk s3 H3 scope ce fp) I10 hD10 hz10 r10 fun s11 I11 => fin I11 nx
  exact codeAny_compStart_list loop (T.self X.A 0 _ _ _ st4 loop)
/-- as a value -/
theorem pe_lc {elt tg iter : Expr} {ifs : List Expr} {scope : Scope} {own : List (Str × Nat)} {pos : Pos} {wi : TI} {g : TG} {tt : TT} {te : TE} (hc : X.calm = true) (hN : X.N.Nodup) (hi : PI X tg iter wi) (ok : BlkOk X.N X.env.scope scope own)
    (hg : ∀ (s : Shared) (H : Hp) (C : Addr) (cl : List (Str × Addr)) (fp : List Addr), PG (X.blk s H scope (compEnvC scope cl C X.env) fp) tg g) (ht : ∀ (s : Shared) (H : Hp) (C : Addr) (cl : List (Str × Addr)) (fp : List Addr), PTs (X.blk s H scope (compEnvC scope cl C X.env) fp) ifs tt)
    (he : ∀ (s : Shared) (H : Hp) (C : Addr) (cl : List (Str × Addr)) (fp : List Addr), PE (X.blk s H scope (compEnvC scope cl C X.env) fp) elt te) (hs : ∀ x, foldedSetIterable iter X.env x = pure x := by intro _; rfl) :
    PE X (.ListComp elt [⟨tg, iter, ifs, 0⟩] scope pos) (tLc wi g tt te (own.map (·.2))) := by
  intro pins s σ H Q I h
  rw [eval_ListComp]
  refine lc_core hc hN I hi ok hg ht he hs h fun D C s' m H' I' q hn f => ⟨m, hn, fun h'' sb => ?_⟩
  obtain ⟨f0, f1, f2, f3, f4, f5⟩ := f
  exact ⟨.ref D, H', I'.turned (t' := s'.toks) (fun b o hb e => (sb.2 b hb).trans e) f0 f1 f3 f4 f5, rfl, q⟩
/-- name = [..] on one line, the name a local -/
theorem ps_setLc {i : Nat} {y : Str} {py : Pos} {elt tg iter : Expr} {ifs : List Expr} {scope : Scope} {own : List (Str × Nat)} {pos spos : Pos} {wi : TI} {g : TG} {tt : TT} {te : TE} (hc : X.calm = true) (hN : X.N.Nodup) (hy : X.N[i]? = some y) (hyl : X.env.scope.names.lookup y = some .local)
    (hsw : swapsWith (.ListComp elt [⟨tg, iter, ifs, 0⟩] scope pos) (some (.Name y py)) spos.line X.env = pure true) (hi : PI X tg iter wi) (ok : BlkOk X.N X.env.scope scope own)
    (hg : ∀ (s : Shared) (H : Hp) (C : Addr) (cl : List (Str × Addr)) (fp : List Addr), PG (X.blk s H scope (compEnvC scope cl C X.env) fp) tg g) (ht : ∀ (s : Shared) (H : Hp) (C : Addr) (cl : List (Str × Addr)) (fp : List Addr), PTs (X.blk s H scope (compEnvC scope cl C X.env) fp) ifs tt)
    (he : ∀ (s : Shared) (H : Hp) (C : Addr) (cl : List (Str × Addr)) (fp : List Addr), PE (X.blk s H scope (compEnvC scope cl C X.env) fp) elt te) (hs : ∀ x, foldedSetIterable iter X.env x = pure x := by intro _; rfl) :
    PS X (.Assign [.Name y py] (.ListComp elt [⟨tg, iter, ifs, 0⟩] scope pos) spos) (tAsg (tLc wi g tt te (own.map (·.2))) (gName i)) := by
  intro pins s σ H D I h
  rw [exec_Assign_Name_used _ _ _ _ hsw]
  refine wpAny_bind (wpAny_standAt (wpAny_bind ?_))
  show wpAny _ X.A (do let _ ← comprehension (.ListComp elt [⟨tg, iter, ifs, 0⟩] scope pos) scope X.env (firstIterPos [⟨tg, iter, ifs, 0⟩] pos) (newList []) false (eval iter X.env) (some (assign (.Name y py) X.env))) _ _ s
  have h : tLc wi g tt te (own.map (·.2)) σ H (fun x H1 => gName i x σ H1 D.nx) := h
  refine wpAny_bind (thn (lc_core (Qf := fun _ s' => SP X pins D .next s') hc hN I hi ok hg ht he hs h fun L C s' m H' I' q hn f => ?_) fun _ s' hq => wpAny_pure (wpAny_pure hq))
  show wpAny _ _ (assign (.Name y py) X.env (.ref L)) _ _ _
  refine wpAny_assign_Name (store_ok2 (v := V.ref L) I' hN hy (.inl hyl) rfl (fun s2 I2 ⟨a, sb, ha⟩ => ?_) (.inr hyl))
  obtain ⟨f0, f1, f2, f3, f4, f5⟩ := f
  have haC : C ≠ a := by
    rcases ha with z | z
    · rw [z]; exact f1
    · exact fun e => f4 y a z e.symm
  refine ⟨m, hn.sameBut sb haC, fun h3 sb3 => ?_⟩
  exact ⟨_, H', I2.turned (t' := s2.toks) (fun b o hb e => (sb3.2 b hb).trans e) f0 f1 f3 f4 f5, q⟩
theorem sw_true {elt : Expr} {gs : List Comprehension} {scope : Scope} {pos py : Pos} {y : Str} {l : Nat} {env : Env} (hk : env.scope.kind = .function) (hy : env.scope.names.lookup y = some .local) (hl : (py.line == pos.line) = true)
    (ha : (scope.names.any fun (n, k) => n == y && (k == .local || k == .cell)) = false) : swapsWith (.ListComp elt gs scope pos) (some (.Name y py)) l env = pure true := by
  have ky : env.kindOf y = some .local := hy
  have hb : env.blockKind = .function := by unfold Env.blockKind; rw [hk]; rfl
  unfold swapsWith
  simp only [hb, ky, ha, Expr.pos, hl]
  rfl
end

/-! ### the forms one uses -/
/-- over a range: Pv by the turn and the heap (the new list at D within) -/
theorem lc_range {lo : Int} {n : Nat} {g : TG} {tt : TT} {te : TE} {vs : List Nat} {σ : St} {H1 : Hp} {D : Addr} {Qd : Hp → Prop} (Pv : Nat → Hp → Prop) (h0 : Pv 0 (upd H1 D (.lst [])))
    (hs : ∀ i H, i < n → Pv i H → g (.int (lo + i)) (wipe σ vs) H fun σ2 H2 => wipe σ2 vs = wipe σ vs ∧ tt σ2 H2 fun b H3 =>
      if b = true then te σ2 H3 fun y H4 => ∃ acc, H4 D = some (.lst acc) ∧ acc.length < sizeLine ∧ Pv (i + 1) (upd H4 D (.lst (acc ++ [y]))) else Pv (i + 1) H3) (hd : ∀ H, Pv n H → Qd H) :
    ∃ W : Nat → Nat → Hp → Prop, (∃ m, W 0 m (upd H1 D (.lst []))) ∧ ∀ i m H, W i m H →
      ((Itr lo n).stop i H ∧ Qd H) ∨ ((Itr lo n).go i H ∧ ∃ Nx : Hp → Prop, (∀ H', Nx H' → ∃ m', m' < m ∧ W (i + 1) m' H') ∧ ∀ x H', (Itr lo n).yld i H x H' → g x (wipe σ vs) H' fun σ2 H2 => wipe σ2 vs = wipe σ vs ∧ tt σ2 H2 fun b H3 =>
        if b = true then te σ2 H3 fun y H4 => ∃ acc, H4 D = some (.lst acc) ∧ acc.length < sizeLine ∧ Nx (upd H4 D (.lst (acc ++ [y]))) else Nx H3) := by
  refine ⟨fun i m H => m = n - i ∧ i ≤ n ∧ Pv i H, ⟨n, by simp, Nat.zero_le _, h0⟩, ?_⟩
  rintro i m H ⟨rfl, hi, p⟩
  by_cases hlt : i < n
  · refine .inr ⟨hlt, Pv (i + 1), fun H' p' => ⟨n - (i + 1), by omega, rfl, hlt, p'⟩, fun x H' y => ?_⟩
    obtain ⟨e, y⟩ := y
    subst e y
    exact hs i _ hlt p
  · have e : i = n := by omega
    subst e
    exact .inl ⟨Nat.le_refl _, hd H p⟩
/-- over a list that the block leaves as it is -/
theorem lc_list {K : PySem.W.Frag} {a : Addr} {xs : List V} {g : TG} {tt : TT} {te : TE} {vs : List Nat} {σ : St} {H1 : Hp} {D : Addr} {Qd : Hp → Prop} (Pv : Nat → Hp → Prop) (h0 : Pv 0 (upd H1 D (.lst []))) (hl : ∀ i H, i ≤ xs.length → Pv i H → SqL K H a xs)
    (hs : ∀ i x H, xs[i]? = some x → Pv i H → g x (wipe σ vs) H fun σ2 H2 => wipe σ2 vs = wipe σ vs ∧ tt σ2 H2 fun b H3 =>
      if b = true then te σ2 H3 fun y H4 => ∃ acc, H4 D = some (.lst acc) ∧ acc.length < sizeLine ∧ Pv (i + 1) (upd H4 D (.lst (acc ++ [y]))) else Pv (i + 1) H3) (hd : ∀ H, Pv xs.length H → Qd H) :
    ∃ W : Nat → Nat → Hp → Prop, (∃ m, W 0 m (upd H1 D (.lst []))) ∧ ∀ i m H, W i m H →
      ((Itl K a).stop i H ∧ Qd H) ∨ ((Itl K a).go i H ∧ ∃ Nx : Hp → Prop, (∀ H', Nx H' → ∃ m', m' < m ∧ W (i + 1) m' H') ∧ ∀ x H', (Itl K a).yld i H x H' → g x (wipe σ vs) H' fun σ2 H2 => wipe σ2 vs = wipe σ vs ∧ tt σ2 H2 fun b H3 =>
        if b = true then te σ2 H3 fun y H4 => ∃ acc, H4 D = some (.lst acc) ∧ acc.length < sizeLine ∧ Nx (upd H4 D (.lst (acc ++ [y]))) else Nx H3) := by
  refine ⟨fun i m H => m = xs.length - i ∧ i ≤ xs.length ∧ Pv i H, ⟨xs.length, by simp, Nat.zero_le _, h0⟩, ?_⟩
  rintro i m H ⟨rfl, hi, p⟩
  have q := hl i H hi p
  by_cases hlt : i < xs.length
  · refine .inr ⟨⟨xs, xs[i], q, by simp [hlt]⟩, Pv (i + 1), fun H' p' => ⟨xs.length - (i + 1), by omega, rfl, hlt, p'⟩, fun x H' y => ?_⟩
    obtain ⟨e, y⟩ := y
    subst e
    exact hs i x _ (y xs q) p
  · have e : i = xs.length := by omega
    subst e
    exact .inl ⟨⟨xs, q, Nat.le_refl _⟩, hd H p⟩
def blkC (N : List Str) (sc scope : Scope) (own : List (Str × Nat)) : Bool :=
  (match scope.kind with | .function => true | _ => false) && (scope.names.all fun y => decide (scope.names.lookup y.1 = some y.2)) && (own.all fun p => decide (N[p.2]? = some p.1)) &&
    (scope.names.all fun y => match y.2 with
      | .free => (match sc.names.lookup y.1 with | some .cell => true | some .free => true | _ => false)
      | .local => decide (y.1 ∈ own.map (·.1)) || decide (y.1 ∉ N)
      | .cell => decide (y.1 ∈ own.map (·.1)) || decide (y.1 ∉ N)
      | _ => true)
theorem blkOk_by {N : List Str} {sc scope : Scope} {own : List (Str × Nat)} (h : blkC N sc scope own = true) : BlkOk N sc scope own := by
  unfold blkC at h
  simp only [Bool.and_eq_true, List.all_eq_true, decide_eq_true_eq] at h
  obtain ⟨⟨⟨h1, h2⟩, h3⟩, h4⟩ := h
  refine ⟨?_, h2, h3, fun y hy e => ?_, fun y hy e => ?_⟩
  · split at h1
    · assumption
    · cases h1
  · have q := h4 y hy
    simp only [e] at q
    split at q <;> first | exact .inl (by assumption) | exact .inr (by assumption) | cases q
  · have q := h4 y hy
    rcases e with e | e <;> (simp only [e, Bool.or_eq_true, decide_eq_true_eq] at q; exact q)
end L2

namespace L2
open PySem PySem.Spec PyProof.Rows

section
variable {prog : Program} {w : World} {A : Around} {R : Result → Shared → Prop} {s : Shared} {elt t0 i0 t1 i1 : Expr} {ifs0 ifs1 : List Expr} {scope : Scope} {pos : Pos} {it acc : Value} {env : Env}
end

section
variable {X : Cx}
end
end L2

namespace L2
open PySem PySem.Spec PyProof.Rows

/-! ### lists of pairs as tables -/
section
variable {κ : Type} [DecidableEq κ]
def valV (kvs : List (κ × V)) (k : κ) : Option V := (kvs.find? fun kv => decide (kv.1 = k)).map (·.2)
/-- in its place, or at the end -/
def putK (kvs : List (κ × V)) (k : κ) (v : V) : List (κ × V) :=
  if (kvs.any fun kv => decide (kv.1 = k)) = true then kvs.map (fun kv => if kv.1 = k then (kv.1, v) else kv) else kvs ++ [(k, v)]
def dropK (kvs : List (κ × V)) (k : κ) : List (κ × V) := kvs.filter fun kv => decide (kv.1 ≠ k)

theorem valV_pos {p : κ × V} {r : List (κ × V)} {k : κ} (e : p.1 = k) : valV (p :: r) k = some p.2 := by simp [valV, List.find?_cons, e]
theorem valV_neg {p : κ × V} {r : List (κ × V)} {k : κ} (e : ¬ p.1 = k) : valV (p :: r) k = valV r k := by simp [valV, List.find?_cons, e]
theorem valV_any (k : κ) : ∀ kvs : List (κ × V), (kvs.any fun kv => decide (kv.1 = k)) = (valV kvs k).isSome
  | [] => rfl
  | p :: r => by
    rw [List.any_cons]
    by_cases e : p.1 = k
    · simp only [valV_pos e, decide_eq_true e, Bool.true_or, Option.isSome_some]
    · rw [valV_neg e, decide_eq_false e, Bool.false_or]; exact valV_any k r
theorem RelO.isSome_eq {o : Option V} {u : Option Value} (r : RelO o u) : o.isSome = u.isSome := by
  cases o with
  | none => cases u with
    | none => rfl
    | some _ => exact (show False from r).elim
  | some _ => cases u with
    | none => exact (show False from r).elim
    | some _ => rfl
theorem RelO.getD {o : Option V} {u : Option Value} {d : V} {d' : Value} (r : RelO o u) (rd : RelV d d') : RelV (o.getD d) (u.getD d') := by
  cases o with
  | none => cases u with
    | none => exact rd
    | some _ => exact (show False from r).elim
  | some _ => cases u with
    | none => exact (show False from r).elim
    | some _ => exact r

/-- raw tables of the same keys -/
theorem KV.val {kvs : List (κ × V)} {vs : List (κ × Value)} (r : KV kvs vs) (k : κ) : RelO (valV kvs k) (valueAt vs k) := by
  unfold KV at r
  induction r with
  | nil => exact True.intro
  | @cons p q ps qs h t ih =>
    obtain ⟨h1, h2⟩ := h
    by_cases e : p.1 = k
    · have e' : q.1 = k := h1.symm.trans e
      have b : valueAt (q :: qs) k = some q.2 := by simp [valueAt, List.find?_cons, e']
      rw [valV_pos e, b]; exact h2
    · have e' : ¬ q.1 = k := fun z => e (h1.trans z)
      have b : valueAt (q :: qs) k = valueAt qs k := by simp [valueAt, List.find?_cons, e']
      rw [valV_neg e, b]; exact ih
theorem KV.any {kvs : List (κ × V)} {vs : List (κ × Value)} (r : KV kvs vs) (k : κ) : (kvs.any fun kv => decide (kv.1 = k)) = vs.any fun kv => decide (kv.1 = k) := by
  unfold KV at r
  induction r with
  | nil => rfl
  | cons h t ih => rw [List.any_cons, List.any_cons, ih, h.1]
theorem KV.repl {kvs : List (κ × V)} {vs : List (κ × Value)} (r : KV kvs vs) (k : κ) {y : V} {u : Value} (ry : RelV y u) :
    KV (kvs.map fun kv => if kv.1 = k then (kv.1, y) else kv) (vs.map fun kv => if kv.1 = k then (kv.1, u) else kv) := by
  unfold KV at r ⊢
  induction r with
  | nil => exact .nil
  | @cons p q ps qs h t ih =>
    rw [List.map_cons, List.map_cons]
    refine .cons ?_ ih
    obtain ⟨h1, h2⟩ := h
    by_cases e : p.1 = k
    · rw [if_pos e, if_pos (h1.symm.trans e)]; exact ⟨h1, ry⟩
    · rw [if_neg e, if_neg (fun z => e (h1.trans z))]; exact ⟨h1, h2⟩
theorem KV.put {kvs : List (κ × V)} {vs : List (κ × Value)} (r : KV kvs vs) (k : κ) {y : V} {u : Value} (ry : RelV y u) : KV (putK kvs k y) (stored vs k u) := by
  unfold putK stored
  rw [r.any k]
  by_cases e : (vs.any fun kv => decide (kv.1 = k)) = true
  · rw [if_pos e, if_pos e]; exact r.repl k ry
  · rw [if_neg e, if_neg e]; exact Paired.snoc r ⟨rfl, ry⟩
theorem KV.drop {kvs : List (κ × V)} {vs : List (κ × Value)} (r : KV kvs vs) (k : κ) : KV (dropK kvs k) (without vs k) := by
  unfold KV at r ⊢
  unfold dropK without
  induction r with
  | nil => exact .nil
  | @cons p q ps qs h t ih =>
    obtain ⟨h1, h2⟩ := h
    rw [List.filter_cons, List.filter_cons]
    by_cases e : p.1 = k
    · have a : ¬ decide (p.1 ≠ k) = true := by simp [e]
      have b : ¬ decide (q.1 ≠ k) = true := by simp [h1.symm.trans e]
      rw [if_neg a, if_neg b]; exact ih
    · have e' : ¬ q.1 = k := fun z => e (h1.trans z)
      have a : decide (p.1 ≠ k) = true := by simp [e]
      have b : decide (q.1 ≠ k) = true := by simp [e']
      rw [if_pos a, if_pos b]; exact .cons ⟨h1, h2⟩ ih
theorem KV.keys {kvs : List (κ × V)} {vs : List (κ × Value)} (r : KV kvs vs) : kvs.map (·.1) = vs.map (·.1) := by
  unfold KV at r
  induction r with
  | nil => rfl
  | cons h t ih => rw [List.map_cons, List.map_cons, ih, h.1]
theorem KV.length {kvs : List (κ × V)} {vs : List (κ × Value)} (r : KV kvs vs) : kvs.length = vs.length := Paired.length r
end


/-! ### a tracked dict, its keys ints and texts or tuples of these -/
/-- raw entries of a dict with tuple keys -/
abbrev KT (H : Hp) : List (List Key × V) → List (List Key × Addr × Value) → Prop := Paired fun p q => p.1 = q.1 ∧ H q.2.1 = some (.tup (p.1.map kV)) ∧ RelV p.2 q.2.2
theorem KT.val {H : Hp} {kvs : List (List Key × V)} {xs : List (List Key × Addr × Value)} (r : KT H kvs xs) (k : List Key) : RelO (valV kvs k) ((atKey xs k).map (·.2)) := by
  induction r with
  | nil => exact True.intro
  | @cons p q ps qs h t ih =>
    obtain ⟨h1, _, h2⟩ := h
    by_cases e : p.1 = k
    · have e' : q.1 = k := h1.symm.trans e
      have b : atKey (q :: qs) k = some q.2 := by simp [atKey, List.find?_cons, e']
      rw [valV_pos e, b]; exact h2
    · have e' : ¬ q.1 = k := fun z => e (h1.trans z)
      have b : atKey (q :: qs) k = atKey qs k := by simp [atKey, List.find?_cons, e']
      rw [valV_neg e, b]; exact ih
theorem KT.repl {H : Hp} {kvs : List (List Key × V)} {xs : List (List Key × Addr × Value)} (r : KT H kvs xs) (k : List Key) {y : V} {u : Value} (ry : RelV y u) :
    KT H (kvs.map fun kv => if kv.1 = k then (kv.1, y) else kv) (xs.map (putAt k u)) := by
  induction r with
  | nil => exact .nil
  | @cons p q ps qs h t ih =>
    rw [List.map_cons, List.map_cons]
    refine .cons ?_ ih
    obtain ⟨h1, h2, h3⟩ := h
    unfold putAt
    by_cases e : p.1 = k
    · rw [if_pos e, if_pos (h1.symm.trans e)]; exact ⟨h1, h2, ry⟩
    · rw [if_neg e, if_neg (fun z => e (h1.trans z))]; exact ⟨h1, h2, h3⟩
theorem KT.put {H : Hp} {kvs : List (List Key × V)} {xs : List (List Key × Addr × Value)} (r : KT H kvs xs) (k : List Key) {b : Addr} {y : V} {u : Value} (hb : H b = some (.tup (k.map kV))) (ry : RelV y u) :
    KT H (putK kvs k y) (storedH xs k b u) := by
  have e : (kvs.any fun kv => decide (kv.1 = k)) = (atKey xs k).isSome := by
    rw [valV_any, (r.val k).isSome_eq, Option.isSome_map]
  unfold putK storedH
  rw [e]
  by_cases q : (atKey xs k).isSome = true
  · rw [if_pos q, if_pos q]; exact r.repl k ry
  · rw [if_neg q, if_neg q]; exact Paired.snoc r ⟨rfl, hb, ry⟩
theorem KT.keeps {H H' : Hp} {kvs : List (List Key × V)} {xs : List (List Key × Addr × Value)} (r : KT H kvs xs) (ht : ∀ b ys, H b = some (.tup ys) → H' b = some (.tup ys)) : KT H' kvs xs :=
  Paired.mapP r fun _ _ z => ⟨z.1, ht _ _ z.2.1, z.2.2⟩

section
variable {P : Program} {w : World} {H : Hp} {h : Heap} {a : Addr}
end

/-- what the dict at a holds at the key y -/
def DGet (H : Hp) (a : Addr) (y : V) (r : Option V) : Prop :=
  (∃ kvs k, Rd H a (.dK kvs) ∧ y = kV k ∧ r = valV kvs k) ∨ ∃ kvs k b, Rd H a (.dT kvs) ∧ y = .ref b ∧ H b = some (.tup (k.map kV)) ∧ r = valV kvs k
/-- the heap behind a[y] = v -/
def DPut (H : Hp) (a : Addr) (y v : V) (H' : Hp) : Prop :=
  (∃ kvs k, H a = some (.dK kvs) ∧ y = kV k ∧ kvs.length < sizeLine ∧ H' = upd H a (.dK (putK kvs k v))) ∨
  ∃ kvs k b, H a = some (.dT kvs) ∧ y = .ref b ∧ H b = some (.tup (k.map kV)) ∧ kvs.length < sizeLine ∧ H' = upd H a (.dT (putK kvs k v))
theorem DGet.k {H : Hp} {a : Addr} {kvs : List (Key × V)} {k : Key} (e : H a = some (.dK kvs)) : DGet H a (kV k) (valV kvs k) := .inl ⟨kvs, k, .inl e, rfl, rfl⟩
theorem DGet.t {H : Hp} {a b : Addr} {kvs : List (List Key × V)} {k : List Key} (e : H a = some (.dT kvs)) (eb : H b = some (.tup (k.map kV))) : DGet H a (.ref b) (valV kvs k) := .inr ⟨kvs, k, b, .inl e, rfl, eb, rfl⟩
theorem DPut.k {H : Hp} {a : Addr} {kvs : List (Key × V)} {k : Key} {v : V} (e : H a = some (.dK kvs)) (hl : kvs.length < sizeLine) : DPut H a (kV k) v (upd H a (.dK (putK kvs k v))) := .inl ⟨kvs, k, e, rfl, hl, rfl⟩
theorem DPut.t {H : Hp} {a b : Addr} {kvs : List (List Key × V)} {k : List Key} {v : V} (e : H a = some (.dT kvs)) (eb : H b = some (.tup (k.map kV))) (hl : kvs.length < sizeLine) :
    DPut H a (.ref b) v (upd H a (.dT (putK kvs k v))) := .inr ⟨kvs, k, b, e, rfl, eb, hl, rfl⟩


section
variable {X : Cx} {pins : List (Addr × Obj)} {σ : St} {H : Hp} {s : Shared} {a : Addr} {y v : V} {u r : Value} {o : Option V} {A : Around} {E : Value → Shared → Prop}

theorem Inv.big (I : Inv X pins σ H s) : sysModules < s.heap.objs.size := by
  have h : mainGlobals < s.heap.objs.size := (I.mod.glob.keeps I.bk).lt
  exact Nat.lt_trans (by decide) h

end

section
variable {X : Cx} {pins : List (Addr × Obj)} {σ : St} {H : Hp} {s : Shared} {a : Addr} {kvs : List (Key × V)} {k : Key} {u : Value} {A : Around} {E : Value → Shared → Prop}
end


/-! ### readings and rules -/
section
variable {X : Cx} {o i e value : Expr} {pos pos' tpos : Pos} {td ty tv : TE}
end


/-! ### displays -/
section
variable {X : Cx} {pos : Pos}
end

/-! ### methods -/
section
variable {X : Cx} {pins : List (Addr × Obj)} {σ : St} {H : Hp} {s : Shared} {a : Addr} {y d : V} {u r : Value} {o : Option V} {A : Around} {E : Value → Shared → Prop}
end

section
variable {X : Cx} {o e f : Expr} {apos cpos : Pos} {td ty tx : TE}
end

/-! ### dict(d): a copy -/
section
variable {X : Cx} {pins : List (Addr × Obj)} {σ : St} {H : Hp} {s : Shared} {a : Addr} {kvs : List (Key × V)} {A : Around} {E : Value → Shared → Prop}
end


section
variable {X : Cx} {pins : List (Addr × Obj)} {σ : St} {H : Hp} {s : Shared} {a : Addr} {y : V} {u : Value} {A : Around} {E : Value → Shared → Prop}
end
end L2

namespace L2
open PySem PySem.Spec PyProof.Rows

section
variable {prog : Program} {w : World} {A : Around} {E : Value → Shared → Prop}
end

section
variable {X : Cx}
end
end L2

namespace L2
open PySem PySem.Spec PyProof.Rows

theorem boot_reversed5 : bootBuiltins "reversed" = some (.type "reversed") := by decide +kernel

section
variable {X : Cx} {pins : List (Addr × Obj)} {σ : St} {H : Hp} {s : Shared} {h' : Heap}
/-- several records of ours have turned -/
theorem Inv.turnedL {t' : Nat} {ch : List Addr} (I : Inv X pins σ H s) (k : ∀ b o, b ∉ ch → s.heap.get? b = some o → h'.get? b = some o) (hf : ∀ b ∈ ch, FpOk X pins H b) : Inv X pins σ H { s with heap := h', toks := t' } := by
  have nit : ∀ b u, H b = some u → b ∉ ch := fun b u e z => by
    have q := (hf b z).1
    rw [q] at e; cases e
  refine I.step (g' := s.gens) (d' := s.drawn) (ch := ch) (fun b hb => ⟨(hf b hb).2.2.2.1, (hf b hb).2.1, (hf b hb).2.2.2.2.1, (hf b hb).2.2.2.2.2⟩) (fun b o _ _ hc e _ => k b o hc e) (fun b o _ _ hc e _ => ⟨o.slots, k b o hc e⟩)
    (fun _ _ _ _ n => n) (fun b o hc e => ⟨o, k b o hc e⟩) (fun _ _ e => e) (fun _ _ _ e => e) (fun b ps e => ⟨#[], by rw [e]; simp⟩) (fun m hm => ?_) (fun b u e => ?_) I.bare
  · obtain ⟨o, es, ep, ho, r⟩ := hm
    exact ⟨o, es, ep, k _ o (fun z => (hf _ z).2.1 rfl) ho, r⟩
  · refine (I.hok b u e).stay (fun c v hc q => k c v ?_ q) (fun _ q => q) fun _ _ q => q
    rcases hc with z | z
    · rw [z]; exact nit b u e
    · exact nit c _ z
/-- .. and one new object is laid -/
theorem Inv.turnedNew {t' : Nat} {ch : List Addr} {T : Addr} {ob : HO} (I : Inv X pins σ H s) (k : ∀ b o, b ∉ ch → s.heap.get? b = some o → h'.get? b = some o) (hf : ∀ b ∈ ch, FpOk X pins H b) (hT : s.heap.objs.size ≤ T)
    (new : ObjOk X.prog X.w (upd H T ob) h' T ob) : Inv X pins σ (upd H T ob) { s with heap := h', toks := t' } := by
  have hn : H T = none := I.hok.fresh hT
  have nit : ∀ b u, H b = some u → b ∉ ch := fun b u e z => by
    have q := (hf b z).1
    rw [q] at e; cases e
  refine I.step (g' := s.gens) (d' := s.drawn) (ch := ch) (fun b hb => ⟨(hf b hb).2.2.2.1, (hf b hb).2.1, (hf b hb).2.2.2.2.1, (hf b hb).2.2.2.2.2⟩) (fun b o _ _ hc e _ => k b o hc e) (fun b o _ _ hc e _ => ⟨o.slots, k b o hc e⟩)
    (fun b o _ e n => ?_) (fun b o hc e => ⟨o, k b o hc e⟩) (fun b xs e => ?_) (fun b o u e => ?_) (fun b ps e => ⟨#[], ?_⟩) (fun m hm => ?_) (fun b u e => ?_) I.bare
  · rw [upd_ne (Nat.ne_of_lt (Nat.lt_of_lt_of_le (Heap.lt_size e) hT))]; exact n
  · rw [upd_ne (ne_of_none e hn)]; exact e
  · rw [upd_ne (ne_of_none e hn)]; exact e
  · rw [upd_ne (ne_of_none e hn), e]; simp
  · obtain ⟨o, es, ep, ho, r⟩ := hm
    exact ⟨o, es, ep, k _ o (fun z => (hf _ z).2.1 rfl) ho, r⟩
  · by_cases hb : b = T
    · subst hb
      rw [upd_same] at e
      cases e
      exact new
    · rw [upd_ne hb] at e
      refine (I.hok b u e).stay (fun c v hc q => k c v ?_ q) (fun c q => by rw [upd_ne (ne_of_none q hn)]; exact q) fun c xs q => by rw [upd_ne (ne_of_none q hn)]; exact q
      rcases hc with z | z
      · rw [z]; exact nit b u e
      · exact nit c _ z

/-! ### locking a thing while a statement runs -/
end
section
variable {X : Cx}
/-! ### one iterator just laid -/
theorem pi_one {tg : Expr} {pins : List (Addr × Obj)} {σ : St} {H : Hp} {s : Shared} {R : It → Hp → Prop} {J : It} {tn : Nat → Heap → Prop} {tk : Nat} (I : Inv X pins σ H s) (o : Obj)
    (T : Turn X.prog X.w X.K tg J [s.heap.objs.size] s.heap.objs.size tn) (st : tn 0 (s.heap.push o)) (q : R J H) : PIE X pins σ tg R (.ref s.heap.objs.size) { s with heap := s.heap.push o, toks := tk } := by
  refine ⟨s.heap.objs.size, [s.heap.objs.size], tn, J, H, rfl, I.kept fun b ob e => Heap.get?_push_of_some _ e, T, st, fun b hb => ?_, q⟩
  have e : b = s.heap.objs.size := by simpa using hb
  subst e
  exact I.fpOk (Nat.le_refl _) (I.hok.fresh (Nat.le_refl _))
end

/-! ### range with a step -/
/-- range(i, j, c): small bounds, n items -/
def RgC (i j c : Int) (n : Nat) : Prop := c ≠ 0 ∧ c.natAbs < 1073741824 ∧ Builtin.Range.small i j c = true ∧ Builtin.Range.rangeSize i j c = n
theorem RgC.neg {i j : Int} (ha : -(2 ^ 62) ≤ i) (ha' : i < 2 ^ 62) (hb : -(2 ^ 62) ≤ j) (hb' : j < 2 ^ 62) : RgC i j (-1) (i - j).toNat :=
  ⟨by decide, by decide, PySem.W.small_down ha ha' hb hb', PySem.W.rangeSize_downNat i j⟩
section
variable {X : Cx} {tg : Expr}
end
/-! ### reversed(list) -/
/-- the list at a (n items at the start, which the loop leaves there), from its end -/
def Itv (K : PySem.W.Frag) (a : Addr) (n : Nat) : It :=
  ⟨fun i H => i < n ∧ ∃ (xs : List V) (x : V), SqL K H a xs ∧ xs[n - 1 - i]? = some x, fun i H x H' => H' = H ∧ ∀ xs, SqL K H a xs → xs[n - 1 - i]? = some x, fun i _ => n ≤ i⟩
theorem turn_rev {P : Program} {w : World} {K : PySem.W.Frag} {tg : Expr} (a it : Addr) (n : Nat) : Turn P w K tg (Itv K a n) [it] it (fun i h => i ≤ n ∧ h.IsRevIter it a ((n : Int) - 1 - (i : Nat))) where
  mem := by simp
  obj := fun i h st b hb => by
    have e : b = it := by simpa using hb
    subst e
    obtain ⟨_, o, e, c, d⟩ := st
    exact ⟨o, e, fun v z => by rw [d] at z; cases z⟩
  keep := fun i h h' st k => ⟨st.1, st.2.at fun o e => k it (by simp) o e⟩
  item := by
    intro X hP hw hK hc i pins s σ H E I hf st hg
    subst hP hw hK
    obtain ⟨hin, xs, x, hq, hx⟩ := hg
    obtain ⟨its, rv, p, hz⟩ := I.list hq
    obtain ⟨u, hu, ru⟩ := rv.get hx
    obtain ⟨f0, f1, f2, f3, f4, f5⟩ := hf it (by simp)
    obtain ⟨_, hit⟩ := st
    have e1 : (n : Int) - 1 - ((i : Nat) : Int) = ((n - 1 - i : Nat) : Int) := by omega
    rw [e1] at hit
    refine wpAny_pyNext_rev_item hit p.isList (x := u) (by simpa using hu) fun h' st' sb => ?_
    have e2 : ((n - 1 - i : Nat) : Int) - 1 = (n : Int) - 1 - ((i + 1 : Nat) : Int) := by omega
    rw [e2] at st'
    have I1 : Inv X pins σ H { s with heap := h' } := I.turned (t' := s.toks) (fun b o hb e => (sb.2 b hb).trans e) f0 f1 f3 f4 f5
    obtain ⟨o, e, c, d⟩ := id st'
    exact ⟨u, rfl, go_of (s := { s with heap := h' }) e c d (by decide) ⟨x, H, I1, ru, ⟨rfl, fun ys hy => by rw [I.list_inj hy hq]; exact hx⟩, ⟨hin, st'⟩, fun b hb => (hf b hb).1⟩⟩
  done := by
    intro X hP hw hK hc i pins s σ H E I hf st hg
    subst hP hw hK
    obtain ⟨f0, f1, f2, f3, f4, f5⟩ := hf it (by simp)
    obtain ⟨hin, hit⟩ := st
    have hge : n ≤ i := hg
    have e1 : (n : Int) - 1 - ((i : Nat) : Int) = -1 := by omega
    rw [e1] at hit
    exact wpAny_pyNext_rev_end (I.ok.hd hc) hit fun h' eb => ⟨rfl, I.turned (t' := s.toks) (fun b o hb e => eb b o hb e) f0 f1 f3 f4 f5⟩
  self := fun A i s Q E st h => wpAny_pyIter_revIter st.2 h
def iRev (K : PySem.W.Frag) (ta : TA) : TI := fun σ H R => ta σ H fun vs H1 => ∃ (a : Addr) (xs : List V), vs = [.ref a] ∧ SqL K H1 a xs ∧ R (Itv K a xs.length) H1
section
variable {X : Cx} {tg : Expr}
theorem pi_reversed {e : Expr} {ta : TA} {p pos : Pos} (hg : Gl X "reversed") (hm : X.mg "reversed" = none) (ha : PA X [e] ta) (hs : starEach [e] X.env = [(false, eval e X.env)] := by rfl) : PI X tg (.Call (.Name "reversed" p) [e] [] pos) (iRev X.K ta) := by
  intro pins s σ H R I h
  refine Call_ (ld_blt I hg hm boot_reversed5 (PyProof.Rows.callWith_type1 (thn (ha pos pins s σ H _ I h) fun us s1 ⟨vs, H1, I1, r1, q1⟩ => ?_) hs rfl))
  obtain ⟨a, xs, e, hq, q⟩ := q1
  subst e
  cases r1 with
  | cons r rr =>
    cases rr
    cases r
    obtain ⟨its, rv, p', hz⟩ := I1.list hq
    have hl := rv.length
    have e1 : ((its.toArray.size : Nat) : Int) - 1 = (xs.length : Int) - 1 - ((0 : Nat) : Int) := by simp only [List.size_toArray]; omega
    refine call_reversed_list p'.isList (wpAny_pyIter_revIter (l := a) (i := ((its.toArray.size : Nat) : Int) - 1) ⟨_, Heap.get?_push_size _ rfl, rfl, rfl⟩ ?_)
    refine pi_one (tk := s1.toks) I1 _ (turn_rev a _ xs.length) ⟨Nat.zero_le _, ?_⟩ q
    rw [← e1]
    exact ⟨_, Heap.get?_push_size _ rfl, rfl, rfl⟩
end

/-! ### a str -/
def Its (x : Str) : It := ⟨fun i _ => i < x.cps.size, fun i H v H' => H' = H ∧ ∃ c, x.cps[i]? = some c ∧ v = .str ⟨#[c]⟩, fun i _ => x.cps.size ≤ i⟩
theorem turn_str {P : Program} {w : World} {K : PySem.W.Frag} {tg : Expr} (it : Addr) (x : Str) (t : Tok) (ty : String) (hty : ty = "str_ascii_iterator" ∨ ty = "str_iterator") :
    Turn P w K tg (Its x) [it] it (fun i h => h.IsStrIter it ty x t i) where
  mem := by simp
  obj := fun i h st b hb => by
    have e : b = it := by simpa using hb
    subst e
    obtain ⟨o, e, c, d⟩ := st
    exact ⟨o, e, fun v z => by rw [d] at z; cases z⟩
  keep := fun i h h' st k => let ⟨o, ho, r⟩ := st; ⟨o, k it (by simp) o ho, r⟩
  item := by
    intro X hP hw hK hc i pins s σ H E I hf st hg
    subst hP hw hK
    obtain ⟨f0, f1, f2, f3, f4, f5⟩ := hf it (by simp)
    have W : Walks X.prog X.w X.A it [it] [it] x.cps.size (SignAt x) (fun i h => h.IsStrIter it ty x t i) := by
      rcases hty with e | e
      · rw [e]; exact Walks.strAscii (I.ok.hd hc) it x t
      · rw [e]; exact Walks.strWide (I.ok.hd hc) it x t
    have hno : ["enumerate", "zip", "dict_itemiterator", "dict_reverseitemiterator", "odict_iterator", "itertools.zip_longest", "itertools.pairwise"].contains ty = false := by
      rcases hty with e | e
      · rw [e]; decide
      · rw [e]; decide
    refine W.item i s _ _ hg st fun v h' tk hv st' kk => ?_
    obtain ⟨c, u, hcx, rfl⟩ := hv
    have I1 : Inv X pins σ H { s with heap := h', toks := tk } := I.turned (fun b o hb e => kk b o (by simpa using hb) e) f0 f1 f3 f4 f5
    obtain ⟨oi, e, cc, dd⟩ := id st'
    exact ⟨_, rfl, go_of (s := { s with heap := h', toks := tk }) e cc dd hno ⟨.str ⟨#[c]⟩, H, I1, ⟨u, rfl⟩, ⟨rfl, c, hcx, rfl⟩, st', fun b hb => (hf b hb).1⟩⟩
  done := by
    intro X hP hw hK hc i pins s σ H E I hf st hg
    subst hP hw hK
    obtain ⟨f0, f1, f2, f3, f4, f5⟩ := hf it (by simp)
    have hx : x.cps[i]? = none := Array.getElem?_eq_none hg
    rcases hty with e | e
    · rw [e] at st
      exact wpAny_pyNext_ascii_end (I.ok.hd hc) st hx fun h' eb => ⟨rfl, I.turned (t' := s.toks) (fun b o hb e => eb b o hb e) f0 f1 f3 f4 f5⟩
    · rw [e] at st
      exact wpAny_pyNext_wide_end (I.ok.hd hc) st hx fun h' eb => ⟨rfl, I.turned (t' := s.toks) (fun b o hb e => eb b o hb e) f0 f1 f3 f4 f5⟩
  self := fun A i s Q E st h => by
    rcases hty with e | e
    · rw [e] at st; exact wpAny_pyIter_striter_ascii st h
    · rw [e] at st; exact wpAny_pyIter_striter_wide st h
def iStr (te : TE) : TI := fun σ H R => te σ H fun v H1 => ∃ x, v = .str x ∧ R (Its x) H1
theorem pi_str {X : Cx} {tg e : Expr} {te : TE} (he : PE X e te) : PI X tg e (iStr te) := by
  intro pins s σ H R I h
  refine thn (he pins s σ H _ I h) fun v s1 ⟨y, H1, I1, r1, x, ex, q⟩ => ?_
  subst ex
  obtain ⟨t, rfl⟩ := r1
  cases ha : x.cps.all (· < 128)
  · exact wpAny_pyIter_wide ha (pi_one (tk := s1.toks) I1 _ (turn_str _ x t "str_iterator" (.inr rfl)) ⟨_, Heap.get?_push_size _ rfl, rfl, rfl⟩ q)
  · exact wpAny_pyIter_ascii ha (pi_one (tk := s1.toks) I1 _ (turn_str _ x t "str_ascii_iterator" (.inl rfl)) ⟨_, Heap.get?_push_size _ rfl, rfl, rfl⟩ q)

/-! ### a dict's keys: any dict's entries -/
section
variable {prog : Program} {w : World} {A : Around} {E : Value → Shared → Prop} {s : Shared}
end

/-! ### a locked dict -/
section
variable {X : Cx} {pins : List (Addr × Obj)} {σ : St} {H : Hp} {s : Shared} {d : Addr} {o : Obj}
end

section
variable {P : Program} {w : World} {K : PySem.W.Frag} {tg : Expr} {d : Addr} {o : Obj} {es : Array DictEntry} {ep : Nat}
end

/-! ### for k in d, d.keys(), d.values(), d.items() -/
section
variable {X : Cx} {tg e : Expr} {td : TE} {apos cpos : Pos}
end

/-! ### enumerate(list) -/
/-- the list at a as it stands at each turn, each item in a new pair -/
def Ite (K : PySem.W.Frag) (a : Addr) : It :=
  ⟨fun i H => ∃ (xs : List V) (x : V), SqL K H a xs ∧ xs[i]? = some x, fun i H v H' => ∃ T x, v = .ref T ∧ H T = none ∧ H' = upd H T (.tup [.int (i : Nat), x]) ∧ ∀ xs, SqL K H a xs → xs[i]? = some x, fun i H => ∃ xs : List V, SqL K H a xs ∧ xs.length ≤ i⟩
theorem turn_enum {P : Program} {w : World} {K : PySem.W.Frag} {elts : List Expr} {kk : Nat} {tpos : Pos} (a e it : Addr) :
    Turn P w K (.Tuple elts kk tpos) (Ite K a) [e, it] e (fun i h => (∃ old, IsEnum h e it ((i : Nat) : Int) old) ∧ h.IsListIter it a i ∧ e ≠ it) where
  mem := by simp
  obj := fun i h st b hb => by
    obtain ⟨⟨old, he⟩, ⟨o, ho, hc, hd⟩, _⟩ := st
    have e' : b = e ∨ b = it := by simpa using hb
    rcases e' with z | z
    · rw [z]; exact ⟨_, he, fun v q => nomatch q⟩
    · rw [z]; exact ⟨o, ho, fun v q => by rw [hd] at q; cases q⟩
  keep := fun i h h' st k => let ⟨⟨old, he⟩, hi, hne⟩ := st; ⟨⟨old, k e (by simp) _ he⟩, hi.at fun o q => k it (by simp) o q, hne⟩
  item := by
    intro X hP hw hK hc i pins s σ H E I hf st hg
    subst hP hw hK
    obtain ⟨⟨old, he⟩, hit, hne⟩ := st
    obtain ⟨xs, x, hq, hx⟩ := hg
    obtain ⟨its, rv, p, hz⟩ := I.list hq
    obtain ⟨u, hu, ru⟩ := rv.get hx
    have hel : e < s.heap.objs.size := Heap.lt_size he
    have hil : it < s.heap.objs.size := by obtain ⟨_, q, _⟩ := hit; exact Heap.lt_size q
    refine wpAny_pyNext_enum_item he hit p.isList (x := u) (by simpa using hu) hne fun h' ho hit' hT hsz hk => ?_
    refine ⟨_, rfl, wpAny_letOwnedTupleGo_enum (s := { s with heap := h', toks := s.toks + 1 }) ho fun h'' he' sb => ?_⟩
    have hT2 : h''.get? s.heap.objs.size = some { cls := .type "tuple", data := .seq #[.int i s.toks, u] } := (sb.2 _ (Nat.ne_of_gt hel)).trans hT
    have new : ObjOk X.prog X.w (upd H s.heap.objs.size (.tup [.int (i : Nat), x])) h'' s.heap.objs.size (.tup [.int (i : Nat), x]) :=
      ⟨by show 2 ≤ sizeLine; decide, [.int i s.toks, u], .cons ⟨_, rfl⟩ (.cons ru .nil), ⟨_, hT2, rfl, _, rfl⟩⟩
    have I1 : Inv X pins σ (upd H s.heap.objs.size (.tup [.int (i : Nat), x])) { s with heap := h'', toks := s.toks + 1 } :=
      I.turnedNew (ch := [e, it]) (fun b ob hb q => (sb.2 b (fun z => hb (by simp [z]))).trans (hk b ob (fun z => hb (by simp [z])) (fun z => hb (by simp [z])) q)) hf (Nat.le_refl _) new
    refine ⟨.ref s.heap.objs.size, _, I1, rfl, ⟨_, x, rfl, I.hok.fresh (Nat.le_refl _), rfl, fun ys hy => by rw [I.list_inj hy hq]; exact hx⟩, ⟨⟨u, ?_⟩, hit'.at fun o q => (sb.2 it (Ne.symm hne)).trans q, hne⟩, fun b hb => ?_⟩
    · have e1 : ((i + 1 : Nat) : Int) = (i : Int) + 1 := by omega
      rw [e1]; exact he'
    · have hb' : b < s.heap.objs.size := by
        have e' : b = e ∨ b = it := by simpa using hb
        rcases e' with z | z
        · rw [z]; exact hel
        · rw [z]; exact hil
      rw [upd_ne (Nat.ne_of_lt hb')]
      exact (hf b hb).1
  done := by
    intro X hP hw hK hc i pins s σ H E I hf st hg
    subst hP hw hK
    obtain ⟨⟨old, he⟩, hit, hne⟩ := st
    obtain ⟨xs, hq, hx⟩ := hg
    obtain ⟨its, rv, p, hz⟩ := I.list hq
    obtain ⟨f0, f1, f2, f3, f4, f5⟩ := hf it (by simp)
    have hl := rv.length
    exact wpAny_pyNext_enum_end (I.ok.hd hc) he hit p.isList (by simp; omega) fun h' eb => ⟨rfl, I.turned (t' := s.toks) (fun b o hb q => eb b o hb q) f0 f1 f3 f4 f5⟩
  self := fun A i s Q E st h => let ⟨⟨_, he⟩, _⟩ := st; wpAny_pyIter_enum he h
def iEnum (K : PySem.W.Frag) (ta : TA) : TI := fun σ H R => ta σ H fun vs H1 => ∃ a xs, vs = [.ref a] ∧ SqL K H1 a xs ∧ R (Ite K a) H1
theorem pi_enum {X : Cx} {e : Expr} {ta : TA} {p pos tpos : Pos} {elts : List Expr} {kk : Nat} (hg : Gl X "enumerate") (hm : X.mg "enumerate" = none) (ha : PA X [e] ta) (hs : starEach [e] X.env = [(false, eval e X.env)] := by rfl) :
    PI X (.Tuple elts kk tpos) (.Call (.Name "enumerate" p) [e] [] pos) (iEnum X.K ta) := by
  intro pins s σ H R I h
  refine Call_ (ld_blt I hg hm boot_enumerate (PyProof.Rows.callWith_type1 (thn (ha pos pins s σ H _ I h) fun us s1 ⟨vs, H1, I1, r1, q1⟩ => ?_) hs rfl))
  obtain ⟨a, xs, ex, hq, q⟩ := q1
  subst ex
  cases r1 with
  | cons r rr =>
    cases rr
    cases r
    obtain ⟨its, rv, p', hz⟩ := I1.list hq
    refine call_enumerate_list p'.isList fun h' he hit hsz hk => wpAny_pyIter_enum he ?_
    have I2 : Inv X pins σ H1 { s1 with heap := h' } := I1.kept (t' := s1.toks) hk
    refine ⟨s1.heap.objs.size + 1, [s1.heap.objs.size + 1, s1.heap.objs.size], _, _, H1, rfl, I2, turn_enum a (s1.heap.objs.size + 1) s1.heap.objs.size, ⟨⟨.none, he⟩, hit, Nat.succ_ne_self _⟩, fun b hb => ?_, q⟩
    have e' : b = s1.heap.objs.size + 1 ∨ b = s1.heap.objs.size := by simpa using hb
    have hle : s1.heap.objs.size ≤ b := by
      rcases e' with z | z
      · rw [z]; exact Nat.le_add_right _ _
      · rw [z]; exact Nat.le_refl _
    exact I1.fpOk hle (I1.hok.fresh hle)
/-! ### zip(list, list) -/
theorem boot_zip5 : bootBuiltins "zip" = some (.type "zip") := by decide +kernel
/-- the lists at a and b as they stand at each turn, the items in new pairs -/
def Itz (K : PySem.W.Frag) (a b : Addr) : It :=
  ⟨fun i H => ∃ (xs ys : List V) (x y : V), SqL K H a xs ∧ SqL K H b ys ∧ xs[i]? = some x ∧ ys[i]? = some y,
    fun i H v H' => ∃ T x y, v = .ref T ∧ H T = none ∧ H' = upd H T (.tup [x, y]) ∧ (∀ xs, SqL K H a xs → xs[i]? = some x) ∧ ∀ ys, SqL K H b ys → ys[i]? = some y,
    fun i H => ∃ xs ys : List V, SqL K H a xs ∧ SqL K H b ys ∧ (xs.length ≤ i ∨ ys.length ≤ i)⟩
theorem turn_zip {P : Program} {w : World} {K : PySem.W.Frag} {elts : List Expr} {kk : Nat} {tpos : Pos} {a b z TI TO i1 i2 : Addr} (D : ZipApart z TI TO i1 i2 a b) :
    Turn P w K (.Tuple elts kk tpos) (Itz K a b) [z, TI, TO, i1, i2] z (fun i h => IsZip h z TI TO .none ∧ IsPair h TI (.ref i1) (.ref i2) ∧ (∃ x y, IsPair h TO x y) ∧ h.IsListIter i1 a i ∧ h.IsListIter i2 b i) where
  mem := by simp
  obj := fun i h st c hc => by
    obtain ⟨hz, hTI, ⟨x, y, hTO⟩, ⟨o1, e1, _, d1⟩, ⟨o2, e2, _, d2⟩⟩ := st
    have e' : c = z ∨ c = TI ∨ c = TO ∨ c = i1 ∨ c = i2 := by simpa using hc
    rcases e' with q | q | q | q | q
    · rw [q]; exact ⟨_, hz, fun v q => nomatch q⟩
    · rw [q]; exact ⟨_, hTI, fun v q => nomatch q⟩
    · rw [q]; exact ⟨_, hTO, fun v q => nomatch q⟩
    · rw [q]; exact ⟨o1, e1, fun v q => by rw [d1] at q; cases q⟩
    · rw [q]; exact ⟨o2, e2, fun v q => by rw [d2] at q; cases q⟩
  keep := fun i h h' st k => by
    obtain ⟨hz, hTI, ⟨x, y, hTO⟩, h1, h2⟩ := st
    exact ⟨k z (by simp) _ hz, k TI (by simp) _ hTI, ⟨x, y, k TO (by simp) _ hTO⟩, h1.at fun o q => k i1 (by simp) o q, h2.at fun o q => k i2 (by simp) o q⟩
  item := by
    intro X hP hw hK hc i pins s σ H E I hf st hg
    subst hP hw hK
    obtain ⟨hz, hTI, ⟨x0, y0, hTO⟩, h1, h2⟩ := st
    obtain ⟨xs, ys, x, y, hqx, hqy, hx, hy⟩ := hg
    obtain ⟨its, rv, p, _⟩ := I.list hqx
    obtain ⟨its2, rv2, p2, _⟩ := I.list hqy
    obtain ⟨u, hu, ru⟩ := rv.get hx
    obtain ⟨u2, hu2, ru2⟩ := rv2.get hy
    have hzl : z < s.heap.objs.size := Heap.lt_size hz
    refine wpAny_pyNext_zip_item D hz hTI hTO h1 h2 p.isList p2.isList (x := u) (y := u2) (by simpa using hu) (by simpa using hu2) fun h' z' TO' h1' h2' hT hsz hk => ?_
    refine ⟨_, rfl, wpAny_letOwnedTupleGo_zip (s := { s with heap := h' }) z' fun h'' z'' sb => ?_⟩
    have hT2 : h''.get? s.heap.objs.size = some { cls := .type "tuple", data := .seq #[u, u2] } := (sb.2 _ (Nat.ne_of_gt hzl)).trans hT
    have new : ObjOk X.prog X.w (upd H s.heap.objs.size (.tup [x, y])) h'' s.heap.objs.size (.tup [x, y]) :=
      ⟨by show 2 ≤ sizeLine; decide, [u, u2], .cons ru (.cons ru2 .nil), ⟨_, hT2, rfl, _, rfl⟩⟩
    have I1 : Inv X pins σ (upd H s.heap.objs.size (.tup [x, y])) { s with heap := h'' } :=
      I.turnedNew (t' := s.toks) (ch := [z, TI, TO, i1, i2]) (fun c o hb q => (sb.2 c (fun q' => hb (by simp [q']))).trans (hk c o (fun q' => hb (by simp [q'])) (fun q' => hb (by simp [q'])) (fun q' => hb (by simp [q'])) (fun q' => hb (by simp [q'])) q)) hf (Nat.le_refl _) new
    refine ⟨.ref s.heap.objs.size, _, I1, rfl, ⟨_, x, y, rfl, I.hok.fresh (Nat.le_refl _), rfl, fun l hl => by rw [I.list_inj hl hqx]; exact hx, fun l hl => by rw [I.list_inj hl hqy]; exact hy⟩, ⟨z'', ?_, ⟨u, u2, ?_⟩, ?_, ?_⟩, fun c hcm => ?_⟩
    · exact (sb.2 _ D.TIz).trans (hk _ _ D.TIz D.TITO D.TIi1 D.TIi2 hTI)
    · exact (sb.2 _ D.TOz).trans TO'
    · exact h1'.at fun o q => (sb.2 _ D.i1z).trans q
    · exact h2'.at fun o q => (sb.2 _ D.i2z).trans q
    · have hlt : c < s.heap.objs.size := by
        have e' : c = z ∨ c = TI ∨ c = TO ∨ c = i1 ∨ c = i2 := by simpa using hcm
        rcases e' with q | q | q | q | q
        · rw [q]; exact hzl
        · rw [q]; exact Heap.lt_size hTI
        · rw [q]; exact Heap.lt_size hTO
        · rw [q]; obtain ⟨_, e1, _⟩ := h1; exact Heap.lt_size e1
        · rw [q]; obtain ⟨_, e2, _⟩ := h2; exact Heap.lt_size e2
      rw [upd_ne (Nat.ne_of_lt hlt)]
      exact (hf c hcm).1
  done := by
    intro X hP hw hK hc i pins s σ H E I hf st hg
    subst hP hw hK
    obtain ⟨hz, hTI, ⟨x0, y0, hTO⟩, h1, h2⟩ := st
    obtain ⟨xs, ys, hqx, hqy, hend⟩ := hg
    obtain ⟨its, rv, p, _⟩ := I.list hqx
    obtain ⟨its2, rv2, p2, _⟩ := I.list hqy
    have l1 := rv.length
    have l2 := rv2.length
    have he : its.toArray[i]? = none ∨ its2.toArray[i]? = none := by
      rcases hend with q | q
      · exact .inl (by simp; omega)
      · exact .inr (by simp; omega)
    exact wpAny_pyNext_zip_end (I.ok.hd hc) D hz hTI hTO h1 h2 p.isList p2.isList he fun h' hk => ⟨rfl, I.turnedL (t' := s.toks) (ch := [z, TI, TO, i1, i2]) (fun c o hb q =>
      hk c o (fun q' => hb (by simp [q'])) (fun q' => hb (by simp [q'])) (fun q' => hb (by simp [q'])) (fun q' => hb (by simp [q'])) q) hf⟩
  self := fun A i s Q E st h => wpAny_pyIter_zip st.1 h
def iZip (K : PySem.W.Frag) (ta : TA) : TI := fun σ H R => ta σ H fun vs H1 => ∃ a b xs ys, vs = [.ref a, .ref b] ∧ SqL K H1 a xs ∧ SqL K H1 b ys ∧ R (Itz K a b) H1
theorem pi_zip {X : Cx} {e e2 : Expr} {ta : TA} {p pos tpos : Pos} {elts : List Expr} {kk : Nat} (hg : Gl X "zip") (hm : X.mg "zip" = none) (ha : PA X [e, e2] ta)
    (hs : starEach [e, e2] X.env = (false, eval e X.env) :: starEach [e2] X.env := by rfl) (hpl : (backTo pos (starEach [e2] X.env)).any (·.1) = false := by rfl) :
    PI X (.Tuple elts kk tpos) (.Call (.Name "zip" p) [e, e2] [] pos) (iZip X.K ta) := by
  intro pins s σ H R I h
  refine Call_ (ld_blt I hg hm boot_zip5 (PyProof.Rows.callWith_type1 (thn (ha pos pins s σ H _ I h) fun us s1 ⟨vs, H1, I1, r1, q1⟩ => ?_) hs hpl))
  obtain ⟨a, b, xs, ys, ex, hqx, hqy, q⟩ := q1
  subst ex
  cases r1 with
  | cons r rr =>
    cases rr with
    | cons r' rr =>
      cases rr
      cases r
      cases r'
      obtain ⟨its, rv, p1, _⟩ := I1.list hqx
      obtain ⟨its2, rv2, p2, _⟩ := I1.list hqy
      have la : a < s1.heap.objs.size := p1.lt
      have lb : b < s1.heap.objs.size := p2.lt
      refine call_zip_2 p1.isList p2.isList fun h' hz hTI hTO h1 h2 hsz hk => wpAny_pyIter_zip hz ?_
      have I2 : Inv X pins σ H1 { s1 with heap := h' } := I1.kept (t' := s1.toks) hk
      refine ⟨s1.heap.objs.size + 4, [s1.heap.objs.size + 4, s1.heap.objs.size + 2, s1.heap.objs.size + 3, s1.heap.objs.size, s1.heap.objs.size + 1], _, _, H1, rfl, I2, turn_zip (PySem.W.ktu_apart s1.heap.objs.size a b la lb), ⟨hz, hTI, ⟨_, _, hTO⟩, h1, h2⟩, fun c hcm => ?_, q⟩
      have e' : c = s1.heap.objs.size + 4 ∨ c = s1.heap.objs.size + 2 ∨ c = s1.heap.objs.size + 3 ∨ c = s1.heap.objs.size ∨ c = s1.heap.objs.size + 1 := by simpa using hcm
      have hle : s1.heap.objs.size ≤ c := by
        rcases e' with z | z | z | z | z
        · rw [z]; exact Nat.le_add_right _ _
        · rw [z]; exact Nat.le_add_right _ _
        · rw [z]; exact Nat.le_add_right _ _
        · rw [z]; exact Nat.le_refl _
        · rw [z]; exact Nat.le_add_right _ _
      exact I1.fpOk hle (I1.hok.fresh hle)
end L2

section 
namespace Bits
open PySem PyProof.Rows

end Bits
end 

section 
namespace TL
open PySem PySem.Builtin PySem.Builtin.Str PySem.StrLaws

abbrev tl (x : Str) : List Nat := x.cps.toList
/-! ### the list functions -/
/-- S stands at the head of l -/
def pre (S l : List Nat) : Bool := l.take S.length == S
/-- l cut at each S from the left; k signs are still to be passed over -/
def spl (S : List Nat) : Nat → List Nat → List Nat → List (List Nat)
  | _, acc, [] => [acc]
  | 0, acc, c :: r => if pre S (c :: r) = true then acc :: spl S (S.length - 1) [] r else spl S 0 (acc ++ [c]) r
  | k + 1, acc, _ :: r => spl S k acc r
/-- what stands before the first S, and behind it -/
def par (S : List Nat) : List Nat → List Nat → Option (List Nat × List Nat)
  | _, [] => none
  | acc, c :: r => if pre S (c :: r) = true then some (acc, (c :: r).drop S.length) else par S (acc ++ [c]) r

/-! ### the model's split and partition are these -/
/-! ### computing spl and par -/
/-! ### digits -/
/-! ### words: x.split() -/
end TL
end 

namespace L2
open PySem PySem.Spec PyProof.Rows

section
variable {X : Cx} {pins : List (Addr × Obj)} {σ : St} {H : Hp} {s : Shared} {Q : VK}
end

section
variable {X : Cx}

/-! ### of a text alone -/
/-! ### of a text and a text -/
end

section
variable {X : Cx} {o e : Expr} {to te : TE}
end
end L2

namespace L2
open PySem PySem.Spec PyProof.Rows

section
variable {X : Cx}
end

/-! ### slices of a text -/
theorem IsPart.raw {v : Value} {o : Option Int} (p : IsPart v o) : ∃ l : Option (Int × Tok), v = partValue l ∧ l.map (·.1) = o := by
  cases p with
  | none => exact ⟨none, rfl, rfl⟩
  | int i t => exact ⟨some (i, t), rfl, rfl⟩

end L2

namespace Att
open PySem PySem.W PySem.Calls PyProof.Rows

/-! ### the script -/
/-! ### the attachment: holds_open's last premise (the goal 'hc' behind k_head) from a wpAny of the law's body -/
/-! ### rules over ANY heap (no ledger) from facts about the written part K: the library's own take a ledger (News) for what they write -/
section
variable {prog : Program} {w : World} {A : Around} {E : Value → Shared → Prop} {s : Shared} {K : Frag}

/-! the whole heap as the ledger: makes every rule that writes through a ledger a rule over any heap -/
def ledger (h : Heap) (L d : Addr) : List (Addr × Obj) := (List.range h.objs.size).filterMap fun a => if a = L ∨ a = d then none else (h.get? a).map fun o => (a, o)
end
end Att

namespace L2
open PySem PySem.Spec PyProof.Rows

end L2

namespace L2
open PySem PySem.Spec PyProof.Rows

end L2



/-! SHORT WORDS over the layer: a def of the text, its body, what a loop and a test want. -/
namespace L2
open PySem PySem.Spec PyProof.Rows

/-! ### the text by places -/
/-- the j-th statement of a class's body -/
def inClass (s : Stmt) (j : Nat) : Stmt := match s with
  | .ClassDef _ _ _ body _ _ _ _ _ _ _ => body.getD j (.Pass ⟨0, 0, 0, 0⟩)
  | _ => .Pass ⟨0, 0, 0, 0⟩
def defArgs (s : Stmt) : Arguments := match s with
  | .FunctionDef _ a _ _ _ _ _ _ _ _ => a
  | _ => { posonlyargs := [], args := [], vararg := none, kwonlyargs := [], kw_defaults := [], kwarg := none, defaults := [] }
def defBody (s : Stmt) : List Stmt := match s with
  | .FunctionDef _ _ b _ _ _ _ _ _ _ => b
  | _ => []
def defScope (s : Stmt) : Scope := match s with
  | .FunctionDef _ _ _ _ _ _ sc _ _ _ => sc
  | _ => { kind := .function, names := [], isGenerator := false, isCoroutine := false }

/-! ### no exception leaves a def -/
abbrev CX0 : CXT := fun _ _ _ _ _ _ => False
abbrev E0 : XK := fun _ _ _ => False
theorem pass0 {X : Cx} : Passes CX0 X E0 := fun _ _ _ _ _ _ _ h => h.elim

/-! ### a def (or method) of the text as it stands behind the top -/
structure Fun (K : PySem.W.Frag) (x qual : Str) (st : Stmt) (f : Addr) (fd : FuncData) : Prop where
  ex : ∃ (oc : Value) (od : Option Addr) (kV doc pm : Value) (an : Option Addr) (cdv ct : Value) (osl : Array (Option Value)),
    fd = PySem.W.fnOf x qual (defArgs st) (defBody st) (defScope st) .none kV doc pm an cdv ct ∧ K.lookup f = some ⟨oc, od, .func fd, osl⟩ ∧ PySem.W.codeIn K cdv qual = true
  kp : PySem.W.keepIn K (.ref f) = true
section
variable {P : Program} {w : World} {K : PySem.W.Frag} {mg : Str → Option Value} {base : Heap}
/-- THE RULE for a def: its body as a term of rules, and the reading of that term -/
theorem Fun.ok {x qual : Str} {st : Stmt} {f : Addr} {fd : FuncData} {N ps : List Str} {k : Nat} {sp : Sp} (F : Fun K x qual st f fd) (S : FnScope N ps (defScope st)) (len : ∀ vs H Q E, sp vs H Q E → vs.length = ps.length)
    (hbody : ∀ (cdv : Value) (A : Around) (outer : List Env) (s : Shared) (H : Hp) (vs : List V) (Q : VK) (E : XK), Room k (A.deeper (envOfC qual (defScope st) s.heap.objs.size f cdv)) → sp vs H Q E →
      ∃ t, PSs (cxOf CX0 P w K mg base N qual (defScope st) f cdv A outer s H E).nox (defBody st) t ∧ t { nx := fun _ H' => Q .non H', rt := Q } (start N vs) H) : FnOk P w K mg base CX0 (k + 1) f fd ps sp := by
  obtain ⟨oc, od, kV, doc, pm, an, cdv, ct, osl, rfl, lk, hcd⟩ := F.ex
  refine fn_of lk hcd S len fun A outer s H vs Q E hr hsp => ?_
  obtain ⟨t, h, q⟩ := hbody cdv A outer s H vs Q E hr hsp
  exact ⟨t, h.nox, q⟩
/-- how its arguments bind (no defaults): h is «fun _ _ _ _ _ _ us hl => match us, hl with | [_, _], _ => rfl», one _ a parameter -/
theorem Fun.binds {x qual : Str} {st : Stmt} {f : Addr} {fd : FuncData} {ps : List Str} (F : Fun K x qual st f fd)
    (h : ∀ (kV doc pm : Value) (an : Option Addr) (cdv ct : Value) (us : List Value), us.length = ps.length → bindArgs (PySem.W.fnOf x qual (defArgs st) (defBody st) (defScope st) .none kV doc pm an cdv ct) ⟨us, []⟩ = pure (ps.zip us)) : Binds K fd ps [] := by
  obtain ⟨oc, od, kV, doc, pm, an, cdv, ct, osl, rfl, lk, hcd⟩ := F.ex
  exact .all (h kV doc pm an cdv ct)
theorem fun_mk {x qual : Str} {st : Stmt} {f : Addr} {oc : Value} {od an : Option Addr} {osl : Array (Option Value)} {kV doc pm cdv ct : Value} (l : K.lookup f = some ⟨oc, od, .func (PySem.W.fnOf x qual (defArgs st) (defBody st) (defScope st) .none kV doc pm an cdv ct), osl⟩)
    (c : PySem.W.codeIn K cdv qual = true) (k : PySem.W.keepIn K (.ref f) = true) : Fun K x qual st f (PySem.W.fnOf x qual (defArgs st) (defBody st) (defScope st) .none kV doc pm an cdv ct) := ⟨⟨oc, od, kV, doc, pm, an, cdv, ct, osl, rfl, l, c⟩, k⟩
end
/-! ### expressions in short: the name that stands in the i-th slot -/
section
variable {X : Cx}
theorem pv (i : Nat) {x : Str} {pos : Pos} (hN : X.N[i]? = some x := by rfl) (hv : Vis X.env.scope x := by first | exact Or.inl rfl | exact Or.inr (Or.inl rfl) | exact Or.inr (Or.inr rfl)) (hd : (x == ("__debug__" : Str)) = false := by decide)
    (hcd : (x == ("__classdict__" : Str)) = false := by decide) : PE X (.Name x pos) (tVar i) := pe_var hN hv hd hcd
end

/-! ### tests -/
theorem iteF {A B : Prop} (h : B) : if false = true then A else B := by
  rw [if_neg Bool.false_ne_true]
  exact h
theorem iteT {A B : Prop} (h : A) : if true = true then A else B := by
  rw [if_pos rfl]
  exact h
theorem ite2 {c A B : Prop} [Decidable c] (h1 : c → A) (h2 : ¬ c → B) : if c then A else B := by
  by_cases h : c
  · rw [if_pos h]
    exact h1 h
  · rw [if_neg h]
    exact h2 h
/-! ### heaps -/
/-- all that was tracked is as it was -/
def Same (H H' : Hp) : Prop := ∀ b o, H b = some o → H' b = some o
theorem Same.refl (H : Hp) : Same H H := fun _ _ h => h
theorem Same.trans {H H1 H2 : Hp} (a : Same H H1) (b : Same H1 H2) : Same H H2 := fun c o h => b c o (a c o h)
theorem Same.free {H H' : Hp} (e : Same H H') {l : Addr} (h : H' l = Option.none) : H l = Option.none := by
  cases q : H l with
  | none => rfl
  | some o =>
    rw [e l o q] at h
    cases h
theorem Same.seq {K : PySem.W.Frag} {H H' : Hp} {a : Addr} {xs : List V} (e : Same H H') (h : SqL K H a xs) : SqL K H' a xs := by
  rcases h with (h | ⟨o, h⟩) | h
  · exact .inl (.inl (e _ _ h))
  · exact .inl (.inr ⟨o, e _ _ h⟩)
  · exact .inr h

/-! ### a dict's pairs: keys that differ -/
section
variable {κ : Type} [DecidableEq κ]
end
/-! ### lists -/
/-- a new instance and its __init__ leave all that was tracked as it was -/
theorem Same.made {H H1 : Hp} {x dx C : Addr} (nx : H x = Option.none) (nd : H dx = Option.none) (k : ∀ b o, (upd (upd H dx (.own x)) x (.ins C dx [])) b = some o → b ≠ x → H1 b = some o) : Same H H1 := fun b o e =>
  k b o (by rw [upd_ne (ne_of_none e nx), upd_ne (ne_of_none e nd)]; exact e) (ne_of_none e nx)
end L2

section
set_option Elab.async false
set_option linter.all false
set_option maxRecDepth 100000
set_option maxHeartbeats 2000000
namespace L2
open PySem PySem.Spec PyProof.Rows
open PySem.W (WData Codec OpenSpec Well WellAll ReadsW ReadsAllW)
/-! ### an answer as data -/
mutual
/-- x stands for the datum d, lists and tuples all the way -/
inductive Dw (K : PySem.W.Frag) (H : Hp) : V → WData → Prop
  | non : Dw K H .non .none
  | bl (b : Bool) : Dw K H (.bl b) (.bool b)
  | int (i : Int) : Dw K H (.int i) (.int i)
  | str (x : Str) : Dw K H (.str x) (.str x)
  | byt (b : Array UInt8) : Dw K H (.byt b) (.bytes b.toList)
  | lst {a : Addr} {xs : List V} {ds : List WData} : SqL K H a xs → DwAll K H xs ds → Dw K H (.ref a) (.list ds)
  | tup {a : Addr} {xs : List V} {ds : List WData} : SqT K H a xs → DwAll K H xs ds → Dw K H (.ref a) (.tuple ds)
inductive DwAll (K : PySem.W.Frag) (H : Hp) : List V → List WData → Prop
  | nil : DwAll K H [] []
  | cons {v : V} {vs : List V} {d : WData} {ds : List WData} : Dw K H v d → DwAll K H vs ds → DwAll K H (v :: vs) (d :: ds)
end
theorem dw_ints {K : PySem.W.Frag} {H : Hp} : ∀ ns : List Int, DwAll K H (ns.map V.int) (ns.map WData.int)
  | [] => .nil
  | n :: r => .cons (.int n) (dw_ints r)
theorem ints_dw {K : PySem.W.Frag} {H : Hp} : ∀ (ns : List Int) (xs : List V), DwAll K H xs (ns.map WData.int) → xs = ns.map V.int
  | [], xs, h => by
    cases h
    rfl
  | n :: r, xs, h => by
    cases h with
    | cons h1 h2 =>
      cases h1
      rw [ints_dw r _ h2] <;> rfl
section
variable {P : Program} {w : World} {K : PySem.W.Frag} {H : Hp} {h : Heap} {R : PySem.W.WRecords} {cl : Str → Option Addr}
theorem sqL_at {a : Addr} {xs : List V} (hok : HOk P w H h) (KX : K.In h) (q : SqL K H a xs) : ∃ (its : List Value) (o : Obj) (n : Nat), Vals xs its ∧ h.get? a = some o ∧ o.cls = .type "list" ∧ o.data = .seq its.toArray n := by
  rcases q with q | ⟨o, its, n, e, hc, _, hd, _, hv⟩
  · obtain ⟨_, its, n, hv, e⟩ := (show ObjOk P w H h a (.lst xs) from q.ok hok)
    exact ⟨its, _, n, hv, e, rfl, rfl⟩
  · exact ⟨its.toList, o, n, hv, KX _ _ e, hc, by simp [hd]⟩
theorem sqT_at {a : Addr} {xs : List V} (hok : HOk P w H h) (KX : K.In h) (q : SqT K H a xs) : ∃ (its : List Value) (o : Obj) (n : Nat), Vals xs its ∧ h.get? a = some o ∧ o.cls = .type "tuple" ∧ o.data = .seq its.toArray n := by
  rcases q with q | ⟨o, its, n, e, hc, hd, _, hv⟩
  · obtain ⟨_, its, hv, o, e, hc, n, hd⟩ := (show ObjOk P w H h a (.tup xs) from q.ok hok)
    exact ⟨its, o, n, hv, e, hc, hd⟩
  · exact ⟨its.toList, o, n, hv, KX _ _ e, hc, by simp [hd]⟩
mutual
theorem Dw.reads (hok : HOk P w H h) (KX : K.In h) : ∀ (d : WData) (v : V) (u : Value), Dw K H v d → RelV v u → ∃ as, ReadsW R cl h u d as
  | .none, _, _, x, r => by
    cases x
    cases r
    exact ⟨_, ReadsW.none⟩
  | .bool b, _, _, x, r => by
    cases x
    cases r
    exact ⟨_, ReadsW.bool b⟩
  | .int i, _, _, x, r => by
    cases x
    obtain ⟨t, rfl⟩ := r
    exact ⟨_, ReadsW.int i t⟩
  | .str s, _, _, x, r => by
    cases x
    obtain ⟨t, rfl⟩ := r
    exact ⟨_, ReadsW.str s t⟩
  | .bytes b, _, _, x, r => by
    cases x
    obtain ⟨t, rfl⟩ := r
    exact ⟨_, ReadsW.bytes _ t⟩
  | .list ds, _, _, x, r => by
    cases x with
    | lst hs ha =>
      cases r
      obtain ⟨its, o, n, rv, ho, hc, hd⟩ := sqL_at hok KX hs
      obtain ⟨as, hr⟩ := Dw.readsAll hok KX ds _ its ha rv
      exact ⟨_, ReadsW.list ho hc hd hr⟩
  | .tuple ds, _, _, x, r => by
    cases x with
    | tup hs ha =>
      cases r
      obtain ⟨its, o, n, rv, ho, hc, hd⟩ := sqT_at hok KX hs
      obtain ⟨as, hr⟩ := Dw.readsAll hok KX ds _ its ha rv
      exact ⟨_, ReadsW.tuple ho hc hd hr⟩
  | .float _, _, _, x, _ => by cases x
  | .dict _, _, _, x, _ => by cases x
  | .bytearray _, _, _, x, _ => by cases x
  | .set _, _, _, x, _ => by cases x
  | .frozenset _, _, _, x, _ => by cases x
  | .obj _ _, _, _, x, _ => by cases x
theorem Dw.readsAll (hok : HOk P w H h) (KX : K.In h) : ∀ (ds : List WData) (vs : List V) (us : List Value), DwAll K H vs ds → Vals vs us → ∃ as, ReadsAllW R cl h us ds as
  | [], _, _, x, r => by
    cases x
    cases r
    exact ⟨_, ReadsAllW.nil⟩
  | d :: ds, _, _, x, r => by
    cases x with
    | cons h1 h2 =>
      cases r with
      | cons r1 r2 =>
        obtain ⟨as, q1⟩ := Dw.reads hok KX d _ _ h1 r1
        obtain ⟨bs, q2⟩ := Dw.readsAll hok KX ds _ _ h2 r2
        exact ⟨_, ReadsAllW.cons q1 q2⟩
end
end
/-! ### the arguments -/
mutual
/-- data that a codec tells -/
def plW : WData → Bool
  | .none => true
  | .bool _ => true
  | .int _ => true
  | .str _ => true
  | .bytes _ => true
  | .list xs => plWs xs
  | .tuple xs => plWs xs
  | _ => false
def plWs : List WData → Bool
  | [] => true
  | x :: r => plW x && plWs r
end
theorem plWs_map {α : Type} {f : α → WData} (h : ∀ a, plW (f a) = true) : ∀ l : List α, plWs (l.map f) = true
  | [] => rfl
  | x :: r => by
    show (plW (f x) && plWs (r.map f)) = true
    rw [h x, plWs_map h r] <;> rfl
theorem pl_enc : ∀ (c : Codec) (a : c.denote), plW (c.enc a) = true
  | .unit, _ => rfl
  | .bool, _ => rfl
  | .int _ _, _ => rfl
  | .nat _ _, _ => rfl
  | .u8, _ => rfl
  | .bytes _ _, _ => rfl
  | .text _ _ _ _, _ => rfl
  | .list _ _ c, a => plWs_map (fun x => pl_enc c x) a
  | .pair c d, a => by
    show (plW (c.enc a.1) && (plW (d.enc a.2) && true)) = true
    rw [pl_enc c a.1, pl_enc d a.2] <;> rfl
  | .triple c d e, a => by
    show (plW (c.enc a.1) && (plW (d.enc a.2.1) && (plW (e.enc a.2.2) && true))) = true
    rw [pl_enc c a.1, pl_enc d a.2.1, pl_enc e a.2.2] <;> rfl
  | .option c, none => rfl
  | .option c, some x => pl_enc c x
theorem pl_encAll : ∀ (cs : List Codec) (a : Codec.denoteAll cs), plWs (Codec.encAll cs a) = true
  | [], _ => rfl
  | c :: cs, a => by
    show (plW (c.enc a.1) && plWs (Codec.encAll cs a.2)) = true
    rw [pl_enc c a.1, pl_encAll cs a.2] <;> rfl
theorem weight_mem : ∀ {xs : List WData} {d : WData}, d ∈ xs → d.weight ≤ WData.weightAll xs
  | [], d, h => absurd h (by simp)
  | x :: r, d, h => by
    show d.weight ≤ x.weight + 1 + WData.weightAll r
    rcases List.mem_cons.mp h with e | m
    · rw [e]
      omega
    · have z := weight_mem m
      omega
def toV : Value → V
  | .none => .non
  | .bool b => .bl b
  | .int i _ => .int i
  | .str x _ => .str x
  | .bytes b _ => .byt b
  | .ref a => .ref a
  | _ => .non
/-- a value of the arguments, its objects among A -/
def OkU (A : List Addr) : Value → Prop
  | .none => True
  | .bool _ => True
  | .int _ _ => True
  | .str _ _ => True
  | .bytes _ _ => True
  | .ref a => a ∈ A
  | _ => False
theorem OkU.mono {A B : List Addr} (h : ∀ a ∈ A, a ∈ B) : ∀ {u : Value}, OkU A u → OkU B u := fun {u} x => by
  cases u with
  | ref a => exact h a x
  | none => trivial
  | bool b => trivial
  | int i t => trivial
  | str s t => trivial
  | bytes b t => trivial
  | _ => exact False.elim x
theorem relV_toV {A : List Addr} {u : Value} (x : OkU A u) : RelV (toV u) u := by
  cases u with
  | ref a => rfl
  | none => rfl
  | bool b => rfl
  | int i t => exact ⟨t, rfl⟩
  | str s t => exact ⟨t, rfl⟩
  | bytes b t => exact ⟨t, rfl⟩
  | _ => exact False.elim x
theorem vals_toV {A : List Addr} : ∀ {vs : List Value}, (∀ u ∈ vs, OkU A u) → Vals (vs.map toV) vs
  | [], _ => .nil
  | u :: r, h => .cons (relV_toV (h u (List.mem_cons_self ..))) (vals_toV fun x hx => h x (List.mem_cons_of_mem _ hx))
/-- an object of the arguments -/
def ArgOb (h : Heap) (A : List Addr) (a : Addr) : Prop := ∃ vs : List Value, vs.length ≤ sizeLine ∧ (∀ u ∈ vs, OkU A u) ∧
  (h.get? a = some { cls := .type "list", data := .seq vs.toArray } ∨ h.get? a = some { cls := .type "tuple", data := .seq vs.toArray })
theorem ArgOb.mono {h : Heap} {A B : List Addr} {a : Addr} (k : ∀ a ∈ A, a ∈ B) (x : ArgOb h A a) : ArgOb h B a := by
  obtain ⟨vs, h1, h2, h3⟩ := x
  exact ⟨vs, h1, fun u hu => (h2 u hu).mono k, h3⟩
theorem wellAll_len {P : Params} {h : Heap} : ∀ {vs : List Value} {ds : List WData}, WellAll P h vs ds → vs.length = ds.length
  | _, _, .nil => rfl
  | _, _, .cons _ b => by
    show _ + 1 = _ + 1
    rw [wellAll_len b]
theorem well_list {P : Params} {h : Heap} {v : Value} {ds : List WData} (x : Well P h v (.list ds)) : ∃ (a : Addr) (vs : List Value), v = .ref a ∧ h.get? a = some { cls := .type "list", data := .seq vs.toArray } ∧ WellAll P h vs ds := by
  cases x with
  | list ho hall => exact ⟨_, _, rfl, ho, hall⟩
theorem well_tuple {P : Params} {h : Heap} {v : Value} {ds : List WData} (x : Well P h v (.tuple ds)) : ∃ (a : Addr) (vs : List Value), v = .ref a ∧ h.get? a = some { cls := .type "tuple", data := .seq vs.toArray } ∧ WellAll P h vs ds := by
  cases x with
  | tuple ho hall => exact ⟨_, _, rfl, ho, hall⟩
theorem well_cons {P : Params} {h : Heap} {us : List Value} {d : WData} {ds : List WData} (x : WellAll P h us (d :: ds)) : ∃ (v : Value) (vs : List Value), us = v :: vs ∧ Well P h v d ∧ WellAll P h vs ds := by
  cases x with
  | cons a b => exact ⟨_, _, rfl, a, b⟩
theorem line_of {n : Nat} (h : n ≤ 1048576) : n ≤ sizeLine := Nat.le_trans h (by decide)
section
variable {P : Params} {h : Heap}
mutual
theorem area_one : ∀ (d : WData) (v : Value), Well P h v d → plW d = true → d.weight ≤ 1048576 → ∃ A : List Addr, OkU A v ∧ ∀ a ∈ A, ArgOb h A a
  | .none, _, x, _, _ => by
    cases x
    exact ⟨[], trivial, fun a m => absurd m (by simp)⟩
  | .bool b, _, x, _, _ => by
    cases x
    exact ⟨[], trivial, fun a m => absurd m (by simp)⟩
  | .int i, _, x, _, _ => by
    cases x
    exact ⟨[], trivial, fun a m => absurd m (by simp)⟩
  | .str s, _, x, _, _ => by
    cases x
    exact ⟨[], trivial, fun a m => absurd m (by simp)⟩
  | .bytes b, _, x, _, _ => by
    cases x
    exact ⟨[], trivial, fun a m => absurd m (by simp)⟩
  | .list ds, _, x, p, z => by
    obtain ⟨a, vs, rfl, ho, hall⟩ := well_list x
    have z2 : WData.weightAll ds ≤ 1048576 := z
    obtain ⟨A, h1, h2⟩ := area_all ds _ hall p fun d hd => Nat.le_trans (weight_mem hd) z2
    have k : ∀ b ∈ A, b ∈ a :: A := fun b hb => List.mem_cons_of_mem _ hb
    refine ⟨a :: A, List.mem_cons_self .., fun b hb => ?_⟩
    rcases List.mem_cons.mp hb with e | m
    · rw [e]
      exact ⟨vs, line_of (by rw [wellAll_len hall]; exact Nat.le_trans (PySem.W.length_le_weightAllW ds) z2), fun u hu => (h1 u hu).mono k, .inl ho⟩
    · exact (h2 b m).mono k
  | .tuple ds, _, x, p, z => by
    obtain ⟨a, vs, rfl, ho, hall⟩ := well_tuple x
    have z2 : WData.weightAll ds ≤ 1048576 := z
    obtain ⟨A, h1, h2⟩ := area_all ds _ hall p fun d hd => Nat.le_trans (weight_mem hd) z2
    have k : ∀ b ∈ A, b ∈ a :: A := fun b hb => List.mem_cons_of_mem _ hb
    refine ⟨a :: A, List.mem_cons_self .., fun b hb => ?_⟩
    rcases List.mem_cons.mp hb with e | m
    · rw [e]
      exact ⟨vs, line_of (by rw [wellAll_len hall]; exact Nat.le_trans (PySem.W.length_le_weightAllW ds) z2), fun u hu => (h1 u hu).mono k, .inr ho⟩
    · exact (h2 b m).mono k
  | .float _, _, _, p, _ => Bool.noConfusion (show false = true from p)
  | .dict _, _, _, p, _ => Bool.noConfusion (show false = true from p)
  | .bytearray _, _, _, p, _ => Bool.noConfusion (show false = true from p)
  | .set _, _, _, p, _ => Bool.noConfusion (show false = true from p)
  | .frozenset _, _, _, p, _ => Bool.noConfusion (show false = true from p)
  | .obj _ _, _, _, p, _ => Bool.noConfusion (show false = true from p)
theorem area_all : ∀ (ds : List WData) (vs : List Value), WellAll P h vs ds → plWs ds = true → (∀ d ∈ ds, d.weight ≤ 1048576) → ∃ A : List Addr, (∀ u ∈ vs, OkU A u) ∧ ∀ a ∈ A, ArgOb h A a
  | [], _, x, _, _ => by
    cases x
    exact ⟨[], fun u m => absurd m (by simp), fun a m => absurd m (by simp)⟩
  | d :: ds, _, x, p, z => by
    obtain ⟨v, vs, rfl, x1, x2⟩ := well_cons x
    have q : plW d = true ∧ plWs ds = true := Bool.and_eq_true_iff.mp p
    obtain ⟨A, a1, a2⟩ := area_one d v x1 q.1 (z d (List.mem_cons_self ..))
    obtain ⟨B, b1, b2⟩ := area_all ds vs x2 q.2 fun e he => z e (List.mem_cons_of_mem _ he)
    have kA : ∀ b ∈ A, b ∈ A ++ B := fun b hb => List.mem_append.mpr (.inl hb)
    have kB : ∀ b ∈ B, b ∈ A ++ B := fun b hb => List.mem_append.mpr (.inr hb)
    refine ⟨A ++ B, fun u hu => ?_, fun b hb => ?_⟩
    · rcases List.mem_cons.mp hu with e | m
      · rw [e]
        exact a1.mono kA
      · exact (b1 u m).mono kB
    · rcases List.mem_append.mp hb with m | m
      · exact (a2 b m).mono kA
      · exact (b2 b m).mono kB
end
end
/-- what is tracked of an argument's object -/
def hoOf (o : Obj) : Option HO := match o.data with
  | .seq vs _ => if (o.cls == Value.type "list") = true then some (.frz o (.lst (vs.toList.map toV))) else some (.frz o (.tup (vs.toList.map toV)))
  | _ => none
def argH (K : PySem.W.Frag) (h : Heap) (A : List Addr) : Hp := fun b => if b ∈ A then (if (K.lookup b).isNone = true then (h.get? b).bind hoOf else none) else none
/-- nothing is tracked but what is known to the object -/
def OnlyF (H : Hp) : Prop := ∀ b, H b = none ∨ ∃ o u, H b = some (.frz o u)
theorem hoOf_lst (vs : List Value) : hoOf { cls := .type "list", data := .seq vs.toArray } = some (.frz { cls := .type "list", data := .seq vs.toArray } (.lst (vs.map toV))) := by
  show (if (Value.type "list" == Value.type "list") = true then some (HO.frz { cls := .type "list", data := .seq vs.toArray } (.lst (vs.toArray.toList.map toV))) else some (HO.frz { cls := .type "list", data := .seq vs.toArray } (.tup (vs.toArray.toList.map toV)))) = _
  rw [if_pos (beq_self_eq_true _)]
theorem hoOf_tup (vs : List Value) : hoOf { cls := .type "tuple", data := .seq vs.toArray } = some (.frz { cls := .type "tuple", data := .seq vs.toArray } (.tup (vs.map toV))) := by
  show (if (Value.type "tuple" == Value.type "list") = true then some (HO.frz { cls := .type "tuple", data := .seq vs.toArray } (.lst (vs.toArray.toList.map toV))) else some (HO.frz { cls := .type "tuple", data := .seq vs.toArray } (.tup (vs.toArray.toList.map toV)))) = _
  rw [if_neg (by decide)]
section
variable {P : Program} {w : World} {K : PySem.W.Frag} {h : Heap} {A : List Addr}
theorem argH_at {b : Addr} {o : Obj} (hb : b ∈ A) (hk : K.lookup b = none) (e : h.get? b = some o) : argH K h A b = hoOf o := by
  unfold argH
  rw [if_pos hb, hk, if_pos (show (none : Option Obj).isNone = true from rfl), e] <;> rfl
theorem of_argH {b : Addr} {u : HO} (q : argH K h A b = some u) : b ∈ A ∧ K.lookup b = none := by
  unfold argH at q
  by_cases hb : b ∈ A
  · rw [if_pos hb] at q
    cases hk : K.lookup b with
    | none => exact ⟨hb, rfl⟩
    | some o =>
      rw [hk, if_neg (by simp)] at q
      cases q
  · rw [if_neg hb] at q
    cases q
/-- what stands tracked -/
theorem argH_is (ar : ∀ a ∈ A, ArgOb h A a) {b : Addr} {u : HO} (q : argH K h A b = some u) : K.lookup b = none ∧ ∃ vs : List Value, vs.length ≤ sizeLine ∧ (∀ u ∈ vs, OkU A u) ∧
    ((h.get? b = some { cls := .type "list", data := .seq vs.toArray } ∧ u = .frz { cls := .type "list", data := .seq vs.toArray } (.lst (vs.map toV))) ∨
     (h.get? b = some { cls := .type "tuple", data := .seq vs.toArray } ∧ u = .frz { cls := .type "tuple", data := .seq vs.toArray } (.tup (vs.map toV)))) := by
  obtain ⟨hb, hk⟩ := of_argH q
  obtain ⟨vs, h1, h2, h3⟩ := ar b hb
  refine ⟨hk, vs, h1, h2, ?_⟩
  rcases h3 with e | e
  · rw [argH_at hb hk e, hoOf_lst] at q
    exact .inl ⟨e, (Option.some.inj q).symm⟩
  · rw [argH_at hb hk e, hoOf_tup] at q
    exact .inr ⟨e, (Option.some.inj q).symm⟩
theorem argH_only (ar : ∀ a ∈ A, ArgOb h A a) : OnlyF (argH K h A) := fun b => by
  cases q : argH K h A b with
  | none => exact .inl rfl
  | some u =>
    obtain ⟨_, vs, _, _, ⟨_, e⟩ | ⟨_, e⟩⟩ := argH_is ar q
    · exact .inr ⟨_, _, by rw [e]⟩
    · exact .inr ⟨_, _, by rw [e]⟩
theorem argH_ok (ar : ∀ a ∈ A, ArgOb h A a) : HOk P w (argH K h A) h := fun b u q => by
  obtain ⟨_, vs, h1, h2, ⟨e, rfl⟩ | ⟨e, rfl⟩⟩ := argH_is ar q
  · exact ⟨e, by rw [List.length_map]; exact h1, vs, _, vals_toV h2, e⟩
  · exact ⟨e, by rw [List.length_map]; exact h1, vs, vals_toV h2, _, e, rfl, _, rfl⟩
theorem seq_inj {c c' : Value} {vs us : List Value} (e : (some { cls := c, data := .seq vs.toArray } : Option Obj) = some { cls := c', data := .seq us.toArray }) : c = c' ∧ vs = us := by
  have e1 := Option.some.inj e
  have e2 : c = c' := congrArg Obj.cls e1
  have e3 : Data.seq vs.toArray = Data.seq us.toArray := congrArg Obj.data e1
  injection e3 with e4
  refine ⟨e2, ?_⟩
  have e5 := congrArg Array.toList e4
  simpa using e5
/-- a list argument -/
theorem argL (KX : K.In h) (ar : ∀ a ∈ A, ArgOb h A a) {a : Addr} {vs : List Value} (ha : a ∈ A) (e : h.get? a = some { cls := .type "list", data := .seq vs.toArray }) : (∀ u ∈ vs, OkU A u) ∧ SqL K (argH K h A) a (vs.map toV) := by
  obtain ⟨us, h1, h2, h3⟩ := ar a ha
  have hu : us = vs := by
    rcases h3 with q | q
    · rw [e] at q
      exact (seq_inj q).2.symm
    · rw [e] at q
      exact absurd (Value.type.inj (seq_inj q).1) (by decide)
  subst hu
  refine ⟨h2, ?_⟩
  cases hk : K.lookup a with
  | none => exact .inl (.inr ⟨_, by rw [argH_at ha hk e, hoOf_lst]⟩)
  | some o =>
    have e2 := KX a o hk
    rw [e] at e2
    obtain rfl := Option.some.inj e2
    exact .inr ⟨_, us.toArray, _, hk, rfl, rfl, rfl, by rw [List.size_toArray]; exact h1, by simpa using vals_toV h2⟩
theorem argT (KX : K.In h) (ar : ∀ a ∈ A, ArgOb h A a) {a : Addr} {vs : List Value} (ha : a ∈ A) (e : h.get? a = some { cls := .type "tuple", data := .seq vs.toArray }) : (∀ u ∈ vs, OkU A u) ∧ SqT K (argH K h A) a (vs.map toV) := by
  obtain ⟨us, h1, h2, h3⟩ := ar a ha
  have hu : us = vs := by
    rcases h3 with q | q
    · rw [e] at q
      exact absurd (Value.type.inj (seq_inj q).1) (by decide)
    · rw [e] at q
      exact (seq_inj q).2.symm
  subst hu
  refine ⟨h2, ?_⟩
  cases hk : K.lookup a with
  | none => exact .inl (.inr ⟨_, by rw [argH_at ha hk e, hoOf_tup]⟩)
  | some o =>
    have e2 := KX a o hk
    rw [e] at e2
    obtain rfl := Option.some.inj e2
    exact .inr ⟨_, us.toArray, _, hk, rfl, rfl, by rw [List.size_toArray]; exact h1, by simpa using vals_toV h2⟩
mutual
theorem dw_one {Pm : Params} (KX : K.In h) (ar : ∀ a ∈ A, ArgOb h A a) : ∀ (d : WData) (v : Value), Well Pm h v d → plW d = true → OkU A v → Dw K (argH K h A) (toV v) d
  | .none, _, x, _, _ => by
    cases x
    exact .non
  | .bool b, _, x, _, _ => by
    cases x
    exact .bl b
  | .int i, _, x, _, _ => by
    cases x
    exact .int i
  | .str s, _, x, _, _ => by
    cases x
    exact .str s
  | .bytes b, _, x, _, _ => by
    cases x
    have z := Dw.byt (K := K) (H := argH K h A) b.toArray
    exact z
  | .list ds, _, x, p, hu => by
    obtain ⟨a, vs, rfl, ho, hall⟩ := well_list x
    obtain ⟨h2, hs⟩ := argL KX ar hu ho
    exact .lst hs (dw_all KX ar ds _ hall p h2)
  | .tuple ds, _, x, p, hu => by
    obtain ⟨a, vs, rfl, ho, hall⟩ := well_tuple x
    obtain ⟨h2, hs⟩ := argT KX ar hu ho
    exact .tup hs (dw_all KX ar ds _ hall p h2)
  | .float _, _, _, p, _ => Bool.noConfusion (show false = true from p)
  | .dict _, _, _, p, _ => Bool.noConfusion (show false = true from p)
  | .bytearray _, _, _, p, _ => Bool.noConfusion (show false = true from p)
  | .set _, _, _, p, _ => Bool.noConfusion (show false = true from p)
  | .frozenset _, _, _, p, _ => Bool.noConfusion (show false = true from p)
  | .obj _ _, _, _, p, _ => Bool.noConfusion (show false = true from p)
theorem dw_all {Pm : Params} (KX : K.In h) (ar : ∀ a ∈ A, ArgOb h A a) : ∀ (ds : List WData) (vs : List Value), WellAll Pm h vs ds → plWs ds = true → (∀ u ∈ vs, OkU A u) → DwAll K (argH K h A) (vs.map toV) ds
  | [], _, x, _, _ => by
    cases x
    exact .nil
  | d :: ds, _, x, p, hu => by
    obtain ⟨v, vs, rfl, x1, x2⟩ := well_cons x
    have q : plW d = true ∧ plWs ds = true := Bool.and_eq_true_iff.mp p
    exact .cons (dw_one KX ar d v x1 q.1 (hu _ (List.mem_cons_self ..))) (dw_all KX ar ds vs x2 q.2 fun u m => hu u (List.mem_cons_of_mem _ m))
end
end
/-! ### the call -/
theorem spec_call {P : Program} {w : World} {K : PySem.W.Frag} {mg mb : Str → Option Value} {CX : CXT} {k : Nat} {fa : Addr} {fd : FuncData} {ps : List Str} {sp : Sp} {s₁ : Shared} {vals : List Value} {ds : List WData} {R : PySem.W.WRecords} {cl : Str → Option Addr} {d0 : WData}
    (KX : K.In s₁.heap) (hns : s₁.heap.Ns mainGlobals mg) (hb : s₁.heap.Ns builtinsNs mb) (hbb : ∀ x : Str, x ≠ "__name__" → mb x = bootBuiltins x) (hlim : s₁.heap.NoLimit) (hg : s₁.gens = #[])
    (hwl : WellAll w.params s₁.heap vals ds) (hpl : plWs ds = true) (hwt : ∀ d ∈ ds, d.weight ≤ 1048576) (hr : Room k callerA)
    (F : ∀ base : Heap, K.In base → base.Ns mainGlobals mg → FnOk P w K mg base CX k fa fd ps sp) (hbind : ∀ (s : Shared) (us : List Value), us.length = ps.length → BindsTo s fd ⟨us, []⟩ (ps.zip us)) (hlen : ds.length = ps.length)
    (hsp : ∀ (H : Hp) (xs : List V), OnlyF H → DwAll K H xs ds → sp xs H (fun v H' => Dw K H' v d0) fun _ _ _ => False)
    (hCX : ∀ H e s', CX [] H s₁ (fun _ _ _ => False) e s' → False) :
    codeAny (model P w) callerA (.call (.ref fa) ⟨vals, []⟩) (fun r s' => ∃ u as, r = .ok (.ret u) ∧ ReadsW R cl s'.heap u d0 as ∧ OldK s₁.heap s'.heap ∧ s'.os = s₁.os ∧ AllBare s'.gens) s₁ := by
  obtain ⟨A, ho, ar⟩ := area_all ds vals hwl hpl hwt
  have hO : OnlyF (argH K s₁.heap A) := argH_only ar
  have hok : HOk P w (argH K s₁.heap A) s₁.heap := argH_ok ar
  have hS := dw_all KX ar ds vals hwl hpl ho
  have hV := vals_toV ho
  have hK : ∀ b u, argH K s₁.heap A b = some u → K.lookup b = none := fun b u q => (argH_is ar q).1
  have noA : ∀ {b : Addr} {o : Obj} {es : Array DictEntry} {ep : Nat}, s₁.heap.get? b = some o → o.data = .dict es ep → argH K s₁.heap A b = none := fun {b o es ep} e d => by
    cases q : argH K s₁.heap A b with
    | none => rfl
    | some u =>
      obtain ⟨_, vs, _, _, ⟨e2, _⟩ | ⟨e2, _⟩⟩ := argH_is ar q
      · rw [e2] at e
        cases e
        have d' : Data.seq vs.toArray _ = Data.dict es ep := d
        cases d'
      · rw [e2] at e
        cases e
        have d' : Data.seq vs.toArray _ = Data.dict es ep := d
        cases d'
  generalize argH K s₁.heap A = H at hO hok hS hK noA
  have base_of : ∀ {b : Addr} {o : Obj}, s₁.heap.get? b = some o → H b = none → (hidT s₁.heap H).get? b = some o := fun e n => hidT_get e n
  have nsK : ∀ {b : Addr} {m : Str → Option Value}, s₁.heap.Ns b m → (hidT s₁.heap H).Ns b m := fun {b m} ⟨o, es, ep, e, d, r⟩ => ⟨o, es, ep, base_of e (noA e d), d, r⟩
  have nK : ∀ b o, K.lookup b = some o → H b = none := fun b o e => by
    cases q : H b with
    | none => rfl
    | some u =>
      rw [hK b u q] at e
      cases e
  have hKb : K.In (hidT s₁.heap H) := fun b o e => base_of (KX b o e) (nK b o e)
  have hM : Mod K mg (hidT s₁.heap H) := ⟨hKb, nsK hns, ⟨mb, nsK hb, hbb⟩, let ⟨mc, h1, h2⟩ := hlim; ⟨mc, nsK h1, h2⟩⟩
  have e0 : Env0 P w K mg (hidT s₁.heap H) callerA [] s₁ H := ⟨rfl, hM, fun b o e => of_hidT e, Nat.le_of_eq (hidT_size _ _), trivial, fun b hb => absurd (show b ∈ ([] : List Addr) from hb) (by simp), hok, .of_eq hg⟩
  have hl : vals.length = ps.length := by rw [wellAll_len hwl]; exact hlen
  refine codeAny_mono ((F _ hKb (nsK hns)).run callerA [] s₁ H ⟨vals, []⟩ vals (vals.map toV) _ _ hr e0 (hbind s₁ vals hl) hV (hsp H _ hO hS)) fun r s' x => ?_
  cases r with
  | error e => exact (hCX H e s' x).elim
  | ok fl =>
    cases fl with
    | next => exact False.elim x
    | brk => exact False.elim x
    | cont => exact False.elim x
    | ret u =>
      obtain ⟨v, H', os, bare, un, hok', r', q⟩ := x
      have kept : ∀ b o, s₁.heap.get? b = some o → s'.heap.get? b = some o := fun b o e => by
        cases q2 : H b with
        | none => exact un.keep b o e q2 (by intro z; exact absurd (show b ∈ ([] : List Addr) from z) (by simp)) (by simp)
        | some u2 =>
          rcases hO b with z | ⟨ob, u3, z⟩
          · rw [q2] at z
            cases z
          · have z2 := un.frzs b ob _ z
            obtain ⟨e1, _⟩ := hok b _ z
            obtain ⟨e2, _⟩ := hok' b _ z2
            rw [e] at e1
            cases e1
            exact e2
      have KX' : K.In s'.heap := fun b o e => kept b o (KX b o e)
      obtain ⟨as, hrd⟩ := Dw.reads (R := R) (cl := cl) hok' KX' d0 v u q r'
      exact ⟨u, as, rfl, hrd, OldK.of_keep kept, os, bare⟩
/-! ### the row -/
theorem layable_weight {ds : List WData} (h : WData.layableAll ds = true) : ∀ d ∈ ds, d.weight ≤ 1048576 := fun d hd =>
  (PySem.W.layableW_iff.mp (List.all_eq_true.mp h d hd)).2.2
theorem encAll_len : ∀ (cs : List Codec) (a : Codec.denoteAll cs), (Codec.encAll cs a).length = cs.length
  | [], _ => rfl
  | c :: cs, a => by
    show (Codec.encAll cs a.2).length + 1 = cs.length + 1
    rw [encAll_len cs a.2]
/-- the goal that k_headS leaves (case hc), from the promise of the row's def: whatever the arguments that the codecs let and the row asks for, the def gives what stands for enc (f ..) -/
theorem walk_spec {r : OpenSpec} {k : Nat} {q : Program} {loose : List Str} {XP : (Str → Option Value) → Heap → Prop} {YP : World → Heap → Prop} {d : DefRec} {K : Params → PySem.W.Frag} {CX : World → CXT} {ps : List Str} {sp : World → Sp}
    (hwell : r.wellSaid = true) (hdf : d.params.defaults = []) (hlen : r.args.length = ps.length) (hr : Room k callerA)
    (hY : ∀ (w : World) (h : Heap), YP w h → (K w.params).In h)
    (F : ∀ (w : World) (mg : Str → Option Value) (fa : Addr) (h : Heap), YP w h → (K w.params).In h → h.Ns mainGlobals mg → mg d.name = some (.ref fa) →
      ∃ fd : FuncData, (∀ (s : Shared) (us : List Value), us.length = ps.length → BindsTo s fd ⟨us, []⟩ (ps.zip us)) ∧
        ∀ base : Heap, (K w.params).In base → base.Ns mainGlobals mg → FnOk r.prog w (K w.params) mg base (CX w) k fa fd ps (sp w))
    (hsp : ∀ (w : World) (H : Hp) (xs : List V) (a : Codec.denoteAll r.args), OnlyF H → Codec.withinAll r.args a = true → Codec.app r.args r.asked a = true → DwAll (K w.params) H xs (Codec.encAll r.args a) →
      sp w xs H (fun v H' => Dw (K w.params) H' v (r.ret.enc (Codec.app r.args r.f a))) fun _ _ _ => False)
    (hCX : ∀ (w : World) (H : Hp) (s : Shared) (e : Value) (s' : Shared), CX w [] H s (fun _ _ _ => False) e s' → False) :
    PySem.W.WalkOS q loose XP YP r d [] (fun f vs => PySem.call f vs) := by
  intro w s_0 s₁ mg mb G Y fa o pm cd doc dV kV ho hd hcd hD hmg hg args vals as hpre hlay hrd hwl hlo
  obtain ⟨a, e1, e2⟩ := PySem.W.os_pre_some hpre
  obtain ⟨e3, hwi⟩ := Codec.encAll_of_decAll r.args args a e1
  subst e3
  have KX := hY w _ Y
  obtain ⟨fd, hb, hF⟩ := F w mg fa _ Y KX G.T.g hmg
  refine PySem.W.enter_call (codeAny_mono (spec_call (R := []) (cl := classAt s_0.heap) (d0 := r.ret.enc (Codec.app r.args r.f a)) KX G.T.g G.T.b G.T.builtins G.T.nolimit hg hwl (pl_encAll _ _) (layable_weight hlay) hr hF hb (by rw [encAll_len]; exact hlen)
    (fun H xs hO hS => hsp w H xs a hO hwi e2 hS) fun H e s' => hCX w H s₁ e s') fun r' s' hq => ?_)
  obtain ⟨u, as', rfl, h1, h2, h3, h4⟩ := hq
  exact ⟨.inl ⟨u, _, as', rfl, fun _ => rfl, h1, (OpenSpec.post_iff hwell hwi _ _).mpr rfl, fun z => Bool.noConfusion (show false = true from z)⟩, h2, h3, h4⟩
/-- the same where the promise hangs on the written part alone -/
theorem walk_specK {r : OpenSpec} {k : Nat} {q : Program} {loose : List Str} {XP : (Str → Option Value) → Heap → Prop} {YP : World → Heap → Prop} {d : DefRec} {K : Params → PySem.W.Frag} {CX : CXT} {ps : List Str} {sp : PySem.W.Frag → Sp}
    (hwell : r.wellSaid = true) (hdf : d.params.defaults = []) (hlen : r.args.length = ps.length) (hr : Room k callerA)
    (hY : ∀ (w : World) (h : Heap), YP w h → (K w.params).In h)
    (F : ∀ (w : World) (mg : Str → Option Value) (fa : Addr) (h : Heap), YP w h → (K w.params).In h → h.Ns mainGlobals mg → mg d.name = some (.ref fa) →
      ∃ fd : FuncData, (∀ (s : Shared) (us : List Value), us.length = ps.length → BindsTo s fd ⟨us, []⟩ (ps.zip us)) ∧
        ∀ base : Heap, (K w.params).In base → base.Ns mainGlobals mg → FnOk r.prog w (K w.params) mg base CX k fa fd ps (sp (K w.params)))
    (hsp : ∀ (K : PySem.W.Frag) (H : Hp) (xs : List V) (a : Codec.denoteAll r.args), OnlyF H → Codec.withinAll r.args a = true → Codec.app r.args r.asked a = true → DwAll K H xs (Codec.encAll r.args a) →
      sp K xs H (fun v H' => Dw K H' v (r.ret.enc (Codec.app r.args r.f a))) fun _ _ _ => False)
    (hCX : ∀ (H : Hp) (s : Shared) (e : Value) (s' : Shared), CX [] H s (fun _ _ _ => False) e s' → False) :
    PySem.W.WalkOS q loose XP YP r d [] (fun f vs => PySem.call f vs) :=
  walk_spec (K := K) (CX := fun _ => CX) (sp := fun w => sp (K w.params)) hwell hdf hlen hr hY F (fun w H xs a h1 h2 h3 h4 => hsp (K w.params) H xs a h1 h2 h3 h4) fun _ H s e s' => hCX H s e s'
end L2
end

end
section
set_option Elab.async false
set_option maxRecDepth 100000
/-! enumerate over a tuple -/
namespace LkT
open PySem
open AutoSeq1 (wpAny_loadPart')
section
variable {prog : Program} {w : World} {A : Around} {E : Value → Shared → Prop} {s : Shared}
theorem nxt_item {it t : Addr} {i : Nat} {vals : Array Value} {x : Value} {Q : Value → Shared → Prop} (hit : s.heap.IsTupleIter it t i) (htu : s.heap.IsTuple t vals) (hv : vals[i]? = some x)
    (k : ∀ h2, h2.IsTupleIter it t (i + 1) → Heap.SameBut it s.heap h2 → Q x { s with heap := h2 }) : wpAny (model prog w) A (Builtin.SmallTypes.nextOf (.ref it)) Q E s := by
  obtain ⟨ob, e1, e2, e3⟩ := id hit
  obtain ⟨tb, f1, _, tn, f3⟩ := htu
  unfold Builtin.SmallTypes.nextOf
  refine wpAny_bind (wpAny_callSpecial?_slot (name := Str.ofString "__next__") hit.typeIs F.slot_tuple_iterator_next (wpAny_call_entry F.slot_tuple_iterator_next hit.typeIs F.entry_tuple_iterator_next ?_ (F.args_tuple_iterator_next_1 _)))
  show wpAny _ _ (field (.ref it) 0 >>= _) _ _ _
  refine wpAny_bind (wpAny_field e1 e3 (x := .ref t) rfl ?_)
  show wpAny _ _ (if (Value.ref t == Value.none) = true then _ else _) _ _ _
  rw [if_neg (by intro z; exact Bool.false_ne_true z)]
  show wpAny _ _ (field (.ref it) 1 >>= _) _ _ _
  refine wpAny_bind (wpAny_field e1 e3 (x := .int i 0) rfl ?_)
  show wpAny _ _ (seqItems? (.ref t) >>= _) _ _ _
  refine wpAny_bind (wpAny_seqItems f1 f3 ?_)
  simp only [Int.toNat_natCast, hv]
  refine wpAny_bind (wpAny_setField e1 e3 (by simp) (wpAny_pure ⟨x, rfl, wpAny_pure (k _ ?_ (Heap.SameBut.update ..))⟩))
  refine ⟨_, Heap.get?_update_self _ e1 (Obj.isFreed_of_fields (Obj.data_mapFields e3 _)), (Obj.cls_mapFields ..).trans e2, ?_⟩
  rw [Obj.data_mapFields e3]
  simp [rawInt]
theorem nxt_end {it t : Addr} {i : Nat} {vals : Array Value} {Q : Value → Shared → Prop} (hh : A.handled = none) (hit : s.heap.IsTupleIter it t i) (htu : s.heap.IsTuple t vals) (hv : vals[i]? = none)
    (k : ∀ h2 e, Heap.ExtBut it s.heap h2 → (∃ o, h2.get? e = some o ∧ o.cls = .type "StopIteration") → E (.ref e) { s with heap := h2 }) : wpAny (model prog w) A (Builtin.SmallTypes.nextOf (.ref it)) Q E s := by
  obtain ⟨ob, e1, e2, e3⟩ := id hit
  obtain ⟨tb, f1, _, tn, f3⟩ := htu
  unfold Builtin.SmallTypes.nextOf
  refine wpAny_bind (wpAny_callSpecial?_slot (name := Str.ofString "__next__") hit.typeIs F.slot_tuple_iterator_next (wpAny_call_entry F.slot_tuple_iterator_next hit.typeIs F.entry_tuple_iterator_next ?_ (F.args_tuple_iterator_next_1 _)))
  show wpAny _ _ (field (.ref it) 0 >>= _) _ _ _
  refine wpAny_bind (wpAny_field e1 e3 (x := .ref t) rfl ?_)
  show wpAny _ _ (if (Value.ref t == Value.none) = true then _ else _) _ _ _
  rw [if_neg (by intro z; exact Bool.false_ne_true z)]
  show wpAny _ _ (field (.ref it) 1 >>= _) _ _ _
  refine wpAny_bind (wpAny_field e1 e3 (x := .int i 0) rfl ?_)
  show wpAny _ _ (seqItems? (.ref t) >>= _) _ _ _
  refine wpAny_bind (wpAny_seqItems f1 f3 ?_)
  simp only [Int.toNat_natCast, hv]
  refine wpAny_bind (wpAny_rule (wpAny_bind (wpAny_setField e1 e3 (by simp) ?_)))
  show wpAny _ _ (newExc (.type "StopIteration") [] >>= _) _ _ _; refine wpAny_bind ?_; simp only [newExc, newTuple]
  refine wpAny_bind (wpAny_newObj_type ?_ (by size_fits)); refine wpAny_bind (m := firstArgMember _ _) (wpAny_of_eq (a := Value.none) (by first | rfl | (simp only [firstArgMember]; rfl)) ?_)
  refine wpAny_newObj_type ?_ (by size_fits); simp only [raiseNew]; refine wpAny_bind (wpAny_handled ?_)
  first | rw [show A.in1.handled = none by exact hh] | rw [hh]
  refine wpAny_bind (wpAny_pure (wpAny_throw ?_)); exact k _ _ (((Heap.SameBut.update ..).extBut.push _).push _) ⟨_, Heap.get?_push_size _ rfl, rfl⟩
end
theorem drawsT {prog : Program} {w : World} {A : Around} (hh : A.handled = none) (it t : Addr) (hne : t ≠ it) (vals : Array Value) :
    Draws prog w A it [it, t] vals.size (fun i v => vals[i]? = some v) (fun i h => h.IsTupleIter it t i ∧ h.IsTuple t vals) where
  live := fun _ _ st => let ⟨o, ho, _⟩ := st.1; ⟨o, ho⟩
  frame := fun _ _ _ st hk => by
    obtain ⟨⟨o, ho, r⟩, ⟨o2, ho2, r2⟩⟩ := st
    exact ⟨⟨o, hk it (by simp) o ho, r⟩, ⟨o2, hk t (by simp) o2 ho2, r2⟩⟩
  item := fun i s Q E hi st k => by
    refine nxt_item st.1 st.2 (x := vals[i]) (by simp [hi]) fun h2 q1 q2 => ?_
    exact k _ h2 s.toks (by simp [hi]) ⟨q1, st.2.extBut q2.extBut hne⟩ q2
  done := fun s Q E st k => nxt_end hh st.1 st.2 (by simp) k
theorem newT (l : Addr) (vals : Array Value) (n : Nat) (dct : Option Addr) (sl : Array (Option Value)) :
    Meets (Builtin.«enumerate.__new__» ⟨[.type "enumerate", .ref l], []⟩) (fun _ R s => s.heap.get? l = some { cls := .type "tuple", dict := dct, data := .seq vals n, slots := sl } ∧
      R (.ok (.ret (.ref (s.heap.push { cls := .type "tuple_iterator", data := .fields #[.ref l, .int 0 0] }).objs.size)))
        { s with heap := (s.heap.push { cls := .type "tuple_iterator", data := .fields #[.ref l, .int 0 0] }).push { cls := .type "enumerate", data := .fields #[.none, .bool false, .ref s.heap.objs.size, rawInt 0, .none, .none] } }) :=
  .of_wp fun prog w A R s h => by
    obtain ⟨hp, g, d, tk, os⟩ := s; obtain ⟨hl, h⟩ := h; have hsub := sub_enumerate
    have hT : Heap.IsTuple (Shared.heap ⟨hp, g, d, tk, os⟩) l vals := ⟨_, hl, rfl, n, rfl⟩
    wp_walk using wpAny_loadPart' hl
    refine wpAny_stack_any fun st => wpAny_pure ?_
    split
    · rename_i c _ _ _ _ _
      cases (c == Value.type "enumerate")
      all_goals (wp_walk using wpAny_loadPart' hl, wpAny_pyIter_tuple hT)
      all_goals exact ⟨_, rfl, h⟩
    · wp_walk using wpAny_loadPart' hl, wpAny_pyIter_tuple hT
      exact ⟨_, rfl, h⟩
theorem callT {prog : Program} {w : World} {A : Around} {E : Value → Shared → Prop} {s : Shared} {l : Addr} {vals : Array Value} {Q : Value → Shared → Prop} (hT : s.heap.IsTuple l vals)
    (k : ∀ h2, IsEnum h2 (s.heap.objs.size + 1) s.heap.objs.size 0 .none → h2.IsTupleIter s.heap.objs.size l 0 → (∀ b o, s.heap.get? b = some o → h2.get? b = some o) → Q (.ref (s.heap.objs.size + 1)) { s with heap := h2 }) :
    wpAny (model prog w) A (call (.type "enumerate") [.ref l]) Q E s := by
  obtain ⟨⟨c, dct, dt, sl⟩, hl, hc, n, hd⟩ := hT
  have e1 : c = .type "tuple" := hc
  have e2 : dt = .seq vals n := hd
  subst e1 e2
  refine callType_new F.called_enumerate (by decide) (F.typeCall_enumerate_1 _) (F.newCall_enumerate_1 _) (fun obj => F.args_object_init_2 obj _) F.entry_enumerate_new (newT l vals n dct sl) ⟨hl, ?_⟩
  have hz : (s.heap.push { cls := .type "tuple_iterator", data := .fields #[.ref l, .int 0 0] }).objs.size = s.heap.objs.size + 1 := Heap.size_push ..
  have he : IsEnum ((s.heap.push { cls := .type "tuple_iterator", data := .fields #[.ref l, .int 0 0] }).push
      { cls := .type "enumerate", data := .fields #[.none, .bool false, .ref s.heap.objs.size, rawInt 0, .none, .none] }) (s.heap.objs.size + 1) s.heap.objs.size 0 .none := by
    have q := Heap.get?_push_size (s.heap.push { cls := .type "tuple_iterator", data := .fields #[.ref l, .int 0 0] }) (o := { cls := .type "enumerate", data := .fields #[.none, .bool false, .ref s.heap.objs.size, rawInt 0, .none, .none] }) rfl
    rw [hz] at q
    exact q
  show _ ∧ _
  rw [hz]
  exact ⟨⟨_, he, rfl⟩, k _ he ⟨_, Heap.get?_push_of_some _ (Heap.get?_push_size _ rfl), rfl, rfl⟩ fun b o x => Heap.get?_push_of_some _ (Heap.get?_push_of_some _ x)⟩
end LkT

end
section
set_option Elab.async false
/-! the mathematics of a locker's text: the specification's own functions, as the program goes through them -/
namespace Lk
open Flags
abbrev Bytes := List UInt8
/-! ### pieces -/
/-- the pieces that are whole, and the piece under way -/
def cutGo (c : UInt8) : Bytes → List Bytes × Bytes
  | [] => ([], [])
  | x :: r => if x = c then ([] :: (cutGo c r).1, (cutGo c r).2) else match cutGo c r with
    | ([], p) => ([], x :: p)
    | (w :: l, p) => ((x :: w) :: l, p)
theorem cutAt_go (c : UInt8) : ∀ l : Bytes, cutAt c l = (cutGo c l).1 ++ [(cutGo c l).2]
  | [] => rfl
  | x :: r => by
    have ih := cutAt_go c r
    unfold cutAt cutGo
    split
    · rw [ih]; rfl
    · rw [ih]
      rcases h : cutGo c r with ⟨_ | ⟨w, l⟩, p⟩
      · rfl
      · rfl
theorem cutGo_mark (c : UInt8) : ∀ l : Bytes, cutGo c (l ++ [c]) = ((cutGo c l).1 ++ [(cutGo c l).2], [])
  | [] => by simp [cutGo]
  | x :: r => by
    have ih := cutGo_mark c r
    show cutGo c (x :: (r ++ [c])) = _
    unfold cutGo
    by_cases hx : x = c
    · simp only [hx, if_true, ih]; rfl
    · simp only [hx, if_false, ih]
      rcases h : cutGo c r with ⟨_ | ⟨w, l⟩, p⟩
      · rfl
      · rfl
theorem cutGo_other (c : UInt8) {y : UInt8} (hy : y ≠ c) : ∀ l : Bytes, cutGo c (l ++ [y]) = ((cutGo c l).1, (cutGo c l).2 ++ [y])
  | [] => by simp [cutGo, hy]
  | x :: r => by
    have ih := cutGo_other c hy r
    show cutGo c (x :: (r ++ [y])) = _
    unfold cutGo
    by_cases hx : x = c
    · simp only [hx, if_true, ih]
    · simp only [hx, if_false, ih]
      rcases h : cutGo c r with ⟨_ | ⟨w, l⟩, p⟩
      · rfl
      · rfl
theorem cutAt_len (c : UInt8) : ∀ l : Bytes, (cutAt c l).length ≤ l.length + 1
  | [] => by simp [cutAt]
  | x :: r => by
    have ih := cutAt_len c r
    unfold cutAt
    split
    · simp; omega
    · split
      · simp
      · rename_i e; rw [e] at ih; simp at ih ⊢; omega
theorem cutAt_mem (c : UInt8) : ∀ (l w : Bytes), w ∈ cutAt c l → w.length ≤ l.length
  | [], w, h => by
    simp [cutAt] at h
    simp [h]
  | x :: r, w, h => by
    have ih := cutAt_mem c r
    unfold cutAt at h
    split at h
    · rcases List.mem_cons.mp h with h | h
      · simp [h]
      · have := ih w h; simp; omega
    · split at h
      · have : w = [x] := by simpa using h
        simp [this]
      · rename_i w0 l0 e
        rcases List.mem_cons.mp h with h | h
        · have := ih w0 (by rw [e]; simp)
          simp [h]; omega
        · have := ih w (by rw [e]; simp [h])
          simp; omega
/-! ### the text's two ends -/
theorem cutGo_len (c : UInt8) (l : Bytes) : (cutGo c l).1.length ≤ l.length ∧ (cutGo c l).2.length ≤ l.length := by
  have h1 := cutAt_len c l
  have h2 := cutAt_mem c l (cutGo c l).2 (by rw [cutAt_go]; simp)
  rw [cutAt_go] at h1
  simp at h1
  exact ⟨by omega, h2⟩
/-! ### looks -/
def hexVal : List Nat → Nat
  | [] => 0
  | c :: r => hexVal r * 16 + c
theorem hexValue_lt {b : UInt8} {c : Nat} (h : hexValue b = some c) : c < 16 := by
  unfold hexValue at h
  split at h
  · cases h; omega
  · split at h
    · cases h; omega
    · cases h
theorem mapM_len {w : Bytes} {cs : List Nat} (h : w.mapM hexValue = some cs) : cs.length = w.length ∧ ∀ c ∈ cs, c < 16 := by
  induction w generalizing cs with
  | nil => simp at h; subst h; simp
  | cons x r ih =>
    rw [List.mapM_cons] at h
    cases hx : hexValue x with
    | none => rw [hx] at h; cases h
    | some v =>
      rw [hx] at h
      cases hr : r.mapM hexValue with
      | none => rw [hr] at h; cases h
      | some vs =>
        rw [hr] at h
        have e : cs = v :: vs := by simpa using h.symm
        obtain ⟨i1, i2⟩ := ih hr
        subst e
        refine ⟨by simp [i1], fun c hc => ?_⟩
        rcases List.mem_cons.mp hc with hc | hc
        · rw [hc]; exact hexValue_lt hx
        · exact i2 c hc
theorem lookOf_go (l : List Nat) (h : ∀ c ∈ l, c < 16) : ((List.range l.length).map fun (i : Nat) => l.getD i 0 % 16 * 16 ^ i).sum = hexVal l := by
  induction l with
  | nil => rfl
  | cons c r ih =>
    have ih := ih fun x hx => h x (List.mem_cons_of_mem _ hx)
    have hc := h c List.mem_cons_self
    rw [List.length_cons, List.range_succ_eq_map, List.map_cons, List.map_map, List.sum_cons]
    have e : ((fun (i : Nat) => (c :: r).getD i 0 % 16 * 16 ^ i) ∘ Nat.succ) = fun (i : Nat) => 16 * (r.getD i 0 % 16 * 16 ^ i) := by
      funext i
      show (c :: r).getD (i + 1) 0 % 16 * 16 ^ (i + 1) = _
      rw [List.getD_cons_succ, Nat.pow_succ, Nat.mul_comm (16 ^ i) 16, Nat.mul_left_comm]
    have e2 : ∀ (f : Nat → Nat) (ns : List Nat), (ns.map fun i => 16 * f i).sum = 16 * (ns.map f).sum := by
      intro f ns
      induction ns with
      | nil => rfl
      | cons a t it => rw [List.map_cons, List.map_cons, List.sum_cons, List.sum_cons, it, Nat.mul_add]
    rw [e, e2, ih]
    show (c :: r).getD 0 0 % 16 * 16 ^ 0 + 16 * hexVal r = hexVal r * 16 + c
    rw [List.getD_cons_zero, Nat.mod_eq_of_lt hc]
    omega
theorem lookIn_some {w : Bytes} {cs : List Nat} (hl : w.length = 16) (h : w.mapM hexValue = some cs) : Flags.lookIn w = some (hexVal cs) := by
  obtain ⟨h1, h2⟩ := mapM_len h
  unfold Flags.lookIn
  rw [if_neg (by simp [hl]), h]
  show some (lookOf fun i => cs.getD i 0) = _
  unfold lookOf
  have e : 16 = cs.length := by omega
  have := lookOf_go cs h2
  rw [← e] at this
  rw [this]
theorem lookIn_none {w : Bytes} (h : w.mapM hexValue = none) : Flags.lookIn w = none := by
  unfold Flags.lookIn
  split
  · rfl
  · rw [h]; rfl
/-! ### words -/
def kindW (ws : List Bytes) : Option Kind := match ws with
  | [w, n, c, s, l] => if w = ascii "sign" ∧ isName n = true then kindOf (.sign n) c s l else if w = ascii "same" then (digitOf 4 n).bind (fun (j : Nat) => kindOf (.same j) c s l) else none
  | [w, c, s, l] => if w = ascii "answer" then kindOf .answer c s l else none
  | _ => none
theorem kindIn_eq (line : Bytes) : kindIn line = kindW (cutAt 32 line) := by
  unfold kindIn kindW
  rcases cutAt 32 line with _ | ⟨a, _ | ⟨b, _ | ⟨c, _ | ⟨d, _ | ⟨e, _ | ⟨f, g⟩⟩⟩⟩⟩⟩ <;> rfl
def nameW (ws : List Bytes) : Bool := match ws with
  | [w, n] => decide (w = ascii "locker") && isName n
  | _ => false
theorem nameIn_eq (line : Bytes) : (nameIn line).isSome = nameW (cutAt 32 line) := by
  unfold nameIn nameW
  rcases cutAt 32 line with _ | ⟨a, _ | ⟨b, _ | ⟨c, d⟩⟩⟩
  · rfl
  · rfl
  · show (if a = ascii "locker" ∧ isName b = true then some b else none).isSome = (decide (a = ascii "locker") && isName b)
    by_cases h : a = ascii "locker"
    · cases hb : isName b <;> simp [h]
    · simp [h]
  · rfl
/-! ### kinds -/
def grp : Kind → Nat := fun k => match k.role with
  | .sign _ => 0
  | .same _ => 1
  | .answer => 2
def rep : Kind → Nat := fun k => match k.role with
  | .same j => j
  | _ => 0
def ttl : Kind → Bytes := fun k => match k.role with
  | .sign n => n
  | _ => []
/-- the kinds stand by their groups, the answer at the end -/
def Ordered (past : List Kind) : Prop := past.Pairwise fun a b => grp a ≤ grp b ∧ grp a ≠ 2
def mayM (past : List Kind) (x : Kind) : Bool := match past.getLast? with
  | none => true
  | some l => decide (grp l ≠ 2) && decide (grp l ≤ grp x)
def repM (b x : Kind) : Bool := if grp b ≠ grp x then false else if grp x = 0 then decide (ttl b = ttl x) else decide (rep x ≤ rep b)
def faultM (past : List Kind) (x : Option Kind) : Nat := match x with
  | none => 1
  | some x => if mayM past x = false then 1 else if (past.any fun b => repM b x) = true then 2 else if grp x = 0 ∧ 48 ≤ past.length then 3
    else if (past.any fun b => decide (b.shape = x.shape) && decide (b.look = x.look)) = true then 4 else 0
theorem grp_sign (k : Kind) : k.isSign = decide (grp k = 0) := by
  unfold Kind.isSign grp
  cases k.role <;> rfl
theorem grp_answer (k : Kind) : (k.role == .answer) = decide (grp k = 2) := by
  unfold grp
  cases h : k.role <;> simp
theorem last_mem {α : Type} {l : List α} {x : α} (h : l.getLast? = some x) : ∃ i, l = i ++ [x] := by
  rcases List.eq_nil_or_concat l with e | ⟨i, y, e⟩
  · subst e; simp at h
  · subst e
    simp at h
    subst h
    exact ⟨i, by simp⟩
def c1 (past : List Kind) (x : Kind) : Bool := match x.role with
  | .sign _ => past.any fun (k : Kind) => !k.isSign
  | _ => past.any fun (k : Kind) => k.role == .answer
def c2 (past : List Kind) (x : Kind) : Bool := match x.role with
  | .sign _ => past.any fun (k : Kind) => k.role == x.role
  | .same j => past.any fun (k : Kind) => match k.role with
    | .same i => decide (j ≤ i)
    | _ => false
  | .answer => false
theorem wrong_eq (past : List Kind) (x : Kind) : wrongBehind past x = if c1 past x = true then some 1 else if c2 past x = true then some 2
    else if (x.isSign && decide (SIGNS ≤ past.length)) = true then some 3 else if (past.any fun (k : Kind) => k.shape == x.shape && k.look == x.look) = true then some 4 else none := by
  unfold wrongBehind c1 c2
  cases hx : x.role <;> rfl
theorem may_eq {past : List Kind} (o : Ordered past) (x : Kind) : (!mayM past x) = c1 past x := by
  unfold mayM c1
  cases hl : past.getLast? with
  | none =>
    have e : past = [] := List.getLast?_eq_none_iff.mp hl
    subst e
    cases x.role <;> rfl
  | some l =>
    obtain ⟨i, e⟩ := last_mem hl
    subst e
    have hi : ∀ a ∈ i, grp a ≤ grp l ∧ grp a ≠ 2 := fun a ha => (List.pairwise_append.mp o).2.2 a ha l (by simp)
    have g1 : ∀ k : Kind, grp k = 0 ∨ grp k = 1 ∨ grp k = 2 := fun k => by unfold grp; cases k.role <;> simp
    have ans : ((i ++ [l]).any fun (k : Kind) => k.role == .answer) = decide (grp l = 2) := by
      rw [List.any_append]
      have : (i.any fun (k : Kind) => k.role == .answer) = false := by
        rw [List.any_eq_false]
        intro a ha
        rw [grp_answer]
        simp [(hi a ha).2]
      rw [this]
      simp [grp_answer]
    cases hx : x.role with
    | sign n =>
      have gx : grp x = 0 := by unfold grp; rw [hx]
      have : ((i ++ [l]).any fun (k : Kind) => !k.isSign) = decide (grp l ≠ 0) := by
        rw [List.any_append]
        by_cases h0 : grp l = 0
        · have : (i.any fun (k : Kind) => !k.isSign) = false := by
            rw [List.any_eq_false]
            intro a ha
            have := (hi a ha).1
            rw [grp_sign]
            simp; omega
          rw [this]; simp [grp_sign, h0]
        · simp [grp_sign, h0]
      show _ = (i ++ [l]).any fun (k : Kind) => !k.isSign
      rw [this, gx]
      rcases g1 l with h | h | h <;> simp [h]
    | same j =>
      have gx : grp x = 1 := by unfold grp; rw [hx]
      show _ = (i ++ [l]).any fun (k : Kind) => k.role == .answer
      rw [ans, gx]
      rcases g1 l with h | h | h <;> simp [h]
    | answer =>
      have gx : grp x = 2 := by unfold grp; rw [hx]
      show _ = (i ++ [l]).any fun (k : Kind) => k.role == .answer
      rw [ans, gx]
      rcases g1 l with h | h | h <;> simp [h]
theorem any_congr {α : Type} {p q : α → Bool} : ∀ {l : List α}, (∀ a ∈ l, p a = q a) → l.any p = l.any q
  | [], _ => rfl
  | a :: l, h => by rw [List.any_cons, List.any_cons, h a List.mem_cons_self, any_congr fun b hb => h b (List.mem_cons_of_mem _ hb)]
theorem gen4 (a b d : Bool) (c : Prop) [Decidable c] : (if (if a = false then 1 else if b = true then 2 else if c then 3 else if d = true then 4 else 0) = 0 then none else some (if a = false then 1 else if b = true then 2 else if c then 3 else if d = true then 4 else 0)) =
    if (!a) = true then some 1 else if b = true then some 2 else if decide c = true then some 3 else if d = true then some 4 else none := by
  by_cases hc : c <;> cases a <;> cases b <;> cases d <;> simp [hc]
theorem c2_eq {past : List Kind} (x : Kind) (hm : c1 past x = false) : (past.any fun b => repM b x) = c2 past x := by
  unfold c2
  unfold c1 at hm
  cases hx : x.role with
  | sign n =>
    refine any_congr fun b hb => ?_
    unfold repM grp ttl
    rw [hx]
    cases hbr : b.role <;> simp
    all_goals (first | rfl | (rw [Bool.beq_eq_decide_eq]; simp))
  | same j =>
    refine any_congr fun b hb => ?_
    unfold repM grp rep
    rw [hx]
    cases hbr : b.role <;> simp
  | answer =>
    rw [hx] at hm
    have hm : (past.any fun (k : Kind) => k.role == .answer) = false := hm
    show (past.any fun b => repM b x) = false
    rw [List.any_eq_false] at hm ⊢
    intro b hb
    have h3 := hm b hb
    rw [grp_answer] at h3
    unfold repM
    have gx : grp x = 2 := by unfold grp; rw [hx]
    rw [gx]
    simp at h3
    simp [h3]
/-- the fault that the program finds is the specification's -/
theorem fault_eq {past : List Kind} (o : Ordered past) (x : Kind) : (if faultM past (some x) = 0 then none else some (faultM past (some x))) = wrongBehind past x := by
  have hm := may_eq o x
  have e3 : (x.isSign && decide (SIGNS ≤ past.length)) = decide (grp x = 0 ∧ 48 ≤ past.length) := by
    rw [grp_sign, Bool.decide_and]
    rfl
  have e4 : (past.any fun (k : Kind) => k.shape == x.shape && k.look == x.look) = (past.any fun b => decide (b.shape = x.shape) && decide (b.look = x.look)) := by
    refine any_congr fun b _ => ?_
    rw [Bool.beq_eq_decide_eq, Bool.beq_eq_decide_eq]
  rw [wrong_eq, ← hm, e3, e4]
  have g := gen4 (mayM past x) (past.any fun b => repM b x) (past.any fun b => decide (b.shape = x.shape) && decide (b.look = x.look)) (grp x = 0 ∧ 48 ≤ past.length)
  cases h1 : mayM past x with
  | false =>
    rw [h1] at g
    show (if (if mayM past x = false then _ else _) = 0 then _ else _) = _
    unfold faultM
    simp [h1]
  | true =>
    rw [h1] at g hm
    rw [← c2_eq x hm.symm]
    refine Eq.trans ?_ g
    unfold faultM
    simp only [h1]
theorem ordered_snoc {past : List Kind} {x : Kind} (o : Ordered past) (h : mayM past x = true) : Ordered (past ++ [x]) := by
  refine List.pairwise_append.mpr ⟨o, by simp, fun a ha b hb => ?_⟩
  have e : b = x := by simpa using hb
  subst e
  unfold mayM at h
  cases hl : past.getLast? with
  | none =>
    have e : past = [] := List.getLast?_eq_none_iff.mp hl
    subst e
    simp at ha
  | some l =>
    rw [hl] at h
    simp at h
    obtain ⟨i, e⟩ := last_mem hl
    subst e
    rcases List.mem_append.mp ha with ha | ha
    · have q := (List.pairwise_append.mp o).2.2 a ha l (by simp)
      exact ⟨by omega, q.2⟩
    · have e : a = l := by simpa using ha
      subst e
      exact ⟨h.2, h.1⟩
theorem fault_zero {past : List Kind} {x : Kind} (h : faultM past (some x) = 0) : mayM past x = true := by
  unfold faultM at h
  cases hm : mayM past x with
  | false => simp [hm] at h
  | true => rfl
/-! ### the text's lines -/
def judgeK (t : Bytes) : Except Fault (List Kind) := match cutAt 10 t with
  | w :: x :: r => if nameW (cutAt 32 w) = true then judgeLines 1 [] (x :: r) else .error (1, 0)
  | _ => .error (1, 0)
theorem judgeK_eq (t : Bytes) : judgeK t = match judge t with
    | .error e => .error e
    | .ok L => .ok L.kinds := by
  unfold judgeK judge
  rcases h : cutAt 10 t with _ | ⟨w, _ | ⟨x, r⟩⟩
  · rfl
  · rfl
  · have e := nameIn_eq w
    cases hn : nameIn w with
    | none =>
      rw [hn] at e
      simp only [← e, hn]
      rfl
    | some n =>
      rw [hn] at e
      simp only [← e, hn, Option.isSome_some, if_true]
      cases judgeLines 1 [] (x :: r) <;> rfl
theorem lines_nil {t : Bytes} (h : (cutGo 10 t).1 = []) : judgeK t = .error (1, 0) := by
  unfold judgeK
  rw [cutAt_go, h]
  rfl
theorem line0_bad {t w : Bytes} {r : List Bytes} (h : (cutGo 10 t).1 = w :: r) (hn : nameW (cutAt 32 w) = false) : judgeK t = .error (1, 0) := by
  unfold judgeK
  rw [cutAt_go, h]
  rcases r with _ | ⟨x, r⟩
  · show (if nameW (cutAt 32 w) = true then _ else _) = _
    rw [hn]; rfl
  · show (if nameW (cutAt 32 w) = true then _ else _) = _
    rw [hn]; rfl
theorem line0_ok {t w : Bytes} {r : List Bytes} (h : (cutGo 10 t).1 = w :: r) (hn : nameW (cutAt 32 w) = true) : judgeK t = judgeLines 1 [] (r ++ [(cutGo 10 t).2]) := by
  unfold judgeK
  rw [cutAt_go, h]
  rcases r with _ | ⟨x, r⟩
  · show (if nameW (cutAt 32 w) = true then _ else _) = _
    rw [hn]; rfl
  · show (if nameW (cutAt 32 w) = true then _ else _) = _
    rw [hn]; rfl
theorem line_bad {i : Nat} {ks : List Kind} {w u : Bytes} {r : List Bytes} (o : Ordered ks) (h : faultM ks (kindW (cutAt 32 w)) ≠ 0) : judgeLines i ks (w :: (r ++ [u])) = .error (faultM ks (kindW (cutAt 32 w)), i) := by
  have e : ∃ a b, r ++ [u] = a :: b := by
    cases r with
    | nil => exact ⟨_, _, rfl⟩
    | cons a b => exact ⟨a, b ++ [u], rfl⟩
  obtain ⟨a, b, e⟩ := e
  rw [e]
  unfold judgeLines
  rw [kindIn_eq]
  cases hk : kindW (cutAt 32 w) with
  | none => rfl
  | some x =>
    rw [hk] at h
    have f := fault_eq o x
    rw [if_neg h] at f
    simp only [← f]
theorem line_ok {i : Nat} {ks : List Kind} {w u : Bytes} {r : List Bytes} (o : Ordered ks) (h : faultM ks (kindW (cutAt 32 w)) = 0) : ∃ x, kindW (cutAt 32 w) = some x ∧ Ordered (ks ++ [x]) ∧ judgeLines i ks (w :: (r ++ [u])) = judgeLines (i + 1) (ks ++ [x]) (r ++ [u]) := by
  have e : ∃ a b, r ++ [u] = a :: b := by
    cases r with
    | nil => exact ⟨_, _, rfl⟩
    | cons a b => exact ⟨a, b ++ [u], rfl⟩
  obtain ⟨a, b, e⟩ := e
  cases hk : kindW (cutAt 32 w) with
  | none => rw [hk] at h; cases h
  | some x =>
    rw [hk] at h
    refine ⟨x, rfl, ordered_snoc o (fault_zero h), ?_⟩
    rw [e]
    conv => lhs; unfold judgeLines
    rw [kindIn_eq, hk]
    have f := fault_eq o x
    rw [if_pos h] at f
    simp only [← f]
theorem lines_end {i : Nat} {ks : List Kind} {u : Bytes} : judgeLines i ks [u] = if u ≠ [] ∨ (ks.any fun k => decide (grp k = 0)) = false then .error (1, i) else .ok ks := by
  unfold judgeLines
  have e : (ks.all fun (k : Kind) => !k.isSign) = !(ks.any fun k => decide (grp k = 0)) := by
    rw [List.not_any_eq_all_not]
    congr 1
    funext k
    rw [grp_sign]
  simp only [e, Bool.not_eq_true']
end Lk

end
section
set_option Elab.async false
set_option linter.all false
/-! the mathematics of looks, sights, choices; a locker has few kinds -/
namespace Lk
open Flags
/-! ### looks by digits -/
def digs (n : Nat) : List Nat := (List.range 16).map (cell n)
theorem cell_lt (n i : Nat) : cell n i < 16 := Nat.mod_lt _ (by decide)
theorem digs_len (n : Nat) : (digs n).length = 16 := by simp [digs]
theorem digs_at {n i d : Nat} (h : (digs n)[i]? = some d) : i < 16 ∧ d = cell n i := by
  unfold digs at h
  rw [List.getElem?_map] at h
  by_cases hi : i < 16
  · rw [List.getElem?_range hi] at h
    exact ⟨hi, (Option.some.inj h).symm⟩
  · rw [List.getElem?_eq_none (by simp; omega)] at h
    cases h
theorem digs_get {n i : Nat} (h : i < 16) : (digs n)[i]? = some (cell n i) := by
  unfold digs
  rw [List.getElem?_map, List.getElem?_range h]
  rfl
theorem lookOf_congr {f g : Nat → Nat} (h : ∀ i, i < 16 → f i % 16 = g i % 16) : lookOf f = lookOf g := by
  unfold lookOf
  refine congrArg List.sum (List.map_congr_left fun i hi => ?_)
  rw [h i (List.mem_range.mp hi)]
theorem hexVal_range (f : Nat → Nat) (h : ∀ i, i < 16 → f i < 16) : hexVal ((List.range 16).map f) = lookOf f := by
  have q := lookOf_go ((List.range 16).map f) (by
    intro c hc
    obtain ⟨i, hi, e⟩ := List.mem_map.mp hc
    rw [← e]
    exact h i (List.mem_range.mp hi))
  rw [← q, List.length_map, List.length_range]
  unfold lookOf
  refine congrArg List.sum (List.map_congr_left fun i hi => ?_)
  rw [List.getD_eq_getElem?_getD, List.getElem?_map, List.getElem?_range (List.mem_range.mp hi)]
  rfl
theorem cell_hexVal : ∀ (l : List Nat) (i : Nat), (∀ c ∈ l, c < 16) → cell (hexVal l) i = l.getD i 0
  | [], i, _ => by
    unfold cell hexVal
    simp
  | c :: r, 0, h => by
    have hc := h c List.mem_cons_self
    show (hexVal r * 16 + c) / 16 ^ 0 % 16 = c
    rw [Nat.pow_zero, Nat.div_one]
    omega
  | c :: r, i + 1, h => by
    have hc := h c List.mem_cons_self
    have ih := cell_hexVal r i fun x hx => h x (List.mem_cons_of_mem _ hx)
    show (hexVal r * 16 + c) / 16 ^ (i + 1) % 16 = _
    rw [List.getD_cons_succ, ← ih, Nat.pow_succ, Nat.mul_comm (16 ^ i) 16, ← Nat.div_div_eq_div_mul]
    have e : (hexVal r * 16 + c) / 16 = hexVal r := by omega
    rw [e]
    rfl
theorem cell_lookOf (f : Nat → Nat) {i : Nat} (hi : i < 16) : cell (lookOf f) i = f i % 16 := by
  have e : lookOf f = hexVal ((List.range 16).map fun i => f i % 16) := by
    rw [hexVal_range _ fun i _ => Nat.mod_lt _ (by decide)]
    refine lookOf_congr fun i _ => ?_
    rw [Nat.mod_mod]
  rw [e, cell_hexVal _ _ (by
    intro c hc
    obtain ⟨i, _, e⟩ := List.mem_map.mp hc
    rw [← e]
    exact Nat.mod_lt _ (by decide))]
  rw [List.getD_eq_getElem?_getD, List.getElem?_map, List.getElem?_range hi]
  rfl
/-- in a light, by digits -/
theorem inLight_digs (light l : Nat) : hexVal ((List.range 16).map fun i => cell light (cell l i)) = inLight light l := hexVal_range _ fun i _ => cell_lt _ _
def mir (i : Nat) : Nat := i - i % 4 + 3 - i % 4
theorem mir_eq {i : Nat} : mir i = 4 * (i / 4) + (3 - i % 4) := by
  unfold mir
  omega
theorem mir_lt {i : Nat} (h : i < 16) : mir i < 16 := by
  unfold mir
  omega
theorem behind_digs (l : Nat) : hexVal ((List.range 16).map fun i => cell l (mir i)) = behind l := by
  rw [hexVal_range _ fun i _ => cell_lt _ _]
  unfold behind
  refine lookOf_congr fun i _ => ?_
  rw [mir_eq]
/-- a kind's look, as the program has it: first the light, then the side -/
def viewM (light side l : Nat) : Nat := if side = 1 then behind (inLight light l) else inLight light l
theorem viewM_eq {light side l : Nat} (h : side ≤ 1) : viewM light side l = seenFrom light side l := by
  unfold viewM seenFrom
  rcases Nat.le_one_iff_eq_zero_or_eq_one.mp h with e | e
  · subst e; rfl
  · subst e
    simp only [if_true]
    show behind (inLight light l) = inLight light (behind l)
    unfold behind
    conv => lhs; unfold inLight
    conv => rhs; unfold inLight
    refine lookOf_congr fun i hi => ?_
    have hm : 4 * (i / 4) + (3 - i % 4) < 16 := by omega
    rw [cell_lookOf _ hm, cell_lookOf _ hi, Nat.mod_mod]
    congr 2
    rw [Nat.mod_eq_of_lt (cell_lt _ _)]
def viewsM (light side l : Nat) : List Nat := if side = 2 then [viewM light 0 l, viewM light 1 l] else [viewM light side l]
theorem viewsM_eq {light side l : Nat} (h : side ≤ 2) : viewsM light side l = (sides side).map fun d => seenFrom light d l := by
  unfold viewsM sides
  by_cases e : side = 2
  · rw [if_pos e, if_pos e]
    simp only [List.map_cons, List.map_nil, viewM_eq (Nat.zero_le 1), viewM_eq (Nat.le_refl 1)]
  · rw [if_neg e, if_neg e]
    simp only [List.map_cons, List.map_nil]
    rw [viewM_eq (by omega)]
theorem viewsM_len (light side l : Nat) : (viewsM light side l).length ≤ 2 := by
  unfold viewsM
  split <;> simp
/-! ### cells in which two looks differ -/
def apartTo (l m n : Nat) : Nat := ((List.range n).map fun (i : Nat) => if cell l i = cell m i then 0 else 2 ^ i).sum
theorem apartTo_all (l m : Nat) : apartTo l m 16 = differs l m := rfl
theorem apartTo_succ (l m n : Nat) : apartTo l m (n + 1) = if cell l n = cell m n then apartTo l m n else apartTo l m n + 2 ^ n := by
  unfold apartTo
  rw [List.range_succ, List.map_append, List.sum_append]
  simp only [List.map_cons, List.map_nil, List.sum_cons, List.sum_nil, Nat.add_zero]
  split <;> rfl
theorem bit_add {x n : Nat} (h : x < 2 ^ n) (i : Nat) : (x + 2 ^ n).testBit i = (decide (i = n) || x.testBit i) := by
  have e := Nat.two_pow_add_eq_or_of_lt h 1
  rw [Nat.mul_one] at e
  rw [Nat.add_comm, e, Nat.testBit_or, Nat.testBit_two_pow]
  congr 1
  by_cases q : i = n
  · simp [q]
  · rw [decide_eq_false q, decide_eq_false (fun z => q z.symm)]
/-! ### alike -/
/-! ### choices of cells -/
theorem withOnes_lt : ∀ (t n c : Nat), c ∈ withOnes n t → c < 2 ^ t
  | 0, 0, c, h => by simp [withOnes] at h; subst h; decide
  | 0, n + 1, c, h => by simp [withOnes] at h
  | t + 1, 0, c, h => by simp [withOnes] at h; subst h; exact Nat.pow_pos (by decide)
  | t + 1, n + 1, c, h => by
    unfold withOnes at h
    rw [List.mem_append, List.mem_map] at h
    rw [Nat.pow_succ]
    rcases h with h | ⟨d, h, e⟩
    · have := withOnes_lt t (n + 1) c h
      omega
    · have := withOnes_lt t n d h
      omega
theorem withOnes_zero (t : Nat) : withOnes 0 t = [0] := by
  cases t <;> rfl
theorem withOnes_filter : ∀ (t n c : Nat), c ≤ t → (withOnes n t).filter (fun x => decide (x < 2 ^ c)) = withOnes n c
  | t, 0, c, h => by
    rw [withOnes_zero, withOnes_zero]
    have : 0 < 2 ^ c := Nat.pow_pos (by decide)
    simp [this]
  | t, n + 1, c, h => by
    by_cases e : c = t
    · subst e
      refine List.filter_eq_self.mpr fun x hx => ?_
      exact decide_eq_true (withOnes_lt c (n + 1) x hx)
    · cases t with
      | zero => omega
      | succ t =>
        have ih := withOnes_filter t (n + 1) c (by omega)
        conv => lhs; unfold withOnes
        rw [List.filter_append, ih]
        have : ((withOnes n t).map fun (c : Nat) => c + 2 ^ t).filter (fun x => decide (x < 2 ^ c)) = [] := by
          rw [List.filter_eq_nil_iff]
          intro x hx
          obtain ⟨d, _, e⟩ := List.mem_map.mp hx
          have : 2 ^ c ≤ 2 ^ t := Nat.pow_le_pow_right (by decide) (by omega)
          simp
          omega
        rw [this, List.append_nil]
/-- one cell more, up to cell t -/
def moreTo (cs : List Nat) (t : Nat) : List Nat := (List.range t).flatMap fun c => (cs.filter (fun x => decide (x < 2 ^ c))).map fun x => x + 2 ^ c
theorem moreTo_succ (cs : List Nat) (t : Nat) : moreTo cs (t + 1) = moreTo cs t ++ (cs.filter (fun x => decide (x < 2 ^ t))).map fun x => x + 2 ^ t := by
  unfold moreTo
  rw [List.range_succ, List.flatMap_append]
  simp
theorem more_ones (n : Nat) : ∀ t, t ≤ 16 → moreTo (withOnes n 16) t = withOnes (n + 1) t
  | 0, _ => rfl
  | t + 1, h => by
    rw [moreTo_succ, more_ones n t (by omega), withOnes_filter 16 n t (by omega)]
    rfl
theorem filt_bits (p q : Nat → Bool) (t : Nat) (hp : p t = false) (h : ∀ i, q i = (decide (i = t) || p i)) : ∀ m, ((List.range m).filter q).length = ((List.range m).filter p).length + (if t < m then 1 else 0)
  | 0 => by simp
  | m + 1 => by
    have ih := filt_bits p q t hp h m
    rw [List.range_succ, List.filter_append, List.filter_append, List.length_append, List.length_append, ih]
    by_cases e : m = t
    · subst e
      simp [h, hp]
    · have : q m = p m := by rw [h m, decide_eq_false e, Bool.false_or]
      have e3 : ([m].filter q).length = ([m].filter p).length := by
        rw [List.filter_cons, List.filter_cons, this]
        rfl
      rw [e3]
      have e2 : (if t < m + 1 then 1 else 0) = (if t < m then 1 else 0) := by
        by_cases l : t < m
        · rw [if_pos l, if_pos (Nat.lt_succ_of_lt l)]
        · rw [if_neg l, if_neg fun z => by omega]
      rw [e2, Nat.add_right_comm]
theorem ones_eq : ∀ (t n c : Nat), t ≤ 16 → c ∈ withOnes n t → ones c = n
  | t, 0, c, _, h => by
    rw [withOnes_zero] at h
    have h : c = 0 := by simpa using h
    subst h
    decide
  | 0, n + 1, c, _, h => by simp [withOnes] at h
  | t + 1, n + 1, c, ht, h => by
    unfold withOnes at h
    rw [List.mem_append, List.mem_map] at h
    rcases h with h | ⟨d, h, e⟩
    · exact ones_eq t (n + 1) c (by omega) h
    · have ih := ones_eq t n d (by omega) h
      have hd := withOnes_lt t n d h
      subst e
      unfold ones at ih ⊢
      rw [filt_bits (fun i => d.testBit i) (fun i => (d + 2 ^ t).testBit i) t (Nat.testBit_lt_two_pow hd) (bit_add hd) 16, if_pos (by omega), ih]
/-! ### found first -/
theorem find_at {α : Type} {p : α → Bool} : ∀ {l : List α} {i : Nat} {x : α}, l[i]? = some x → p x = true → (∀ j, j < i → ∀ y, l[j]? = some y → p y = false) → l.find? p = some x
  | [], i, x, h, _, _ => by simp at h
  | a :: l, 0, x, h, hp, _ => by
    have h : a = x := Option.some.inj h
    subst h
    rw [List.find?_cons, hp]
  | a :: l, i + 1, x, h, hp, hn => by
    have h0 := hn 0 (by omega) a rfl
    rw [List.find?_cons, h0]
    exact find_at (i := i) h hp fun j hj y hy => hn (j + 1) (by omega) y hy
theorem find_no {α : Type} {p : α → Bool} {l : List α} (h : ∀ (j : Nat) (y : α), l[j]? = some y → p y = false) : l.find? p = none := by
  rw [List.find?_eq_none]
  intro x hx
  obtain ⟨j, hj, e⟩ := List.getElem_of_mem hx
  rw [h j x (by rw [List.getElem?_eq_getElem hj, e])]
  decide
theorem findS_go {f : Nat → Option Nat} {n c : Nat} (h : ∀ m, m < n → f m = none) (hc : f n = some c) : ∀ k, (List.range' 0 (n + 1 + k)).findSome? f = some c := by
  intro k
  have e : List.range' 0 (n + 1 + k) = List.range' 0 n ++ (n :: List.range' (n + 1) k) := by
    rw [show n + 1 + k = n + (k + 1) by omega, ← List.range'_append]
    simp [List.range'_succ]
  have h1 : (List.range' 0 n).findSome? f = none := by
    rw [List.findSome?_eq_none_iff]
    intro x hx
    have := List.mem_range'.mp hx
    exact h x (by omega)
  rw [e, List.findSome?_append, h1, List.findSome?_cons, hc]
  rfl
theorem findS_at {f : Nat → Option Nat} {n c : Nat} (hn : n < 17) (h : ∀ m, m < n → f m = none) (hc : f n = some c) : (List.range 17).findSome? f = some c := by
  have q := findS_go h hc (16 - n)
  rw [show n + 1 + (16 - n) = 17 by omega] at q
  rw [List.range_eq_range']
  exact q
theorem findS_no {f : Nat → Option Nat} (h : ∀ m, m < 17 → f m = none) : (List.range 17).findSome? f = none := by
  rw [List.findSome?_eq_none_iff]
  intro x hx
  exact h x (List.mem_range.mp hx)
/-! ### what cells must have one of -/
def needsM (ks : List Kind) (k : Kind) (i light side : Nat) (made : Bool) : List Nat := (List.range ks.length).flatMap fun j => match ks[j]? with
  | some o => if j ≠ i ∧ (made = true → o.shape = k.shape) then (viewsM light side o.look).flatMap fun s => (viewsM light side k.look).map fun l => differs l s else []
  | none => []
theorem mem_needs {L : Locker} {k : Kind} {i light side : Nat} {made : Bool} (hk : L.kinds[i]? = some k) (hs : side ≤ 2) (x : Nat) : x ∈ L.needs i light side made ↔ x ∈ needsM L.kinds k i light side made := by
  unfold Locker.needs needsM
  rw [hk]
  simp only [List.mem_flatMap, List.mem_filter]
  constructor
  · rintro ⟨⟨o, j⟩, ⟨ho, hc⟩, d, hd, hx⟩
    obtain ⟨e, he, hx⟩ := List.mem_map.mp hx
    have ho := (List.mem_zipIdx_iff_getElem?.mp ho)
    have ho : L.kinds[j]? = some o := ho
    refine ⟨j, List.mem_range.mpr (List.getElem?_eq_some_iff.mp ho).1, ?_⟩
    rw [ho]
    have hc : j ≠ i ∧ (made = true → o.shape = k.shape) := by
      simp at hc
      refine ⟨hc.1, fun hm => ?_⟩
      rcases hc.2 with q | q
      · rw [hm] at q; cases q
      · exact q
    show x ∈ (if j ≠ i ∧ (made = true → o.shape = k.shape) then _ else _)
    rw [if_pos hc, List.mem_flatMap, viewsM_eq hs, viewsM_eq hs]
    refine ⟨seenFrom light e o.look, List.mem_map.mpr ⟨e, he, rfl⟩, List.mem_map.mpr ⟨seenFrom light d k.look, List.mem_map.mpr ⟨d, hd, rfl⟩, hx⟩⟩
  · rintro ⟨j, hj, hx⟩
    cases ho : L.kinds[j]? with
    | none => rw [ho] at hx; simp at hx
    | some o =>
      rw [ho] at hx
      simp only at hx
      split at hx
      · rename_i hc
        rw [List.mem_flatMap, viewsM_eq hs, viewsM_eq hs] at hx
        obtain ⟨s, hs1, hx⟩ := hx
        obtain ⟨e, he, es⟩ := List.mem_map.mp hs1
        obtain ⟨l, hl, hx⟩ := List.mem_map.mp hx
        obtain ⟨d, hd, el⟩ := List.mem_map.mp hl
        subst es el
        refine ⟨(o, j), ⟨List.mem_zipIdx_iff_getElem?.mpr ho, ?_⟩, d, hd, List.mem_map.mpr ⟨e, he, hx⟩⟩
        simp [hc.1]
        cases hm : made with
        | false => exact .inl rfl
        | true => exact .inr (hc.2 hm)
      · simp at hx
def meets (apart : List Nat) (c : Nat) : Bool := apart.all fun x => decide (c &&& x ≠ 0)
theorem ne0 (c x : Nat) : decide (c &&& x ≠ 0) = (Nat.land c x != 0) := by
  show decide (Nat.land c x ≠ 0) = _
  generalize Nat.land c x = z
  rw [bne, Bool.beq_eq_decide_eq, decide_not]
theorem meets_eq {a b : List Nat} (h : ∀ x, x ∈ a ↔ x ∈ b) (c : Nat) : meets a c = b.all fun (x : Nat) => Nat.land c x != 0 := by
  unfold meets
  rw [Bool.eq_iff_iff, List.all_eq_true, List.all_eq_true]
  constructor
  · intro q x hx
    rw [← ne0]
    exact q x ((h x).mpr hx)
  · intro q x hx
    rw [ne0]
    exact q x ((h x).mp hx)
/-- the program's search, by what must be met -/
def leastM (apart : List Nat) : Option Nat := (List.range 17).findSome? fun n => (withOnes n 16).find? (meets apart)
theorem least_eq {L : Locker} {k : Kind} {i light side : Nat} {made : Bool} {apart : List Nat} (hk : L.kinds[i]? = some k) (hs : side ≤ 2) (h : ∀ x, x ∈ apart ↔ x ∈ needsM L.kinds k i light side made) :
    L.least i light side made = leastM apart := by
  have e : meets apart = fun (c : Nat) => (L.needs i light side made).all fun (x : Nat) => Nat.land c x != 0 := funext fun c => meets_eq (fun x => (h x).trans (mem_needs hk hs x).symm) c
  unfold leastM
  rw [e]
  rfl
theorem meets_zero {apart : List Nat} (h : 0 ∈ apart) (c : Nat) : meets apart c = false := by
  unfold meets
  rw [List.all_eq_false]
  exact ⟨0, h, by simp⟩
theorem least_zero {apart : List Nat} (h : 0 ∈ apart) : leastM apart = none := by
  unfold leastM
  refine findS_no fun m _ => find_no fun j y _ => meets_zero h y
theorem least_at {apart : List Nat} {n i c : Nat} (hn : n < 17) (h0 : ∀ m, m < n → (withOnes m 16).find? (meets apart) = none) (hc : (withOnes n 16)[i]? = some c) (hm : meets apart c = true)
    (hb : ∀ j, j < i → ∀ y, (withOnes n 16)[j]? = some y → meets apart y = false) : leastM apart = some c ∧ ones c = n := by
  refine ⟨findS_at hn h0 (find_at hc hm hb), ones_eq 16 n c (Nat.le_refl _) (List.mem_of_getElem? hc)⟩
/-! ### a locker has at most 53 kinds -/
/-- so many at most, by the last -/
def roomOf (x : Kind) : Nat := match x.role with
  | .sign _ => 48
  | .same k => 48 + k
  | .answer => 53
def fineK (x : Kind) : Prop := match x.role with
  | .same k => 1 ≤ k ∧ k ≤ 4
  | _ => True
def Few (past : List Kind) : Prop := ∀ l, past.getLast? = some l → past.length ≤ roomOf l ∧ fineK l
theorem digit_in {m j : Nat} {w : List UInt8} (h : digitOf m w = some j) : 1 ≤ j ∧ j ≤ m := by
  unfold digitOf at h
  split at h
  · split at h
    · rename_i q
      cases h
      omega
    · cases h
  · cases h
theorem kindOf_role {r : Role} {c s l : List UInt8} {x : Kind} (h : kindOf r c s l = some x) : x.role = r := by
  unfold kindOf at h
  split at h
  · cases h; rfl
  · cases h
theorem kindIn_fine {w : List UInt8} {x : Kind} (h : kindIn w = some x) : fineK x := by
  unfold kindIn at h
  split at h
  · split at h
    · have := kindOf_role h
      unfold fineK
      rw [this]
      trivial
    · split at h
      · rename_i n _ _ _ _ _ _
        cases hd : digitOf 4 n with
        | none => rw [hd] at h; cases h
        | some j =>
          rw [hd] at h
          have := kindOf_role (show kindOf (.same j) _ _ _ = some x from h)
          unfold fineK
          rw [this]
          exact digit_in hd
      · cases h
  · split at h
    · have := kindOf_role h
      unfold fineK
      rw [this]
      trivial
    · cases h
  · cases h
theorem few_snoc {past : List Kind} {x : Kind} (o : Ordered past) (f : Few past) (fx : fineK x) (h : faultM past (some x) = 0) : Few (past ++ [x]) := by
  intro l hl
  rw [List.getLast?_append] at hl
  have hl : x = l := by simpa using hl
  subst hl
  refine ⟨?_, fx⟩
  rw [List.length_append]
  show past.length + 1 ≤ roomOf x
  have hm := fault_zero h
  unfold faultM at h
  simp only [hm] at h
  have h : (if (past.any fun b => repM b x) = true then 2 else if grp x = 0 ∧ 48 ≤ past.length then 3 else if (past.any fun b => decide (b.shape = x.shape) && decide (b.look = x.look)) = true then 4 else 0) = 0 := by simpa using h
  have h2 : ¬ (past.any fun b => repM b x) = true := by
    intro z
    rw [if_pos z] at h
    cases h
  rw [if_neg h2] at h
  have h3 : ¬ (grp x = 0 ∧ 48 ≤ past.length) := by
    intro z
    rw [if_pos z] at h
    cases h
  unfold mayM at hm
  cases hp : past.getLast? with
  | none =>
    have e : past = [] := List.getLast?_eq_none_iff.mp hp
    subst e
    unfold roomOf
    cases x.role <;> simp <;> omega
  | some l =>
    obtain ⟨q1, q2⟩ := f l hp
    rw [hp] at hm
    have hm : grp l ≠ 2 ∧ grp l ≤ grp x := by simpa using hm
    have lm : l ∈ past := List.mem_of_getLast? hp
    have hr : repM l x = false := by
      cases hc : repM l x with
      | false => rfl
      | true => exact absurd (List.any_eq_true.mpr ⟨l, lm, hc⟩) h2
    unfold repM at hr
    unfold roomOf at q1 ⊢
    unfold fineK at q2 fx
    unfold grp at hm h3 hr
    unfold rep at hr
    cases hx : x.role with
    | sign n =>
      rw [hx] at h3
      have h3 : ¬ 48 ≤ past.length := fun z => h3 ⟨rfl, z⟩
      show past.length + 1 ≤ 48
      omega
    | same j =>
      rw [hx] at hm fx hr
      show past.length + 1 ≤ 48 + j
      have fx : 1 ≤ j ∧ j ≤ 4 := fx
      cases hlr : l.role with
      | sign n =>
        rw [hlr] at q1
        have q1 : past.length ≤ 48 := q1
        omega
      | same k =>
        rw [hlr] at q1 q2 hr
        have q1 : past.length ≤ 48 + k := q1
        have hr : ¬ j ≤ k := by simpa using hr
        omega
      | answer =>
        rw [hlr] at hm
        exact absurd rfl hm.1
    | answer =>
      show past.length + 1 ≤ 53
      cases hlr : l.role with
      | sign n =>
        rw [hlr] at q1
        have q1 : past.length ≤ 48 := q1
        omega
      | same k =>
        rw [hlr] at q1 q2
        have q1 : past.length ≤ 48 + k := q1
        have q2 : 1 ≤ k ∧ k ≤ 4 := q2
        omega
      | answer =>
        rw [hlr] at hm
        exact absurd rfl hm.1
theorem few_len {past : List Kind} (f : Few past) : past.length ≤ 53 := by
  cases hp : past.getLast? with
  | none =>
    have e : past = [] := List.getLast?_eq_none_iff.mp hp
    subst e
    simp
  | some l =>
    obtain ⟨q1, q2⟩ := f l hp
    unfold roomOf at q1
    unfold fineK at q2
    cases hl : l.role with
    | sign n => rw [hl] at q1; exact Nat.le_trans (show past.length ≤ 48 from q1) (by decide)
    | same k =>
      rw [hl] at q1 q2
      have q1 : past.length ≤ 48 + k := q1
      have q2 : 1 ≤ k ∧ k ≤ 4 := q2
      omega
    | answer => rw [hl] at q1; exact q1
theorem judgeLines_few : ∀ {ls : List Bytes} {i : Nat} {past ks : List Kind}, Ordered past → Few past → judgeLines i past ls = .ok ks → Few ks
  | [], i, past, ks, _, _, h => by
    unfold judgeLines at h
    cases h
  | [w], i, past, ks, _, f, h => by
    unfold judgeLines at h
    split at h
    · cases h
    · cases h; exact f
  | w :: x :: r, i, past, ks, o, f, h => by
    unfold judgeLines at h
    split at h
    · cases h
    · rename_i k hk
      have fe := fault_eq o k
      split at h
      · cases h
      · rename_i hw
        rw [hw] at fe
        have f0 : faultM past (some k) = 0 := by
          by_cases z : faultM past (some k) = 0
          · exact z
          · rw [if_neg z] at fe; cases fe
        exact judgeLines_few (ordered_snoc o (fault_zero f0)) (few_snoc o f (kindIn_fine hk) f0) h
theorem judgeK_few {t : Bytes} {ks : List Kind} (h : judgeK t = .ok ks) : ks.length ≤ 53 := by
  unfold judgeK at h
  split at h
  · split at h
    · exact few_len (judgeLines_few List.Pairwise.nil (fun l z => by simp at z) h)
    · cases h
  · cases h
/-! ### what is true of each kind told -/
/-! ### lengths, lists by turns -/
theorem app_right {a b c : List Nat} (h : b = c) : a ++ b = a ++ c := by rw [h]
theorem withOnes_len : ∀ (t n : Nat), (withOnes n t).length ≤ 2 ^ t
  | 0, 0 => by simp [withOnes]
  | 0, n + 1 => by simp [withOnes]
  | t + 1, 0 => by
    simp [withOnes]
    exact Nat.pow_pos (by decide)
  | t + 1, n + 1 => by
    have h1 := withOnes_len t (n + 1)
    have h2 := withOnes_len t n
    unfold withOnes
    rw [List.length_append, List.length_map, Nat.pow_succ]
    omega
theorem moreTo_len (cs : List Nat) : ∀ t, (moreTo cs t).length ≤ t * cs.length
  | 0 => by simp [moreTo]
  | t + 1 => by
    have ih := moreTo_len cs t
    have h := List.length_filter_le (fun x => decide (x < 2 ^ t)) cs
    rw [moreTo_succ, List.length_append, List.length_map, Nat.succ_mul]
    omega
theorem filt_turns {α β : Type} (p : α → Bool) (f : α → β) : ∀ (cs : List α) (o : Nat → Option β), (∀ (i : Nat) (x : α), cs[i]? = some x → o i = if p x = true then some (f x) else none) → (List.range cs.length).filterMap o = (cs.filter p).map f
  | [], _, _ => rfl
  | x :: r, o, h => by
    have ih := filt_turns p f r (fun i => o (i + 1)) fun i y hy => h (i + 1) y hy
    have h0 := h 0 x rfl
    rw [List.length_cons, List.range_succ_eq_map, List.filterMap_cons, List.filterMap_map, List.filter_cons]
    have e : (o ∘ Nat.succ) = fun i => o (i + 1) := rfl
    rw [e, ih, h0]
    cases p x <;> rfl
/-- what must be met by the kinds ahead of number j -/
def needsTo (ks : List Kind) (k : Kind) (i light side : Nat) (made : Bool) (j : Nat) : List Nat := (List.range j).flatMap fun j => match ks[j]? with
  | some o => if j ≠ i ∧ (made = true → o.shape = k.shape) then (viewsM light side o.look).flatMap fun s => (viewsM light side k.look).map fun l => differs l s else []
  | none => []
theorem needsTo_all (ks : List Kind) (k : Kind) (i light side : Nat) (made : Bool) : needsTo ks k i light side made ks.length = needsM ks k i light side made := rfl
def needsOf (k o : Kind) (light side m : Nat) : List Nat := ((viewsM light side o.look).take m).flatMap fun s => (viewsM light side k.look).map fun l => differs l s
theorem needsTo_succ {ks : List Kind} {k o : Kind} {i light side : Nat} {made : Bool} {j : Nat} (h : ks[j]? = some o) : needsTo ks k i light side made (j + 1) = needsTo ks k i light side made j ++ (if j ≠ i ∧ (made = true → o.shape = k.shape) then needsOf k o light side (viewsM light side o.look).length else []) := by
  unfold needsTo
  rw [List.range_succ, List.flatMap_append]
  refine app_right ?_
  rw [List.flatMap_cons, List.flatMap_nil, List.append_nil, h]
  show (if _ then _ else _) = (if _ then _ else _)
  by_cases c : j ≠ i ∧ (made = true → o.shape = k.shape)
  · rw [if_pos c, if_pos c]
    unfold needsOf
    rw [List.take_length]
  · rw [if_neg c, if_neg c]
theorem needsOf_succ {k o : Kind} {light side m s : Nat} (h : (viewsM light side o.look)[m]? = some s) : needsOf k o light side (m + 1) = needsOf k o light side m ++ (viewsM light side k.look).map fun l => differs l s := by
  unfold needsOf
  rw [List.take_succ, h, List.flatMap_append]
  refine app_right ?_
  show [s].flatMap _ = _
  rw [List.flatMap_cons, List.flatMap_nil, List.append_nil]
theorem needsOf_len (k o : Kind) (light side : Nat) : ∀ m, (needsOf k o light side m).length ≤ 2 * m
  | 0 => by simp [needsOf]
  | m + 1 => by
    have ih := needsOf_len k o light side m
    cases h : (viewsM light side o.look)[m]? with
    | none =>
      have e : needsOf k o light side (m + 1) = needsOf k o light side m := by
        unfold needsOf
        rw [List.take_succ, h]
        simp
      rw [e]
      omega
    | some s =>
      rw [needsOf_succ h, List.length_append, List.length_map]
      have := viewsM_len light side k.look
      omega
theorem needsTo_len (ks : List Kind) (k : Kind) (i light side : Nat) (made : Bool) : ∀ j, (needsTo ks k i light side made j).length ≤ 4 * j
  | 0 => by simp [needsTo]
  | j + 1 => by
    have ih := needsTo_len ks k i light side made j
    cases h : ks[j]? with
    | none =>
      have e : needsTo ks k i light side made (j + 1) = needsTo ks k i light side made j := by
        unfold needsTo
        rw [List.range_succ, List.flatMap_append, List.flatMap_cons, List.flatMap_nil, h]
        simp
      rw [e]
      omega
    | some o =>
      rw [needsTo_succ h, List.length_append]
      split
      · have h1 := needsOf_len k o light side (viewsM light side o.look).length
        have h2 := viewsM_len light side o.look
        omega
      · simp
        omega
end Lk

end
section
set_option Elab.async false
set_option linter.all false
set_option maxRecDepth 100000
set_option maxHeartbeats 4000000
/-! short words over the layer: defs and classes of the text by name, loops, comprehensions that leave all as it was -/
namespace L2
open PySem PySem.Spec PyProof.Rows
section
variable {X : Cx}
theorem pe_gi {x : Str} {i : Int} {pos : Pos} (hg : Gl X x) (h : ∃ t, X.mg x = some (.int i t)) (hd : (x == ("__debug__" : Str)) = false := by decide) : PE X (.Name x pos) (tC (.int i)) := by
  obtain ⟨t, e⟩ := h
  exact pe_glob hg e ⟨t, rfl⟩ hd
theorem pe_gr {x : Str} {a : Addr} {pos : Pos} (hg : Gl X x) (h : X.mg x = some (.ref a)) (hd : (x == ("__debug__" : Str)) = false := by decide) : PE X (.Name x pos) (tC (.ref a)) := pe_glob hg h rfl hd
end
section
variable {X : Cx}
/-- ord of a written letter -/
theorem pe_ordc {c : Str} {n : Nat} {j : Nat} {p p2 pos : Pos} (hg : Gl X "ord") (hm : X.mg "ord" = none) (h : c.length = 1 ∧ c.cps.getD 0 0 = n) : PE X (.Call (.Name "ord" p) [.Constant (.str c) j p2] [] pos) (tC (.int n)) := by
  intro pins s σ H Q I q
  have h0 : PE X (.Call (.Name "ord" p) [.Constant (.str c) j p2] [] pos) _ := pe_callB call_ord hg hm boot_ord (pa_cons pe_str pa_nil)
  refine h0 pins s σ H Q I ?_
  refine ⟨c, rfl, h.1, ?_⟩
  rw [h.2]
  exact q
end
/-! ### the rules with the written part by its name: a comprehension's element may not speak of the block -/
section
variable {X : Cx} (K : PySem.W.Frag)
theorem pe_fk {e : Expr} {ta : TE} {f : Str} {pos : Pos} (he : PE X e ta) (hK : X.K = K := by rfl) (hb : attributeBase e f X.env (eval e X.env) = eval e X.env := by rfl) : PE X (.Attribute e f pos) (tFld K ta f) := hK ▸ pe_fld he hb
theorem ix_listK (hK : X.K = K := by rfl) : IxR X (rIxL K) := hK ▸ ix_list
theorem sl_listK (hK : X.K = K := by rfl) : SlR X (rSlL K) := hK ▸ sl_list
theorem call_lenK (hK : X.K = K := by rfl) : CallR X (.builtin "len") (fun xs H Q => ∃ x n, xs = [x] ∧ LenV K x H n ∧ Q (.int n) H) := hK ▸ call_len
theorem op_inK (hK : X.K = K := by rfl) : OpR X (compareOp .In) (rIn K false) := hK ▸ op_in_seq
theorem cr_anyK (hc : X.calm = true) (hK : X.K = K := by rfl) : CallR X (.builtin "any") (rAny K) := hK ▸ cr_any hc
theorem cr_allK (hc : X.calm = true) (hK : X.K = K := by rfl) : CallR X (.builtin "all") (rAll K) := hK ▸ cr_all hc
theorem pi_listK {tg l : Expr} {tl : TE} (hl : PE X l tl) (hK : X.K = K := by rfl) : PI X tg l (iList K tl) := hK ▸ pi_list hl
theorem pt_truthK {a : Expr} {ta : TE} (ha : PE X a ta) (he : ∀ whole, isTrue a X.env whole = (do let v ← whole; standAt a.pos; holding [v] (truthy v))) (hK : X.K = K := by rfl) :
    PT X a (fun σ H Q => ta σ H fun x H' => ∃ k, TruV K x H' k ∧ Q k H') := hK ▸ pt_truth ha he
end
/-! ### cuts: what is known behind a statement, an expression, a test is said once -/
def tCut (t : TS) : TS := fun D σ H => ∃ R : St → Hp → Prop, (∀ σ' H', R σ' H' → D.nx σ' H') ∧ t { D with nx := R } σ H
def tCutE (t : TE) : TE := fun σ H Q => ∃ R : VK, (∀ v H', R v H' → Q v H') ∧ t σ H R
def tCutT (t : TT) : TT := fun σ H Q => ∃ R : Bool → Hp → Prop, (∀ b H', R b H' → Q b H') ∧ t σ H R
section
variable {X : Cx}
theorem ps_cut {st : Stmt} {t : TS} (h : PS X st t) : PS X st (tCut t) := by
  rintro pins s σ H D I ⟨R, hR, ht⟩
  refine thn (h pins s σ H { D with nx := R } I ht) fun f s' q => ?_
  cases f with
  | next =>
    obtain ⟨σ', H', I', r⟩ := q
    exact ⟨σ', H', I', hR _ _ r⟩
  | brk => exact q
  | cont => exact q
  | ret u => exact q
theorem pe_cut {e : Expr} {t : TE} (h : PE X e t) : PE X e (tCutE t) := by
  rintro pins s σ H Q I ⟨R, hR, ht⟩
  refine thn (h pins s σ H R I ht) fun u s' q => ?_
  obtain ⟨v, H', I', r, z⟩ := q
  exact ⟨v, H', I', r, hR _ _ z⟩
theorem pt_cut {e : Expr} {t : TT} (h : PT X e t) : PT X e (tCutT t) := by
  rintro pins s σ H Q I ⟨R, hR, ht⟩
  refine thn (h pins s σ H R I ht) fun u s' q => ?_
  obtain ⟨H', I', z⟩ := q
  exact ⟨H', I', hR _ _ z⟩
end
/-! ### == of two lists of ints -/
section
open PySem.PyData
theorem dp_ints {K : PySem.W.Frag} {H : Hp} : ∀ ns : List Int, DpAll K H (ns.map V.int) (ns.map PyData.int)
  | [] => .nil
  | n :: ns => .cons (.int n) (dp_ints ns)
theorem lay_ints : ∀ ns : List Int, canLayAll0 (ns.map PyData.int) = true
  | [] => by simp [canLayAll0]
  | n :: ns => by
    rw [List.map_cons]
    unfold canLayAll0
    rw [lay_ints ns]
    simp [canLay0]
theorem deep_ints : ∀ ns : List Int, depthAll (ns.map PyData.int) ≤ 1
  | [] => by simp [depthAll]
  | n :: ns => by
    rw [List.map_cons]
    unfold depthAll
    have := deep_ints ns
    simp only [depth]
    omega
theorem shaped_ints (ns : List Int) : SeqAt.shaped (.list (ns.map PyData.int)) = true := by
  unfold SeqAt.shaped
  rw [Bool.and_eq_true]
  refine ⟨?_, ?_⟩
  · unfold canLay0
    exact lay_ints ns
  · have := deep_ints ns
    refine decide_eq_true ?_
    unfold depth
    omega
theorem eqv_ints : ∀ ns ms : List Int, eqvAll (ns.map PyData.int) (ms.map PyData.int) = decide (ns = ms)
  | [], [] => by simp [eqvAll]
  | [], _ :: _ => by simp [eqvAll]
  | _ :: _, [] => by simp [eqvAll]
  | n :: ns, m :: ms => by
    rw [List.map_cons, List.map_cons]
    unfold eqvAll
    rw [eqv_ints ns ms]
    simp only [eqv]
    by_cases h1 : n = m <;> by_cases h2 : ns = ms <;> simp [h1, h2]
end
def rEqL (K : PySem.W.Frag) : R2 := fun x y H Q => ∃ (a b : Addr) (ns ms : List Int), x = .ref a ∧ y = .ref b ∧ SqL K H a (ns.map V.int) ∧ SqL K H b (ms.map V.int) ∧ Q (.bl (decide (ns = ms))) H
theorem op_eqL {X : Cx} (hu : X.A.units + 64 < cLine) : OpR X (compareOp .Eq) (rEqL X.K) := by
  intro pins s σ H x y v u Q I rx ry h
  obtain ⟨a, b, ns, ms, rfl, rfl, h1, h2, q⟩ := h
  refine op_eqD hu pins s σ H _ _ v u Q I rx ry ⟨.list (ns.map PyData.int), .list (ms.map PyData.int), .lst h1 (dp_ints ns), .lst h2 (dp_ints ms), shaped_ints ns, shaped_ints ms, ?_⟩
  rw [show PyData.eqv (.list (ns.map PyData.int)) (.list (ms.map PyData.int)) = decide (ns = ms) by unfold PyData.eqv; exact eqv_ints ns ms]
  exact q
theorem op_eqLK {X : Cx} (K : PySem.W.Frag) (hu : X.A.units + 64 < cLine) (hK : X.K = K := by rfl) : OpR X (compareOp .Eq) (rEqL K) := hK ▸ op_eqL hu
/-- a def of the text: its promise, by its name -/
structure DefOk (P : Program) (w : World) (K : PySem.W.Frag) (mg : Str → Option Value) (base : Heap) (k : Nat) (x : Str) (ps : List Str) (sp : Sp) : Prop where
  ex : ∃ f fd, FnOk P w K mg base CX0 k f fd ps sp ∧ mg x = some (.ref f) ∧ PySem.W.keepIn K (.ref f) = true ∧ Binds K fd ps []
structure ClsOk (P : Program) (w : World) (K : PySem.W.Frag) (mg : Str → Option Value) (base : Heap) (k : Nat) (x : Str) (C : Addr) (ps : List Str) (sp : Sp) : Prop where
  ex : ∃ f fd, FnOk P w K mg base CX0 k f fd ps sp ∧ Mk K C f ∧ mg x = some (.ref C) ∧ Binds K fd ps []
section
variable {X : Cx} {k : Nat} {x : Str} {ps : List Str} {sp : Sp} {C : Addr} {e : Expr} {es : List Expr} {t : TA} {p pos : Pos}
theorem pe_fn (D : DefOk X.prog X.w X.K X.mg X.base k x ps sp) (hr : Room k X.A) (hg : Gl X x) (ha : PA X (e :: es) t) (hdb : (x == ("__debug__" : Str)) = false := by decide)
    (he : starEach (e :: es) X.env = (false, eval e X.env) :: starEach es X.env := by rfl) (hpl : (backTo pos (starEach es X.env)).any (·.1) = false := by rfl) : PE X (.Call (.Name x p) (e :: es) [] pos) (tCall sp [] E0 t) := by
  obtain ⟨f, fd, F, hm, hk, hb⟩ := D.ex
  exact pe_call F hr hg hm hk hb .nil pass0 ha hdb he hpl
theorem pe_cls (D : ClsOk X.prog X.w X.K X.mg X.base k x C ps sp) (hr : Room (k + 1) X.A) (hg : Gl X x) (ha : PA X (e :: es) t) (hdb : (x == ("__debug__" : Str)) = false := by decide)
    (he : starEach (e :: es) X.env = (false, eval e X.env) :: starEach es X.env := by rfl) (hpl : (backTo pos (starEach es X.env)).any (·.1) = false := by rfl) : PE X (.Call (.Name x p) (e :: es) [] pos) (tMake C sp [] E0 t) := by
  obtain ⟨f, fd, F, M, hm, hb⟩ := D.ex
  exact pe_make M F hr hg hm hb .nil pass0 ha hdb he hpl
end
/-! ### enumerate over a tuple -/
def IteT (K : PySem.W.Frag) (a : Addr) : It :=
  ⟨fun i H => ∃ (xs : List V) (x : V), SqT K H a xs ∧ xs[i]? = some x, fun i H v H' => ∃ T x, v = .ref T ∧ H T = none ∧ H' = upd H T (.tup [.int (i : Nat), x]) ∧ ∀ xs, SqT K H a xs → xs[i]? = some x, fun i H => ∃ xs : List V, SqT K H a xs ∧ xs.length ≤ i⟩
theorem turn_enumT {P : Program} {w : World} {K : PySem.W.Frag} {elts : List Expr} {kk : Nat} {tpos : Pos} (a e it : Addr) :
    Turn P w K (.Tuple elts kk tpos) (IteT K a) [e, it] e (fun i h => (∃ old, IsEnum h e it ((i : Nat) : Int) old) ∧ h.IsTupleIter it a i ∧ e ≠ it) where
  mem := by simp
  obj := fun i h st b hb => by
    obtain ⟨⟨old, he⟩, ⟨o, ho, hc, hd⟩, _⟩ := st
    have e' : b = e ∨ b = it := by simpa using hb
    rcases e' with z | z
    · rw [z]; exact ⟨_, he, fun v q => nomatch q⟩
    · rw [z]; exact ⟨o, ho, fun v q => by rw [hd] at q; cases q⟩
  keep := fun i h h' st k => let ⟨⟨old, he⟩, ⟨o, ho, r⟩, hne⟩ := st; ⟨⟨old, k e (by simp) _ he⟩, ⟨o, k it (by simp) o ho, r⟩, hne⟩
  item := by
    intro X hP hw hK hc i pins s σ H E I hf st hg
    subst hP hw hK
    obtain ⟨⟨old, he⟩, hit, hne⟩ := st
    obtain ⟨xs, x, hq, hx⟩ := hg
    obtain ⟨its, rv, p, hz⟩ := I.tuple hq
    have hT : s.heap.IsTuple a its.toArray := p
    obtain ⟨u, hu, ru⟩ := rv.get hx
    have hel : e < s.heap.objs.size := Heap.lt_size he
    have hil : it < s.heap.objs.size := by obtain ⟨_, q, _⟩ := hit; exact Heap.lt_size q
    have hae : e ≠ a := fun z => by
      obtain ⟨o, ho, hc2, _⟩ := hT
      rw [← z, he] at ho
      cases ho
      have q : ("enumerate" : String) = "tuple" := Value.type.inj hc2
      exact absurd q (by decide)
    have hai : a ≠ it := fun z => by
      obtain ⟨o, ho, hc2, _⟩ := hT
      obtain ⟨o2, ho2, hc3, _⟩ := hit
      rw [z, ho2] at ho
      cases ho
      rw [hc3] at hc2
      have q : ("tuple_iterator" : String) = "tuple" := Value.type.inj hc2
      exact absurd q (by decide)
    have hil2 : i < its.length := (List.getElem?_eq_some_iff.mp hu).1
    refine wpAny_pyNext_enum_itemD (LkT.drawsT (A := X.A.in1) (I.ok.hd hc) it a hai its.toArray) he ⟨hit, hT⟩ (by simpa using hil2) hne (by simp [hne, hae]) fun x' h' tk hP ho hst hT' hsz hk => ?_
    have ex : x' = u := by
      have q : its[i]? = some x' := by simpa using hP
      rw [hu] at q
      exact (Option.some.inj q).symm
    subst ex
    refine ⟨_, rfl, wpAny_letOwnedTupleGo_enum (s := { s with heap := h', toks := tk + 1 }) ho fun h'' he' sb => ?_⟩
    have hT2 : h''.get? s.heap.objs.size = some { cls := .type "tuple", data := .seq #[.int i tk, x'] } := (sb.2 _ (Nat.ne_of_gt hel)).trans hT'
    have new : ObjOk X.prog X.w (upd H s.heap.objs.size (.tup [.int (i : Nat), x])) h'' s.heap.objs.size (.tup [.int (i : Nat), x]) :=
      ⟨by show 2 ≤ sizeLine; decide, [.int i tk, x'], .cons ⟨_, rfl⟩ (.cons ru .nil), ⟨_, hT2, rfl, _, rfl⟩⟩
    have I1 : Inv X pins σ (upd H s.heap.objs.size (.tup [.int (i : Nat), x])) { s with heap := h'', toks := tk + 1 } :=
      I.turnedNew (ch := [e, it]) (fun b ob hb q => (sb.2 b (fun z => hb (by simp [z]))).trans (hk b ob (fun z => hb (by simp [z])) (fun z => hb (by simp [z])) q)) hf (Nat.le_refl _) new
    refine ⟨.ref s.heap.objs.size, _, I1, rfl, ⟨_, x, rfl, I.hok.fresh (Nat.le_refl _), rfl, fun ys hy => by rw [I.tuple_inj hy hq]; exact hx⟩, ⟨⟨x', ?_⟩, ?_, hne⟩, fun b hb => ?_⟩
    · have e1 : ((i + 1 : Nat) : Int) = (i : Int) + 1 := by omega
      rw [e1]; exact he'
    · obtain ⟨⟨o, ho2, r⟩, _⟩ := hst
      exact ⟨o, (sb.2 it (Ne.symm hne)).trans ho2, r⟩
    · have hb' : b < s.heap.objs.size := by
        have e' : b = e ∨ b = it := by simpa using hb
        rcases e' with z | z
        · rw [z]; exact hel
        · rw [z]; exact hil
      rw [upd_ne (Nat.ne_of_lt hb')]
      exact (hf b hb).1
  done := by
    intro X hP hw hK hc i pins s σ H E I hf st hg
    subst hP hw hK
    obtain ⟨⟨old, he⟩, hit, hne⟩ := st
    obtain ⟨xs, hq, hx⟩ := hg
    obtain ⟨its, rv, p, hz⟩ := I.tuple hq
    have hT : s.heap.IsTuple a its.toArray := p
    obtain ⟨f0, f1, f2, f3, f4, f5⟩ := hf it (by simp)
    have hl := rv.length
    have hT2 : s.TypeIs (.ref e) "enumerate" := ⟨_, he, rfl⟩
    unfold pyNext
    refine wpAny_bind (wpAny_attempt (wpAny_callSpecial?_slot (name := Str.ofString "__next__") hT2 F.slot_enumerate_next (wpAny_call_entry F.slot_enumerate_next hT2 F.entry_enumerate_next ?_ (F.args_enumerate_next_1 _))))
    show wpAny _ _ (field (.ref e) 2 >>= _) _ _ _
    refine wpAny_bind (wpAny_field he rfl (x := .ref it) rfl ?_)
    refine wpAny_bind (LkT.nxt_end (I.ok.hd hc) hit hT (by simp; omega) fun h' x eb hx' => ?_)
    obtain ⟨o, ho, hcl⟩ := hx'
    refine wpAny_bind (wpAny_isInstance (T := "StopIteration") (b := true) ⟨o, ho, hcl⟩ isSubtype_stop (wpAny_pure ?_))
    exact ⟨rfl, I.turned (t' := s.toks) (fun b o hb q => eb b o hb q) f0 f1 f3 f4 f5⟩
  self := fun A i s Q E st h => let ⟨⟨_, he⟩, _⟩ := st; wpAny_pyIter_enum he h
def iEnumT (K : PySem.W.Frag) (ta : TA) : TI := fun σ H R => ta σ H fun vs H1 => ∃ a xs, vs = [.ref a] ∧ SqT K H1 a xs ∧ R (IteT K a) H1
theorem pi_enumT {X : Cx} {e : Expr} {ta : TA} {p pos tpos : Pos} {elts : List Expr} {kk : Nat} (hg : Gl X "enumerate") (hm : X.mg "enumerate" = none) (ha : PA X [e] ta) (hs : starEach [e] X.env = [(false, eval e X.env)] := by rfl) :
    PI X (.Tuple elts kk tpos) (.Call (.Name "enumerate" p) [e] [] pos) (iEnumT X.K ta) := by
  intro pins s σ H R I h
  refine Call_ (ld_blt I hg hm boot_enumerate (PyProof.Rows.callWith_type1 (thn (ha pos pins s σ H _ I h) fun us s1 ⟨vs, H1, I1, r1, q1⟩ => ?_) hs rfl))
  obtain ⟨a, xs, ex, hq, q⟩ := q1
  subst ex
  cases r1 with
  | cons r rr =>
    cases rr
    cases r
    obtain ⟨its, rv, p', hz⟩ := I1.tuple hq
    refine LkT.callT (show s1.heap.IsTuple a its.toArray from p') fun h' he hit hk => wpAny_pyIter_enum he ?_
    have I2 : Inv X pins σ H1 { s1 with heap := h' } := I1.kept (t' := s1.toks) hk
    refine ⟨s1.heap.objs.size + 1, [s1.heap.objs.size + 1, s1.heap.objs.size], _, _, H1, rfl, I2, turn_enumT a (s1.heap.objs.size + 1) s1.heap.objs.size, ⟨⟨.none, he⟩, hit, Nat.succ_ne_self _⟩, fun b hb => ?_, q⟩
    have e' : b = s1.heap.objs.size + 1 ∨ b = s1.heap.objs.size := by simpa using hb
    have hle : s1.heap.objs.size ≤ b := by
      rcases e' with z | z
      · rw [z]; exact Nat.le_add_right _ _
      · rw [z]; exact Nat.le_refl _
    exact I1.fpOk hle (I1.hok.fresh hle)
/-! ### the loops' forms -/
theorem for_enum {K : PySem.W.Frag} {a : Addr} {xs : List V} {g : TG} {tb : TS} {D : Ends} {σ : St} {H : Hp} (Pv : Nat → St → Hp → Prop) (h0 : Pv 0 σ H) (hl : ∀ i σ H, i ≤ xs.length → Pv i σ H → SqL K H a xs)
    (hs : ∀ i x σ H T, xs[i]? = some x → Pv i σ H → H T = none → g (.ref T) σ (upd H T (.tup [.int (i : Nat), x])) fun σ2 H2 => tb { D with nx := Pv (i + 1), ct := Pv (i + 1), bk := D.nx } σ2 H2) (hd : ∀ σ H, Pv xs.length σ H → D.nx σ H) :
    ∃ W : Nat → Nat → St → Hp → Prop, (∃ m, W 0 m σ H) ∧ ∀ i m σ H, W i m σ H →
      ((Ite K a).stop i H ∧ D.nx σ H) ∨ ((Ite K a).go i H ∧ ∃ N : St → Hp → Prop, (∀ σ' H', N σ' H' → ∃ m', m' < m ∧ W (i + 1) m' σ' H') ∧ ∀ x H', (Ite K a).yld i H x H' → g x σ H' fun σ2 H2 => tb { D with nx := N, ct := N, bk := D.nx } σ2 H2) := by
  refine ⟨fun i m σ H => m = xs.length - i ∧ i ≤ xs.length ∧ Pv i σ H, ⟨xs.length, by simp, Nat.zero_le _, h0⟩, ?_⟩
  rintro i m σ H ⟨rfl, hi, p⟩
  have q := hl i σ H hi p
  by_cases hlt : i < xs.length
  · refine .inr ⟨⟨xs, xs[i], q, by simp [hlt]⟩, Pv (i + 1), fun σ' H' p' => ⟨xs.length - (i + 1), by omega, rfl, hlt, p'⟩, fun x H' y => ?_⟩
    obtain ⟨T, x, rfl, hT, rfl, y⟩ := y
    exact hs i x σ _ T (y xs q) p hT
  · have e : i = xs.length := by omega
    subst e
    exact .inl ⟨⟨xs, q, Nat.le_refl _⟩, hd σ H p⟩
theorem for_enumT {K : PySem.W.Frag} {a : Addr} {xs : List V} {g : TG} {tb : TS} {D : Ends} {σ : St} {H : Hp} (Pv : Nat → St → Hp → Prop) (h0 : Pv 0 σ H) (hl : ∀ i σ H, i ≤ xs.length → Pv i σ H → SqT K H a xs)
    (hs : ∀ i x σ H T, xs[i]? = some x → Pv i σ H → H T = none → g (.ref T) σ (upd H T (.tup [.int (i : Nat), x])) fun σ2 H2 => tb { D with nx := Pv (i + 1), ct := Pv (i + 1), bk := D.nx } σ2 H2) (hd : ∀ σ H, Pv xs.length σ H → D.nx σ H) :
    ∃ W : Nat → Nat → St → Hp → Prop, (∃ m, W 0 m σ H) ∧ ∀ i m σ H, W i m σ H →
      ((IteT K a).stop i H ∧ D.nx σ H) ∨ ((IteT K a).go i H ∧ ∃ N : St → Hp → Prop, (∀ σ' H', N σ' H' → ∃ m', m' < m ∧ W (i + 1) m' σ' H') ∧ ∀ x H', (IteT K a).yld i H x H' → g x σ H' fun σ2 H2 => tb { D with nx := N, ct := N, bk := D.nx } σ2 H2) := by
  refine ⟨fun i m σ H => m = xs.length - i ∧ i ≤ xs.length ∧ Pv i σ H, ⟨xs.length, by simp, Nat.zero_le _, h0⟩, ?_⟩
  rintro i m σ H ⟨rfl, hi, p⟩
  have q := hl i σ H hi p
  by_cases hlt : i < xs.length
  · refine .inr ⟨⟨xs, xs[i], q, by simp [hlt]⟩, Pv (i + 1), fun σ' H' p' => ⟨xs.length - (i + 1), by omega, rfl, hlt, p'⟩, fun x H' y => ?_⟩
    obtain ⟨T, x, rfl, hT, rfl, y⟩ := y
    exact hs i x σ _ T (y xs q) p hT
  · have e : i = xs.length := by omega
    subst e
    exact .inl ⟨⟨xs, q, Nat.le_refl _⟩, hd σ H p⟩
/-- reversed(list): the list stays as it is -/
theorem for_rev {K : PySem.W.Frag} {a : Addr} {xs : List V} {g : TG} {tb : TS} {D : Ends} {σ : St} {H : Hp} (Pv : Nat → St → Hp → Prop) (h0 : Pv 0 σ H) (hl : ∀ i σ H, i ≤ xs.length → Pv i σ H → SqL K H a xs)
    (hs : ∀ i x σ H, xs[xs.length - 1 - i]? = some x → i < xs.length → Pv i σ H → g x σ H fun σ2 H2 => tb { D with nx := Pv (i + 1), ct := Pv (i + 1), bk := D.nx } σ2 H2) (hd : ∀ σ H, Pv xs.length σ H → D.nx σ H) :
    ∃ W : Nat → Nat → St → Hp → Prop, (∃ m, W 0 m σ H) ∧ ∀ i m σ H, W i m σ H →
      ((Itv K a xs.length).stop i H ∧ D.nx σ H) ∨ ((Itv K a xs.length).go i H ∧ ∃ N : St → Hp → Prop, (∀ σ' H', N σ' H' → ∃ m', m' < m ∧ W (i + 1) m' σ' H') ∧ ∀ x H', (Itv K a xs.length).yld i H x H' → g x σ H' fun σ2 H2 => tb { D with nx := N, ct := N, bk := D.nx } σ2 H2) := by
  refine ⟨fun i m σ H => m = xs.length - i ∧ i ≤ xs.length ∧ Pv i σ H, ⟨xs.length, by simp, Nat.zero_le _, h0⟩, ?_⟩
  rintro i m σ H ⟨rfl, hi, p⟩
  have q := hl i σ H hi p
  by_cases hlt : i < xs.length
  · have hj : xs.length - 1 - i < xs.length := by omega
    refine .inr ⟨⟨hlt, xs, xs[xs.length - 1 - i], q, by simp [hj]⟩, Pv (i + 1), fun σ' H' p' => ⟨xs.length - (i + 1), by omega, rfl, hlt, p'⟩, fun x H' y => ?_⟩
    obtain ⟨e, y⟩ := y
    subst e
    exact hs i x σ _ (y xs q) hlt p
  · have e : i = xs.length := by omega
    subst e
    exact .inl ⟨Nat.le_refl _, hd σ H p⟩
/-! ### heaps that only grow -/
theorem Same.new {H : Hp} {p : Addr} {o : HO} (h : H p = none) : Same H (upd H p o) := fun b u e => by rw [upd_ne (ne_of_none e h)]; exact e
theorem Same.new' {H H1 : Hp} {p : Addr} {o : HO} (s : Same H H1) (h : H1 p = none) : Same H (upd H1 p o) := s.trans (Same.new h)
/-- an object that is not among the tracked is changed -/
theorem Same.upd {H H1 : Hp} {p : Addr} {o : HO} (s : Same H H1) (h : H p = none) : Same H (upd H1 p o) := fun b u e => by rw [upd_ne (ne_of_none e h)]; exact s b u e
/-! ### comprehensions whose turns leave all as it was: the values ys -/
theorem lc_same {K : PySem.W.Frag} {a : Addr} {xs ys : List V} {g : TG} {te : TE} {vs : List Nat} {σ : St} {H1 : Hp} {Q : VK} (hl : SqL K H1 a xs) (hlen : xs.length = ys.length) (hz : ys.length ≤ sizeLine)
    (hs : ∀ (i : Nat) (x y : V) (H2 : Hp) (R : VK), xs[i]? = some x → ys[i]? = some y → Same H1 H2 → (∀ H3, Same H2 H3 → R y H3) → g x (wipe σ vs) H2 fun σ2 H3 => wipe σ2 vs = wipe σ vs ∧ te σ2 H3 R)
    (hd : ∀ H2 D, Same H1 H2 → H2 D = some (.lst ys) → Q (.ref D) H2) :
    ∀ D, H1 D = none → ∃ W : Nat → Nat → Hp → Prop, (∃ m, W 0 m (upd H1 D (.lst []))) ∧ ∀ i m H, W i m H →
      ((Itl K a).stop i H ∧ Q (.ref D) H) ∨ ((Itl K a).go i H ∧ ∃ Nx : Hp → Prop, (∀ H', Nx H' → ∃ m', m' < m ∧ W (i + 1) m' H') ∧ ∀ x H', (Itl K a).yld i H x H' → g x (wipe σ vs) H' fun σ2 H2 => wipe σ2 vs = wipe σ vs ∧ tYes σ2 H2 fun b H3 =>
        if b = true then te σ2 H3 fun y H4 => ∃ acc, H4 D = some (.lst acc) ∧ acc.length < sizeLine ∧ Nx (upd H4 D (.lst (acc ++ [y]))) else Nx H3) := by
  intro D hD
  refine lc_list (K := K) (a := a) (xs := xs) (tt := tYes) (te := te) (Qd := fun H => Q (.ref D) H) (fun i H => Same H1 H ∧ H D = some (.lst (ys.take i))) ⟨Same.new hD, upd_same⟩ (fun i H _ p => p.1.seq hl) (fun i x H hx p => ?_) (fun H p => ?_)
  · obtain ⟨s1, hDi⟩ := p
    have hi : i < ys.length := by rw [← hlen]; exact (List.getElem?_eq_some_iff.mp hx).1
    have hy : ys[i]? = some ys[i] := List.getElem?_eq_getElem hi
    refine hs i x ys[i] H (fun y H4 => ∃ acc, H4 D = some (.lst acc) ∧ acc.length < sizeLine ∧ (Same H1 (upd H4 D (.lst (acc ++ [y]))) ∧ (upd H4 D (.lst (acc ++ [y]))) D = some (.lst (ys.take (i + 1))))) hx hy s1 fun H3 s3 => ?_
    refine ⟨ys.take i, s3 _ _ hDi, by rw [List.length_take]; omega, (s1.trans s3).upd hD, ?_⟩
    rw [upd_same, List.take_succ, hy]
    rfl
  · obtain ⟨s1, hDi⟩ := p
    rw [hlen, List.take_length] at hDi
    exact hd H D s1 hDi
/-- .. with a test: o tells of each turn its value, or none -/
theorem lc_filt {K : PySem.W.Frag} {a : Addr} {xs : List V} {o : Nat → Option V} {g : TG} {tt : TT} {te : TE} {vs : List Nat} {σ : St} {H1 : Hp} {Q : VK} (hl : SqL K H1 a xs) (hz : xs.length ≤ sizeLine)
    (hs : ∀ (i : Nat) (x : V) (H2 : Hp) (F : VK) (N : Hp → Prop), xs[i]? = some x → Same H1 H2 → (∀ H3, Same H2 H3 → match o i with | some y => F y H3 | none => N H3) →
      g x (wipe σ vs) H2 fun σ2 H3 => wipe σ2 vs = wipe σ vs ∧ tt σ2 H3 fun b H4 => if b = true then te σ2 H4 F else N H4)
    (hd : ∀ H2 D, Same H1 H2 → H2 D = some (.lst ((List.range xs.length).filterMap o)) → Q (.ref D) H2) :
    ∀ D, H1 D = none → ∃ W : Nat → Nat → Hp → Prop, (∃ m, W 0 m (upd H1 D (.lst []))) ∧ ∀ i m H, W i m H →
      ((Itl K a).stop i H ∧ Q (.ref D) H) ∨ ((Itl K a).go i H ∧ ∃ Nx : Hp → Prop, (∀ H', Nx H' → ∃ m', m' < m ∧ W (i + 1) m' H') ∧ ∀ x H', (Itl K a).yld i H x H' → g x (wipe σ vs) H' fun σ2 H2 => wipe σ2 vs = wipe σ vs ∧ tt σ2 H2 fun b H3 =>
        if b = true then te σ2 H3 fun y H4 => ∃ acc, H4 D = some (.lst acc) ∧ acc.length < sizeLine ∧ Nx (upd H4 D (.lst (acc ++ [y]))) else Nx H3) := by
  intro D hD
  refine lc_list (K := K) (a := a) (xs := xs) (tt := tt) (te := te) (Qd := fun H => Q (.ref D) H) (fun i H => Same H1 H ∧ H D = some (.lst ((List.range i).filterMap o))) ⟨Same.new hD, upd_same⟩ (fun i H _ p => p.1.seq hl) (fun i x H hx p => ?_) (fun H p => hd H D p.1 p.2)
  obtain ⟨s1, hDi⟩ := p
  have hi : i < xs.length := (List.getElem?_eq_some_iff.mp hx).1
  have hlen : ((List.range i).filterMap o).length < sizeLine := by
    have q := List.length_filterMap_le o (List.range i)
    rw [List.length_range] at q
    omega
  refine hs i x H (fun y H4 => ∃ acc, H4 D = some (.lst acc) ∧ acc.length < sizeLine ∧ (Same H1 (upd H4 D (.lst (acc ++ [y]))) ∧ (upd H4 D (.lst (acc ++ [y]))) D = some (.lst ((List.range (i + 1)).filterMap o)))) (fun H3 => Same H1 H3 ∧ H3 D = some (.lst ((List.range (i + 1)).filterMap o))) hx s1 fun H3 s3 => ?_
  cases ho : o i with
  | none =>
    refine ⟨s1.trans s3, ?_⟩
    rw [List.range_succ, List.filterMap_append, s3 _ _ hDi]
    simp [ho]
  | some y =>
    refine ⟨(List.range i).filterMap o, s3 _ _ hDi, hlen, (s1.trans s3).upd hD, ?_⟩
    rw [upd_same, List.range_succ, List.filterMap_append]
    simp [ho]
theorem lc_str {x : Str} {ys : List V} {g : TG} {te : TE} {vs : List Nat} {σ : St} {H1 : Hp} {Q : VK} (hlen : x.cps.size = ys.length) (hz : ys.length ≤ sizeLine)
    (hs : ∀ (i c : Nat) (y : V) (H2 : Hp) (R : VK), x.cps[i]? = some c → ys[i]? = some y → Same H1 H2 → (∀ H3, Same H2 H3 → R y H3) → g (.str ⟨#[c]⟩) (wipe σ vs) H2 fun σ2 H3 => wipe σ2 vs = wipe σ vs ∧ te σ2 H3 R)
    (hd : ∀ H2 D, Same H1 H2 → H2 D = some (.lst ys) → Q (.ref D) H2) :
    ∀ D, H1 D = none → ∃ W : Nat → Nat → Hp → Prop, (∃ m, W 0 m (upd H1 D (.lst []))) ∧ ∀ i m H, W i m H →
      ((Its x).stop i H ∧ Q (.ref D) H) ∨ ((Its x).go i H ∧ ∃ Nx : Hp → Prop, (∀ H', Nx H' → ∃ m', m' < m ∧ W (i + 1) m' H') ∧ ∀ x' H', (Its x).yld i H x' H' → g x' (wipe σ vs) H' fun σ2 H2 => wipe σ2 vs = wipe σ vs ∧ tYes σ2 H2 fun b H3 =>
        if b = true then te σ2 H3 fun y H4 => ∃ acc, H4 D = some (.lst acc) ∧ acc.length < sizeLine ∧ Nx (upd H4 D (.lst (acc ++ [y]))) else Nx H3) := by
  intro D hD
  refine ⟨fun i m H => m = ys.length - i ∧ i ≤ ys.length ∧ Same H1 H ∧ H D = some (.lst (ys.take i)), ⟨ys.length, by simp, Nat.zero_le _, Same.new hD, upd_same⟩, ?_⟩
  rintro i m H ⟨rfl, hi, s1, hDi⟩
  by_cases hlt : i < ys.length
  · have hy : ys[i]? = some ys[i] := List.getElem?_eq_getElem hlt
    refine .inr ⟨by show i < x.cps.size; omega, fun H' => Same H1 H' ∧ H' D = some (.lst (ys.take (i + 1))), fun H' p => ⟨ys.length - (i + 1), by omega, rfl, hlt, p.1, p.2⟩, fun x' H' y => ?_⟩
    obtain ⟨e, c, hc, e2⟩ := y
    subst e e2
    refine hs i c ys[i] _ (fun y H4 => ∃ acc, H4 D = some (.lst acc) ∧ acc.length < sizeLine ∧ (Same H1 (upd H4 D (.lst (acc ++ [y]))) ∧ (upd H4 D (.lst (acc ++ [y]))) D = some (.lst (ys.take (i + 1))))) hc hy s1 fun H3 s3 => ?_
    refine ⟨ys.take i, s3 _ _ hDi, by rw [List.length_take]; omega, (s1.trans s3).upd hD, ?_⟩
    rw [upd_same, List.take_succ, hy]
    rfl
  · have e : i = ys.length := by omega
    subst e
    rw [List.take_length] at hDi
    exact .inl ⟨by show x.cps.size ≤ ys.length; omega, hd H D s1 hDi⟩
theorem lcT_same {K : PySem.W.Frag} {a : Addr} {xs ys : List V} {tl : TE} {g : TG} {te : TE} {vs : List Nat} {σ : St} {H1 : Hp} {Q : VK} (ht : ∀ R : VK, R (.ref a) H1 → tl σ H1 R) (hl : SqL K H1 a xs) (hlen : xs.length = ys.length) (hz : ys.length ≤ sizeLine)
    (hs : ∀ (i : Nat) (x y : V) (H2 : Hp) (R : VK), xs[i]? = some x → ys[i]? = some y → Same H1 H2 → (∀ H3, Same H2 H3 → R y H3) → g x (wipe σ vs) H2 fun σ2 H3 => wipe σ2 vs = wipe σ vs ∧ te σ2 H3 R)
    (hd : ∀ H2 D, Same H1 H2 → H2 D = some (.lst ys) → Q (.ref D) H2) : tLc (iList K tl) g tYes te vs σ H1 Q := ht _ ⟨a, rfl, ⟨_, hl⟩, lc_same hl hlen hz hs hd⟩
theorem lcT_filt {K : PySem.W.Frag} {a : Addr} {xs : List V} (o : Nat → Option V) {tl : TE} {g : TG} {tt : TT} {te : TE} {vs : List Nat} {σ : St} {H1 : Hp} {Q : VK} (ht : ∀ R : VK, R (.ref a) H1 → tl σ H1 R) (hl : SqL K H1 a xs) (hz : xs.length ≤ sizeLine)
    (hs : ∀ (i : Nat) (x : V) (H2 : Hp) (F : VK) (N : Hp → Prop), xs[i]? = some x → Same H1 H2 → (∀ H3, Same H2 H3 → match o i with | some y => F y H3 | none => N H3) →
      g x (wipe σ vs) H2 fun σ2 H3 => wipe σ2 vs = wipe σ vs ∧ tt σ2 H3 fun b H4 => if b = true then te σ2 H4 F else N H4)
    (hd : ∀ H2 D, Same H1 H2 → H2 D = some (.lst ((List.range xs.length).filterMap o)) → Q (.ref D) H2) : tLc (iList K tl) g tt te vs σ H1 Q := ht _ ⟨a, rfl, ⟨_, hl⟩, lc_filt hl hz hs hd⟩
theorem lcT_str {x : Str} {ys : List V} {tl : TE} {g : TG} {te : TE} {vs : List Nat} {σ : St} {H1 : Hp} {Q : VK} (ht : ∀ R : VK, R (.str x) H1 → tl σ H1 R) (hlen : x.cps.size = ys.length) (hz : ys.length ≤ sizeLine)
    (hs : ∀ (i c : Nat) (y : V) (H2 : Hp) (R : VK), x.cps[i]? = some c → ys[i]? = some y → Same H1 H2 → (∀ H3, Same H2 H3 → R y H3) → g (.str ⟨#[c]⟩) (wipe σ vs) H2 fun σ2 H3 => wipe σ2 vs = wipe σ vs ∧ te σ2 H3 R)
    (hd : ∀ H2 D, Same H1 H2 → H2 D = some (.lst ys) → Q (.ref D) H2) : tLc (iStr tl) g tYes te vs σ H1 Q := ht _ ⟨x, rfl, lc_str hlen hz hs hd⟩
end L2

end
section
set_option Elab.async false
set_option linter.all false
set_option maxRecDepth 100000
set_option maxHeartbeats 4000000
/-! more forms: zip, range and enumerate in comprehensions, *= -/
namespace L2
open PySem PySem.Spec PyProof.Rows
def ipM : TIp := fun x y H Q => ∃ i j, x = .int i ∧ y = .int j ∧ CMul i j ∧ Q (.int (i * j)) H
theorem ip_mul {X : Cx} : PIp X .Mult ipM := by
  intro pins s σ H x y v u Q I r1 r2 h
  obtain ⟨i, j, e1, e2, hc, q⟩ := h
  subst e1; subst e2
  obtain ⟨t, rfl⟩ := r1
  obtain ⟨t', rfl⟩ := r2
  exact imul_int ⟨.int _, H, I.tok _, ⟨_, rfl⟩, q⟩ hc.ok
theorem pg_tupK {X : Cx} (K : PySem.W.Frag) (n : Nat) {es : List Expr} {k : Nat} {t : TGs} {pos : Pos} (hc : X.calm = true) (h : PGs X es t)
    (hn : (assignEach es X.env).length = n := by rfl) (hst : (assignEach es X.env).findIdx? (·.1) = none := by rfl) (hK : X.K = K := by rfl) : PG X (.Tuple es k pos) (gTup K n t) := hK ▸ pg_tup hc h hn hst
theorem call_listK {X : Cx} (K : PySem.W.Frag) (hK : X.K = K := by rfl) : CallR X (.type "list") (fun xs H Q => ∃ p ys, xs = [.ref p] ∧ (SqL K H p ys ∨ SqT K H p ys) ∧ ∀ l, H l = none → Q (.ref l) (upd H l (.lst ys))) := hK ▸ call_list_of
theorem boot_list5 : bootBuiltins "list" = some (.type "list") := by decide +kernel
theorem for_zip {K : PySem.W.Frag} {a b : Addr} {xs ys : List V} {g : TG} {tb : TS} {D : Ends} {σ : St} {H : Hp} (Pv : Nat → St → Hp → Prop) (hlen : xs.length = ys.length) (h0 : Pv 0 σ H) (hl : ∀ i σ H, i ≤ xs.length → Pv i σ H → SqL K H a xs ∧ SqL K H b ys)
    (hs : ∀ i x y σ H T, xs[i]? = some x → ys[i]? = some y → Pv i σ H → H T = none → g (.ref T) σ (upd H T (.tup [x, y])) fun σ2 H2 => tb { D with nx := Pv (i + 1), ct := Pv (i + 1), bk := D.nx } σ2 H2) (hd : ∀ σ H, Pv xs.length σ H → D.nx σ H) :
    ∃ W : Nat → Nat → St → Hp → Prop, (∃ m, W 0 m σ H) ∧ ∀ i m σ H, W i m σ H →
      ((Itz K a b).stop i H ∧ D.nx σ H) ∨ ((Itz K a b).go i H ∧ ∃ N : St → Hp → Prop, (∀ σ' H', N σ' H' → ∃ m', m' < m ∧ W (i + 1) m' σ' H') ∧ ∀ x H', (Itz K a b).yld i H x H' → g x σ H' fun σ2 H2 => tb { D with nx := N, ct := N, bk := D.nx } σ2 H2) := by
  refine ⟨fun i m σ H => m = xs.length - i ∧ i ≤ xs.length ∧ Pv i σ H, ⟨xs.length, by simp, Nat.zero_le _, h0⟩, ?_⟩
  rintro i m σ H ⟨rfl, hi, p⟩
  obtain ⟨q1, q2⟩ := hl i σ H hi p
  by_cases hlt : i < xs.length
  · have hlt2 : i < ys.length := by omega
    refine .inr ⟨⟨xs, ys, xs[i], ys[i], q1, q2, by simp [hlt], by simp [hlt2]⟩, Pv (i + 1), fun σ' H' p' => ⟨xs.length - (i + 1), by omega, rfl, hlt, p'⟩, fun x H' y => ?_⟩
    obtain ⟨T, x, y, rfl, hT, rfl, y1, y2⟩ := y
    exact hs i x y σ _ T (y1 xs q1) (y2 ys q2) p hT
  · have e : i = xs.length := by omega
    subst e
    exact .inl ⟨⟨xs, ys, q1, q2, .inl (Nat.le_refl _)⟩, hd σ H p⟩
/-- over a range, the turns leave all as it was -/
theorem lc_rsame {lo : Int} {n : Nat} {ys : List V} {g : TG} {te : TE} {vs : List Nat} {σ : St} {H1 : Hp} {Q : VK} (hlen : n = ys.length) (hz : ys.length ≤ sizeLine)
    (hs : ∀ (i : Nat) (y : V) (H2 : Hp) (R : VK), i < n → ys[i]? = some y → Same H1 H2 → (∀ H3, Same H2 H3 → R y H3) → g (.int (lo + i)) (wipe σ vs) H2 fun σ2 H3 => wipe σ2 vs = wipe σ vs ∧ te σ2 H3 R)
    (hd : ∀ H2 D, Same H1 H2 → H2 D = some (.lst ys) → Q (.ref D) H2) :
    ∀ D, H1 D = none → ∃ W : Nat → Nat → Hp → Prop, (∃ m, W 0 m (upd H1 D (.lst []))) ∧ ∀ i m H, W i m H →
      ((Itr lo n).stop i H ∧ Q (.ref D) H) ∨ ((Itr lo n).go i H ∧ ∃ Nx : Hp → Prop, (∀ H', Nx H' → ∃ m', m' < m ∧ W (i + 1) m' H') ∧ ∀ x H', (Itr lo n).yld i H x H' → g x (wipe σ vs) H' fun σ2 H2 => wipe σ2 vs = wipe σ vs ∧ tYes σ2 H2 fun b H3 =>
        if b = true then te σ2 H3 fun y H4 => ∃ acc, H4 D = some (.lst acc) ∧ acc.length < sizeLine ∧ Nx (upd H4 D (.lst (acc ++ [y]))) else Nx H3) := by
  intro D hD
  refine lc_range (tt := tYes) (te := te) (Qd := fun H => Q (.ref D) H) (fun i H => Same H1 H ∧ H D = some (.lst (ys.take i))) ⟨Same.new hD, upd_same⟩ (fun i H hi p => ?_) (fun H p => ?_)
  · obtain ⟨s1, hDi⟩ := p
    have hi' : i < ys.length := by omega
    have hy : ys[i]? = some ys[i] := List.getElem?_eq_getElem hi'
    refine hs i ys[i] H (fun y H4 => ∃ acc, H4 D = some (.lst acc) ∧ acc.length < sizeLine ∧ (Same H1 (upd H4 D (.lst (acc ++ [y]))) ∧ (upd H4 D (.lst (acc ++ [y]))) D = some (.lst (ys.take (i + 1))))) hi hy s1 fun H3 s3 => ?_
    refine ⟨ys.take i, s3 _ _ hDi, by rw [List.length_take]; omega, (s1.trans s3).upd hD, ?_⟩
    rw [upd_same, List.take_succ, hy]
    rfl
  · obtain ⟨s1, hDi⟩ := p
    rw [hlen, List.take_length] at hDi
    exact hd H D s1 hDi
/-! ### the same, as readings -/
theorem lcT_rsame {ta : TA} {n : Nat} {ys : List V} {g : TG} {te : TE} {vs : List Nat} {σ : St} {H1 : Hp} {Q : VK} (ht : ∀ R : List V → Hp → Prop, R [.int (n : Int)] H1 → ta σ H1 R) (hn : n < 2 ^ 62) (hlen : n = ys.length) (hz : ys.length ≤ sizeLine)
    (hs : ∀ (i : Nat) (y : V) (H2 : Hp) (R : VK), i < n → ys[i]? = some y → Same H1 H2 → (∀ H3, Same H2 H3 → R y H3) → g (.int (0 + i)) (wipe σ vs) H2 fun σ2 H3 => wipe σ2 vs = wipe σ vs ∧ te σ2 H3 R)
    (hd : ∀ H2 D, Same H1 H2 → H2 D = some (.lst ys) → Q (.ref D) H2) : tLc (iRng1 ta) g tYes te vs σ H1 Q := by
  refine ht _ ⟨n, rfl, ?_, ?_, ?_⟩
  · have e : (2 : Int) ^ 62 = 4611686018427387904 := by decide
    rw [e]
    omega
  · have e : (2 : Int) ^ 62 = 4611686018427387904 := by decide
    have e2 : (2 : Nat) ^ 62 = 4611686018427387904 := by decide
    rw [e2] at hn
    rw [e]
    omega
  · exact lc_rsame (lo := 0) (n := n) (g := g) (te := te) hlen hz hs hd
theorem lcT_call {K : PySem.W.Frag} {xs ys : List V} {tl : TE} {g : TG} {te : TE} {vs : List Nat} {σ : St} {H0 : Hp} {Q : VK} (ht : ∀ R : VK, (∀ H1 a, Same H0 H1 → H1 a = some (.lst xs) → R (.ref a) H1) → tl σ H0 R) (hlen : xs.length = ys.length) (hz : ys.length ≤ sizeLine)
    (hs : ∀ (i : Nat) (x y : V) (H2 : Hp) (R : VK), xs[i]? = some x → ys[i]? = some y → Same H0 H2 → (∀ H3, Same H2 H3 → R y H3) → g x (wipe σ vs) H2 fun σ2 H3 => wipe σ2 vs = wipe σ vs ∧ te σ2 H3 R)
    (hd : ∀ H2 D, Same H0 H2 → H2 D = some (.lst ys) → Q (.ref D) H2) : tLc (iList K tl) g tYes te vs σ H0 Q := by
  refine ht _ fun H1 a s1 h1 => ⟨a, rfl, ⟨_, SqL.of h1⟩, ?_⟩
  exact lc_same (K := K) (g := g) (te := te) (SqL.of h1) hlen hz (fun i x y H2 R hx hy s2 hR => hs i x y H2 R hx hy (s1.trans s2) hR) (fun H2 D s2 hD => hd H2 D (s1.trans s2) hD)
/-- a list of numbers -/
def natV (d : Nat) : V := .int (d : Int)
end L2

end
section
set_option Elab.async false
set_option linter.all false
set_option maxRecDepth 100000
/-! a set's table: its places rise -/
namespace LkS
open PySem
/-- the places rise -/
def Rise (xs : Array Nat) : Prop := ∀ i j : Nat, ∀ a b : Nat, i < j → xs[i]? = some a → xs[j]? = some b → a < b
theorem Rise.le {xs : Array Nat} (h : Rise xs) {i j a b : Nat} (hij : i ≤ j) (ha : xs[i]? = some a) (hb : xs[j]? = some b) : a ≤ b := by
  rcases Nat.lt_or_eq_of_le hij with q | q
  · exact Nat.le_of_lt (h i j a b q ha hb)
  · subst q
    rw [ha] at hb
    cases hb
    exact Nat.le_refl _
theorem below_go {xs : Array Nat} (h : Rise xs) (j : Nat) : ∀ (fuel lo hi : Nat), lo ≤ hi → hi ≤ xs.size → hi - lo ≤ fuel →
    (∀ k a, k < lo → xs[k]? = some a → a < j) → (∀ k a, hi ≤ k → xs[k]? = some a → j ≤ a) →
    SetTable.below.go xs j fuel lo hi ≤ xs.size ∧ (∀ k a, k < SetTable.below.go xs j fuel lo hi → xs[k]? = some a → a < j) ∧ (∀ k a, SetTable.below.go xs j fuel lo hi ≤ k → xs[k]? = some a → j ≤ a)
  | 0, lo, hi, h1, h2, h3, h4, h5 => by
    have e : lo = hi := by omega
    subst e
    exact ⟨h2, h4, h5⟩
  | fuel + 1, lo, hi, h1, h2, h3, h4, h5 => by
    unfold SetTable.below.go
    by_cases hlt : lo < hi
    · rw [if_pos hlt]
      have hm : (lo + hi) / 2 < xs.size := by omega
      have em : xs[(lo + hi) / 2]? = some xs[(lo + hi) / 2] := Array.getElem?_eq_getElem hm
      have ed : xs.getD ((lo + hi) / 2) j = xs[(lo + hi) / 2] := by
        rw [Array.getD_eq_getD_getElem?, em]
        rfl
      simp only
      rw [ed]
      by_cases hc : xs[(lo + hi) / 2] < j
      · rw [if_pos hc]
        refine below_go h j fuel _ _ (by omega) h2 (by omega) (fun k a hk ha => ?_) h5
        have := h.le (i := k) (j := (lo + hi) / 2) (by omega) ha em
        omega
      · rw [if_neg hc]
        refine below_go h j fuel _ _ (by omega) (by omega) (by omega) h4 (fun k a hk ha => ?_)
        have := h.le (i := (lo + hi) / 2) (j := k) hk em ha
        omega
    · rw [if_neg hlt]
      have e : lo = hi := by omega
      subst e
      exact ⟨h2, h4, h5⟩
theorem below_at {xs : Array Nat} (h : Rise xs) (j : Nat) : SetTable.below xs j ≤ xs.size ∧ (∀ k a, k < SetTable.below xs j → xs[k]? = some a → a < j) ∧ (∀ k a, SetTable.below xs j ≤ k → xs[k]? = some a → j ≤ a) := by
  unfold SetTable.below
  refine below_go h j xs.size 0 xs.size (Nat.zero_le _) (Nat.le_refl _) (by omega) (fun k a hk => absurd hk (Nat.not_lt_zero _)) (fun k a hk ha => ?_)
  have := (Array.getElem?_eq_some_iff.mp ha).1
  omega
theorem insert_get {α : Type} (xs : Array α) (p : Nat) (x : α) (hp : p ≤ xs.size) (k : Nat) : (SetTable.insertAt xs p x)[k]? = if k < p then xs[k]? else if k = p then some x else xs[k - 1]? := by
  rw [← Array.getElem?_toList, SetTable.toList_insertAt]
  have hl : (xs.toList.take p).length = p := by rw [List.length_take, Array.length_toList]; omega
  by_cases h1 : k < p
  · rw [if_pos h1, List.getElem?_append_left (by omega), List.getElem?_take, if_pos h1, Array.getElem?_toList]
  · rw [if_neg h1, List.getElem?_append_right (by omega), hl]
    by_cases h2 : k = p
    · rw [if_pos h2, h2, Nat.sub_self]
      rfl
    · rw [if_neg h2]
      have e : k - p = (k - p - 1) + 1 := by omega
      rw [e, List.getElem?_cons_succ, List.getElem?_drop, Array.getElem?_toList]
      congr 1
      omega
theorem Rise.put {xs : Array Nat} (h : Rise xs) {j : Nat} (hn : xs[SetTable.below xs j]? ≠ some j) : Rise (SetTable.insertAt xs (SetTable.below xs j) j) := by
  obtain ⟨b1, b2, b3⟩ := below_at h j
  intro i k a b hik ha hb
  rw [insert_get _ _ _ b1] at ha hb
  have strict : ∀ m c, SetTable.below xs j ≤ m → xs[m]? = some c → j < c := by
    intro m c hm hc
    rcases Nat.lt_or_eq_of_le (b3 m c hm hc) with q | q
    · exact q
    · subst q
      exfalso
      have hlt : SetTable.below xs j < xs.size := by
        have := (Array.getElem?_eq_some_iff.mp hc).1
        omega
      have e0 : xs[SetTable.below xs j]? = some xs[SetTable.below xs j] := Array.getElem?_eq_getElem hlt
      have q1 := b3 _ _ (Nat.le_refl _) e0
      have q2 := h.le hm e0 hc
      have q3 : xs[SetTable.below xs j] = j := by omega
      rw [q3] at e0
      exact hn e0
  by_cases h1 : i < SetTable.below xs j
  · rw [if_pos h1] at ha
    by_cases h2 : k < SetTable.below xs j
    · rw [if_pos h2] at hb
      exact h i k a b hik ha hb
    · rw [if_neg h2] at hb
      by_cases h3 : k = SetTable.below xs j
      · rw [if_pos h3] at hb
        cases hb
        exact b2 i a h1 ha
      · rw [if_neg h3] at hb
        exact h i (k - 1) a b (by omega) ha hb
  · rw [if_neg h1] at ha
    have h2 : ¬ k < SetTable.below xs j := by omega
    have h3 : ¬ k = SetTable.below xs j := by omega
    rw [if_neg h2, if_neg h3] at hb
    by_cases h4 : i = SetTable.below xs j
    · rw [if_pos h4] at ha
      cases ha
      exact strict (k - 1) b (by omega) hb
    · rw [if_neg h4] at ha
      exact h (i - 1) (k - 1) a b (by omega) ha hb
theorem Rise.range (n : Nat) : Rise (Array.range n) := by
  intro i j a b hij ha hb
  have hi := (Array.getElem?_eq_some_iff.mp ha)
  have hj := (Array.getElem?_eq_some_iff.mp hb)
  obtain ⟨h1, e1⟩ := hi
  obtain ⟨h2, e2⟩ := hj
  simp at e1 e2
  omega
theorem Rise.nil : Rise #[] := by
  intro i j a b hij ha hb
  simp at ha
/-- a slot that is not live is not among the places -/
theorem slot_free {t : SetTable} {j : Nat} (h : ∀ i, t.slot j ≠ .live i) : t.place[SetTable.below t.place j]? ≠ some j := by
  intro e
  have q : t.slot j = .live (SetTable.below t.place j) := by
    unfold SetTable.slot
    simp only [e]
    rw [if_pos (by simp)]
  exact h _ q
theorem probe_free (t : SetTable) (f : Nat → Int) (h : Int) (hf : ∀ i, (f i == h) = false) : ∀ (fuel : Nat) (p : SetTable.Probe) (j : Nat) (d : Option Nat), (∀ e, p.dummy = some e → t.slot e = .dummy) → SetTable.probe.go t f h fuel p = some (.empty j d) →
    t.slot j = .empty ∧ ∀ e, d = some e → t.slot e = .dummy
  | 0, p, j, d, hp, e => by
    unfold SetTable.probe.go at e
    cases e
  | fuel + 1, p, j, d, hp, e => by
    unfold SetTable.probe.go at e
    have adv : ∀ q : SetTable.Probe, (t.advance q).dummy = q.dummy := by
      intro q
      unfold SetTable.advance
      split <;> rfl
    cases hs : t.slot p.j with
    | empty =>
      rw [hs] at e
      simp only [Option.some.injEq, SetTable.Met.empty.injEq] at e
      obtain ⟨e1, e2⟩ := e
      subst e1 e2
      exact ⟨hs, hp⟩
    | dummy =>
      rw [hs] at e
      refine probe_free t f h hf fuel _ j d (fun x hx => ?_) e
      rw [adv] at hx
      cases hx
      exact hs
    | live i =>
      rw [hs] at e
      simp only [hf i] at e
      refine probe_free t f h hf fuel _ j d (fun x hx => ?_) (by simpa using e)
      rw [adv] at hx
      exact hp x hx
theorem freeSlot_free {t : SetTable} {h : Int} {slot : Nat} {b : Bool} (e : t.freeSlot h = some (slot, b)) : ∀ i, t.slot slot ≠ .live i := by
  unfold SetTable.freeSlot at e
  split at e
  · rename_i j d hm
    have q := probe_free t (fun _ => h + 1) h (fun i => by simp; omega) _ _ j d (fun x hx => by cases hx) hm
    simp only [Option.some.injEq, Prod.mk.injEq] at e
    obtain ⟨e1, _⟩ := e
    intro i
    cases d with
    | none =>
      have e1 : j = slot := e1
      rw [← e1, q.1]
      exact fun z => by cases z
    | some x =>
      have e1 : x = slot := e1
      rw [← e1, q.2 x rfl]
      exact fun z => by cases z
  · cases e
/-- rises, and is led as b says -/
def Good (b : Bool) (t : SetTable) : Prop := Rise t.place ∧ t.led = b
theorem Good.standIn {b : Bool} {t : SetTable} (h : t.led = b) (n : Nat) : Good b (t.standIn n) := ⟨Rise.range n, h⟩
theorem layNew_good {b : Bool} {t : SetTable} (g : Good b t) (es : Array (Int × Value)) (h : Int) (x : Value) : Good b (layNew t es h x).2.1 := by
  unfold layNew
  split
  · rename_i slot wd hs
    show Good b (SetTable.orStandIn _ _)
    unfold SetTable.orStandIn
    split
    · exact ⟨g.1.put (slot_free (freeSlot_free hs)), g.2⟩
    · exact Good.standIn (t := { t with place := SetTable.insertAt t.place (SetTable.below t.place slot) slot, dummies := _ }) g.2 _
  · exact Good.standIn g.2 _
theorem filterMap_rise {β : Type} (f : Nat → Option β) : ∀ n, Rise (((List.range n).filterMap fun j => (f j).map (j, ·)).map (·.1)).toArray := by
  intro n
  have key : ((List.range n).filterMap fun j => (f j).map (j, ·)).map (·.1) = (List.range n).filter fun j => (f j).isSome := by
    induction n with
    | zero => rfl
    | succ n ih =>
      rw [List.range_succ, List.filterMap_append, List.map_append, ih, List.filter_append]
      congr 1
      cases hf : f n <;> simp [hf]
  rw [key]
  have pw : ((List.range n).filter fun j => (f j).isSome).Pairwise (· < ·) := List.pairwise_lt_range.filter _
  intro i j a b hij ha hb
  rw [List.getElem?_toArray] at ha hb
  obtain ⟨h1, e1⟩ := List.getElem?_eq_some_iff.mp ha
  obtain ⟨h2, e2⟩ := List.getElem?_eq_some_iff.mp hb
  rw [← e1, ← e2]
  exact List.pairwise_iff_getElem.mp pw i j h1 h2 hij
theorem laid_good {mask finger moves : Nat} {led plain : Bool} {hashes : Array Int} {t : SetTable} {order : Array Nat} (h : SetTable.laid mask finger moves led plain hashes = some (t, order)) : Good led t := by
  unfold SetTable.laid at h
  cases ho : SetTable.layClean mask hashes with
  | none => rw [ho] at h; cases h
  | some owner =>
    rw [ho] at h
    simp only [Option.bind_eq_bind, Option.bind_some, Option.pure_def, Option.some.injEq, Prod.mk.injEq] at h
    obtain ⟨e, _⟩ := h
    subst e
    exact ⟨filterMap_rise _ _, rfl⟩
theorem relayAll_good {b : Bool} {t : SetTable} (g : Good b t) (es : Array (Int × Value)) (n : Nat) : Good b (relayAll t es n).2.1 := by
  unfold relayAll
  split
  · rename_i t' order hr
    simp only
    split
    · unfold SetTable.relaid at hr
      have q := laid_good hr
      rw [g.2] at q
      exact q
    · exact Good.standIn g.2 _
  · exact Good.standIn g.2 _
end LkS

end
section
set_option Elab.async false
set_option linter.all false
set_option maxRecDepth 100000
/-! set(list of ints): the set's table in order -/
namespace LkS
open PySem
open Sem (wp)
section
variable {prog : Program} {w : World} {A : Around} {E : Value → Shared → Prop} {s : Shared}
/-- a set of ints at a: members S, n of them, its table in order -/
def SetR (prog : Program) (w : World) (h : Heap) (a : Addr) (S : Int → Bool) (n : Nat) : Prop := ∃ (ob : Obj) (xs : Array (Int × Value)) (ep : Nat) (t : SetTable), h.get? a = some ob ∧ ob.ExactSet ∧ ob.data = .set xs ep t ∧
  ElemsOf (intKind prog w) xs.toList ∧ (∀ k, S k = true ↔ ∃ e ∈ xs.toList, (intKind prog w).is k e.2 = true) ∧ xs.size < scanBound ∧ t.fits xs.size = true ∧ xs.size = n ∧ Good (!w.params.followText "set-order") t
theorem SetR.keep {h h' : Heap} {a : Addr} {S : Int → Bool} {n : Nat} (r : SetR prog w h a S n) (k : ∀ o, h.get? a = some o → h'.get? a = some o) : SetR prog w h' a S n := by
  obtain ⟨ob, xs, ep, t, g0, rest⟩ := r
  exact ⟨ob, xs, ep, t, k _ g0, rest⟩
theorem SetR.congr {h : Heap} {a : Addr} {S S' : Int → Bool} {n : Nat} (r : SetR prog w h a S n) (e : ∀ k, S k = S' k) : SetR prog w h a S' n := by
  have q : S = S' := funext e
  rw [← q]
  exact r
theorem stored {h : Heap} {a : Addr} {ob : Obj} {xs ys : Array (Int × Value)} {ep : Nat} {t u : SetTable} {S : Int → Bool} (g0 : h.get? a = some ob) (x0 : ob.ExactSet) (d0 : ob.data = .set xs ep t) (el : ElemsOf (intKind prog w) ys.toList)
    (me : ∀ k, S k = true ↔ ∃ e ∈ ys.toList, (intKind prog w).is k e.2 = true) (bd : ys.size < scanBound) (ft : u.fits ys.size = true) (gd : Good (!w.params.followText "set-order") u) :
    (h.update a (Obj.putSet ys u)).get? a = some { ob with data := .set ys (ep + 1) u } ∧ SetR prog w (h.update a (Obj.putSet ys u)) a S ys.size := by
  have q := (SetOf_store (knd := intKind prog w) g0 x0 d0 el me bd ft).1
  exact ⟨q, _, ys, ep + 1, u, q, x0, rfl, el, me, bd, ft, rfl, gd⟩
theorem tail_int {g : Bool → Sem Unit} (gg : ∀ (b : Bool) (z : Shared) (R' : Unit → Shared → Prop), R' () z → wpAny (model prog w) A (g b) R' E z) {a : Addr} {ob : Obj} {xs ys : Array (Int × Value)} {ep : Nat} {t u : SetTable} {S : Int → Bool}
    (g0 : s.heap.get? a = some ob) (x0 : ob.ExactSet) (d0 : ob.data = .set xs ep t) (el : ElemsOf (intKind prog w) ys.toList) (me : ∀ k, S k = true ↔ ∃ e ∈ ys.toList, (intKind prog w).is k e.2 = true) (bd : ys.size < scanBound) (ft : u.fits ys.size = true)
    (gd : Good (!w.params.followText "set-order") u) {wd : Bool} {R : Option Bool → Shared → Prop} (hR : ∀ h', Heap.SameBut a s.heap h' → SetR prog w h' a S ys.size → R (some true) { s with heap := h' }) :
    wpAny (model prog w) A (do storeSet a ys u; if (!wd && u.tooFull) = true then do { g (relayAll u ys (SetTable.grown ys.size)).2.2; storeSet a (relayAll u ys (SetTable.grown ys.size)).1 (relayAll u ys (SetTable.grown ys.size)).2.1; pure (some true) } else pure (some true)) R E s := by
  refine wpAny_bind (wpAny_storeSet_of g0 d0 ?_ (fits_of_scanBound bd))
  obtain ⟨g1, r1⟩ := stored (prog := prog) (w := w) g0 x0 d0 el me bd ft gd
  have sb := Heap.SameBut.update s.heap a (Obj.putSet ys u)
  split
  · have pm := relayAll_perm u ys (SetTable.grown ys.size)
    have fr := relayAll_fits u ys (SetTable.grown ys.size)
    have gr := relayAll_good gd ys (SetTable.grown ys.size)
    generalize relayAll u ys (SetTable.grown ys.size) = Z at pm fr gr ⊢
    obtain ⟨zs, v, gv⟩ := Z
    dsimp only at pm fr gr ⊢
    have sz : zs.size = ys.size := by rw [← Array.length_toList, pm.length_eq, Array.length_toList]
    have bz : zs.size < scanBound := by omega
    refine wpAny_bind (gg _ _ _ ?_)
    refine wpAny_bind (wpAny_storeSet_of g1 rfl ?_ (fits_of_scanBound bz))
    obtain ⟨_, r2⟩ := stored (prog := prog) (w := w) (S := S) g1 x0 rfl (el.perm pm) (fun k => (me k).trans ⟨fun ⟨e, he, q⟩ => ⟨e, pm.mem_iff.mpr he, q⟩, fun ⟨e, he, q⟩ => ⟨e, pm.mem_iff.mp he, q⟩⟩) bz fr gr
    rw [sz] at r2
    exact wpAny_pure (hR _ (sb.trans (Heap.SameBut.update _ a _)) r2)
  · exact wpAny_pure (hR _ sb r1)
theorem add_int {a : Addr} {S : Int → Bool} {n : Nat} {k : Int} {tok : Tok} {R : Bool → Shared → Prop} (r : SetR prog w s.heap a S n) (room : n + 1 < scanBound)
    (hR : ∀ (h' : Heap) (m : Nat) (b : Bool), Heap.SameBut a s.heap h' → m ≤ n + 1 → SetR prog w h' a (fun i => S i || decide (i = k)) m → R b { s with heap := h' }) :
    wpAny (model prog w) A (setAddHashed a (.int k tok) ((intKind prog w).hash k)) R E s := by
  obtain ⟨ob, xs, ep, t, g0, x0, d0, el, me, bd, ft, sz, gd⟩ := r
  have isk : (intKind prog w).is k (.int k tok) = true := intKind_is _ _ _ _
  have scn : (Value.int k tok).scannable = true := rfl
  unfold setAddHashed setAddHashedIn
  refine wpAny_holding (wpAny_bind (wpAny_setState_of g0 d0 ft ?_))
  dsimp only
  rw [byScan_of scn bd el]
  simp only [↓reduceIte]
  unfold setAddByScan
  refine wpAny_bind ?_
  refine wpAny_bind (wpAny_rule ?_)
  refine wpAny_bind (wpAny_setScan_of isk g0 d0 ft el ?_)
  cases fi : List.findIdx? (fun e => (intKind prog w).is k e.2) xs.toList with
  | some j =>
    dsimp only
    obtain ⟨hj, pj, _⟩ := List.findIdx?_eq_some_iff_getElem.mp fi
    have inS : S k = true := (me k).mpr ⟨_, List.getElem_mem hj, pj⟩
    refine wpAny_pure (wpAny_pure ?_)
    have es : s = { s with heap := s.heap } := by cases s; rfl
    rw [es]
    refine hR s.heap n _ (Heap.SameBut.refl a s.heap) (Nat.le_succ n) ⟨ob, xs, ep, t, g0, x0, d0, el, fun i => ?_, bd, ft, sz, gd⟩
    rw [Bool.or_eq_true, decide_eq_true_eq, ← me i]
    constructor
    · rintro (q | q)
      · exact q
      · rw [q]; exact inS
    · exact .inl
  | none =>
    dsimp only
    have pm := layNew_perm t xs ((intKind prog w).hash k) (.int k tok)
    have fl := layNew_fits t xs ((intKind prog w).hash k) (.int k tok)
    have gl := layNew_good gd xs ((intKind prog w).hash k) (.int k tok)
    generalize layNew t xs ((intKind prog w).hash k) (.int k tok) = Z at pm fl gl ⊢
    obtain ⟨ys, u, wd, gv⟩ := Z
    dsimp only at pm fl gl ⊢
    rw [Array.toList_push] at pm
    have ly : ys.size = n + 1 := by rw [← Array.length_toList, pm.length_eq, List.length_append, Array.length_toList, sz]; rfl
    have by_ : ys.size < scanBound := by omega
    have ely : ElemsOf (intKind prog w) ys.toList := (el.push isk scn).perm pm
    have mey : ∀ i, (S i || decide (i = k)) = true ↔ ∃ e ∈ ys.toList, (intKind prog w).is i e.2 = true := mem_push_iff isk me pm
    have gw : ∀ (b : Bool) {z : Shared} {R' : Unit → Shared → Prop}, R' () z → wpAny (model prog w) A (match b with | true => rule "set.scan.the-table-gave-way" | false => pure ()) R' E z :=
      fun b z R' q => by cases b <;> first | exact wpAny_pure q | exact wpAny_rule q
    refine wpAny_bind (gw _ ?_)
    have fin : ∀ h', Heap.SameBut a s.heap h' → SetR prog w h' a (fun i => S i || decide (i = k)) ys.size → R true { s with heap := h' } := fun h' q1 q2 => hR h' ys.size true q1 (by omega) q2
    split
    · refine wpAny_bind ?_
      rw [hashByValue_scannable 8 scn]
      refine wpAny_pure ?_
      refine tail_int ?_ g0 x0 d0 ely mey by_ ?_ ?_ ?_
      · intro b z R' q; cases b <;> first | exact wpAny_pure q | exact wpAny_rule q
      · exact fl
      · exact gl
      · intro h' q1 q2; dsimp only; exact wpAny_pure (fin h' q1 q2)
    · refine wpAny_bind (wpAny_pure ?_)
      simp only [↓reduceIte]
      refine tail_int ?_ g0 x0 d0 ely mey by_ fl gl ?_
      · intro b z R' q; cases b <;> first | exact wpAny_pure q | exact wpAny_rule q
      · intro h' q1 q2; dsimp only; exact wpAny_pure (fin h' q1 q2)
end
end LkS

end
section
set_option Elab.async false
set_option linter.all false
set_option maxRecDepth 100000
set_option maxHeartbeats 4000000
namespace LkS
open PySem
section
variable {prog : Program} {w : World} {A : Around} {R : Result → Shared → Prop} {I : Addr} {fp wr : List Addr} {G : Array GenState → Array GenState → Prop} {n : Nat} {P : Nat → Value → Prop} {St : Nat → Shared → Prop}
/-- the loop of set.update over ints -/
theorem loop_int (W : WalksS prog w A.in1 I fp wr G n P St) (a : Addr) (na : a ∉ fp) (val : Nat → Int) (hv : ∀ i v, P i v → ∃ t, v = .int (val i) t) (room : n + 1 < scanBound) :
    ∀ (d i : Nat) (s : Shared) (S : Int → Bool) (m : Nat), n - i = d → i ≤ n → m ≤ i → St i s → SetR prog w s.heap a S m → (∀ x, S x = true ↔ ∃ j, j < i ∧ val j = x) →
      (∀ (z : Shared) (S' : Int → Bool) (m' : Nat), Moved (a :: wr) G s z → SetR prog w z.heap a S' m' → m' ≤ n → (∀ x, S' x = true ↔ ∃ j, j < n ∧ val j = x) → R (.ok (.ret .none)) z) →
      codeAny (model prog w) A (.builtin "set.update.loop" ⟨[.ref a, .ref I], []⟩) R s := by
  have naw : a ∉ wr := fun q => na (W.sub _ q)
  have up : ∀ b ∈ wr, b ∈ a :: wr := fun b q => List.mem_cons_of_mem _ q
  intro d
  induction d with
  | zero =>
    intro i s S m e0 le ml st r mem fin
    have e : i = n := by omega
    subst e
    refine codeAny_builtin PyProof.Rows.F.entry_set_update_loop ?_
    rw [Around.under_plainId PyProof.Rows.F.plain_set_update_loop _]
    show wpAny _ A.in1 (pyNext (.ref I) >>= _) _ _ s
    refine wpAny_bind (W.done s _ _ st fun z mv => ?_)
    show wpAny _ A.in1 (ret Value.none) _ _ z
    exact wpAny_pure (fin z S m (mv.mono up) (r.keep fun o q => mv.heap a o naw q) ml mem)
  | succ d ih =>
    intro i s S m e0 le ml st r mem fin
    have lt : i < n := by omega
    refine codeAny_builtin PyProof.Rows.F.entry_set_update_loop ?_
    rw [Around.under_plainId PyProof.Rows.F.plain_set_update_loop _]
    show wpAny _ A.in1 (pyNext (.ref I) >>= _) _ _ s
    refine wpAny_bind (W.item i s _ _ lt st fun v z pv st2 mv => ?_)
    obtain ⟨tok, rfl⟩ := hv i v pv
    have rz := r.keep fun o q => mv.heap a o naw q
    show wpAny _ A.in1 (holding [Value.int (val i) tok] (setAdd a (.int (val i) tok)) >>= _) _ _ z
    refine wpAny_bind (wpAny_holding ?_)
    unfold setAdd
    refine wpAny_holding ?_
    refine wpAny_bind ((intKind prog w).pyHash (k := val i) (intKind_is _ _ _ _) ?_)
    refine add_int (s := { z with toks := z.toks + 1 }) rz (by omega) fun h' m' b sb lm r2 => ?_
    refine wpAny_pure ⟨plainId_quiet PyProof.Rows.F.plain_set_update_loop _, ih (i + 1) _ _ m' (by omega) lt (by omega) (W.frame _ z _ _ st2 (Nat.le_succ _) fun b hb o q => ?_) r2 (fun x => ?_) fun y S' m2 mv2 r3 lm2 mem2 => ?_⟩
    · rw [sb.2 b (fun q2 : b = a => na (by rw [← q2]; exact hb))]
      exact q
    · rw [Bool.or_eq_true, mem x, decide_eq_true_eq]
      constructor
      · rintro (⟨j, hj, q⟩ | q)
        · exact ⟨j, by omega, q⟩
        · exact ⟨i, by omega, q.symm⟩
      · rintro ⟨j, hj, q⟩
        by_cases ej : j = i
        · subst ej
          exact .inr q.symm
        · exact .inl ⟨j, by omega, q⟩
    · refine fin y S' m2 (Moved.trans W.gtrans ((mv.mono up).then_heap (Nat.le_succ _) fun b o hb q => ?_) mv2) r3 lm2 mem2
      rw [sb.2 b (fun q2 : b = a => hb (by rw [q2]; exact List.mem_cons_self))]
      exact q
end
section
variable {prog : Program} {w : World} {A : Around} {E : Value → Shared → Prop} {s : Shared}
/-- a new set: led, but where the text's order is followed -/
def newSetObj (w : World) : Obj := { cls := .type "set", dict := none, data := .set #[] 0 (.fresh 0 0 (!w.params.followText "set-order")) }
theorem new_int (v : Value) {R : Value → Shared → Prop} (hR : R (.ref s.heap.objs.size) { s with heap := s.heap.push (newSetObj w) }) : codeAny (model prog w) A (.call (.builtin "set.__new__") ⟨[.type "set", v], []⟩) (wants R E) s := by
  refine codeAny_of_tree ?_
  show wpAny _ A.in1 (checkBuiltinCall "set.__new__" ⟨[.type "set", v], []⟩ >>= fun _ => again (.builtin "set.__new__" ⟨[.type "set", v], []⟩)) _ _ s
  refine wpAny_bind (wpAny_of_eq (PySem.F.newCall_set_1 v) (wpAny_pure ⟨plainId_quiet PySem.F.plain_set_new _, codeAny_builtin PySem.F.entry_set_new ?_⟩))
  rw [Around.under_plainId PySem.F.plain_set_new _]
  unfold Builtin.«set.__new__» Builtin.Frozenset.newClass
  have hsub := sub_set_self
  obtain ⟨hp, g, d, tk, os⟩ := s
  dsimp only
  wp_walk
  refine wpAny_askSetting (wpAny_pure ?_)
  dsimp only
  simp only [newObj]
  refine wpAny_bind (wpAny_alloc (wpAny_pure ?_))
  exact wpAny_pure hR
theorem fresh_set (a : Addr) {h : Heap} (e : h.get? a = some (newSetObj w)) : SetR prog w h a (fun _ => false) 0 := by
  refine ⟨_, #[], 0, _, e, ⟨rfl, rfl, rfl⟩, rfl, fun x hx => by simp at hx, fun k => ?_, by decide, by rfl, rfl, Rise.nil, rfl⟩
  constructor
  · intro q; cases q
  · rintro ⟨x, hx, _⟩
    simp at hx
end
end LkS

end
section
set_option Elab.async false
set_option linter.all false
set_option maxRecDepth 100000
set_option maxHeartbeats 8000000
namespace LkS
open PySem
section
variable {prog : Program} {w : World} {A : Around} {E : Value → Shared → Prop} {s : Shared}
/-- what set(list) leaves -/
def MadeSet (prog : Program) (w : World) (s : Shared) (ns : List Int) (c : Nat) (z : Shared) : Prop := ∃ (h' : Heap) (tk : Nat) (S : Int → Bool) (m : Nat), z = { s with heap := h', toks := tk } ∧ SetR prog w h' s.heap.objs.size S m ∧ m ≤ c ∧ (∀ x, S x = true ↔ x ∈ ns) ∧
  ∀ b o, b < s.heap.objs.size → s.heap.get? b = some o → h'.get? b = some o
theorem init_int {l : Addr} {its : Array Value} {ns : List Int} (hh : A.handled = none) (il : s.heap.IsList l its) (ii : PyProof.Rows.IntsAre its.toList ns) (room : its.size + 1 < scanBound) :
    wpAny (model prog w) A.in1 (Builtin.«set.__init__» ⟨[.ref s.heap.objs.size, .ref l], []⟩)
      (fun fin z => match fin with | .done f => wants (fun r y => r = .none ∧ MadeSet prog w s ns its.size y) E (.ok f) z | .again c => c.quiet = true ∧ codeAny (model prog w) A c (wants (fun r y => r = .none ∧ MadeSet prog w s ns its.size y) E) z)
      (fun e z => wants (fun r y => r = .none ∧ MadeSet prog w s ns its.size y) E (.error e) z) { s with heap := s.heap.push (newSetObj w) } := by
  have g0 : (s.heap.push (newSetObj w)).get? s.heap.objs.size = some (newSetObj w) := Heap.get?_push_size _ rfl
  have ty : Shared.TypeIs { s with heap := s.heap.push (newSetObj w) } (.ref s.heap.objs.size) "set" := ⟨_, g0, rfl⟩
  obtain ⟨ol, gl, cl, cn, dl⟩ := il
  obtain ⟨lc, ld, lx, ls⟩ := ol
  simp only at cl dl
  subst cl; subst dl
  have gl1 : (s.heap.push (newSetObj w)).get? l = some { cls := .type "list", dict := ld, data := .seq its cn, slots := ls } := Heap.get?_push_of_some _ gl
  have n1 := PySem.F.sub_list_set
  have n2 := PySem.F.sub_list_frozenset
  have n3 : (Value.type "list" == Value.type "dict") = false := by decide
  have il1 : (s.heap.push (newSetObj w)).IsList l its := ⟨_, gl1, rfl, cn, rfl⟩
  have ll : l < s.heap.objs.size := Heap.lt_size gl
  unfold newSetObj at g0 gl1 ty ⊢
  unfold Builtin.«set.__init__» noKeywords Builtin.Frozenset.updateFrom
  generalize hPI : pyIter = PI
  wp_walk
  subst hPI
  have il2 : (s.heap.push { cls := .type "set", dict := none, data := .set #[] 0 (.fresh 0 0 (!w.params.followText "set-order")) }).IsList l its := il1
  refine wpAny_pyIter_list il2 ?_
  refine wpAny_bind (wpAny_runValue ?_)
  generalize hb : s.heap.push { cls := .type "set", dict := none, data := .set #[] 0 (.fresh 0 0 (!w.params.followText "set-order")) } = hp at g0 gl1 il2 ⊢
  have zp : hp.objs.size = s.heap.objs.size + 1 := by rw [← hb, Heap.size_push]
  have zs : s.heap.objs.size < hp.objs.size := by rw [zp]; exact Nat.lt_succ_self _
  have nl : l ≠ hp.objs.size := Nat.ne_of_lt (Nat.lt_trans ll zs)
  have nf : s.heap.objs.size ∉ [hp.objs.size, l] := by
    intro q
    rcases List.mem_cons.mp q with q | q
    · exact Nat.ne_of_lt zs q
    · exact Nat.ne_of_gt ll (List.mem_singleton.mp q)
  have h3 : A.in1.in1.handled = none := by simp [hh]
  have vals : ∀ (i : Nat) (v : Value), its[i]? = some v → ∃ t, v = .int ((fun i => ns.getD i 0) i) t := fun i v q => PyProof.Rows.IntsAre.int_at ii i v (by rw [Array.getElem?_toList]; exact q)
  have len : its.size = ns.length := by
    have q := PyProof.Rows.IntsAre.length ii
    rw [← Array.length_toList]
    omega
  refine loop_int ((Walks.list h3 _ l nl its).toS) s.heap.objs.size nf (fun i => ns.getD i 0) vals room (its.size - 0) 0 _ (fun _ => false) 0 (by omega) (Nat.zero_le _) (Nat.le_refl _)
    ⟨⟨_, Heap.get?_push_size _ rfl, rfl, rfl⟩, il2.push _⟩ (fresh_set _ (Heap.get?_push_of_some _ g0)) (fun x => Iff.intro (fun q => Bool.noConfusion q) (fun q => absurd q.choose_spec.1 (Nat.not_lt_zero _))) fun z S m mv r lm mem => ?_
  obtain ⟨h', g', d', tk', os'⟩ := z
  have e1 : g' = s.gens := mv.gens
  have e2 : d' = s.drawn := mv.drawn
  have e3 : os' = s.os := mv.os
  subst e1; subst e2; subst e3
  show wpAny _ _ _ _ _ _
  refine wpAny_pure ?_
  show wpAny _ _ (ret Value.none) _ _ _
  refine wpAny_pure ⟨rfl, h', tk', S, m, rfl, r, lm, fun x => ?_, fun b o lb q => ?_⟩
  · rw [mem x, len]
    constructor
    · rintro ⟨j, hj, e⟩
      have e : ns.getD j 0 = x := e
      rw [List.getD_eq_getElem?_getD, List.getElem?_eq_getElem hj] at e
      have e : ns[j] = x := e
      rw [← e]
      exact List.getElem_mem hj
    · intro hx
      obtain ⟨j, hj, e⟩ := List.getElem_of_mem hx
      refine ⟨j, hj, ?_⟩
      show ns.getD j 0 = x
      rw [List.getD_eq_getElem?_getD, List.getElem?_eq_getElem hj]
      exact e
  · refine mv.heap b o ?_ (Heap.get?_push_of_some _ (by rw [← hb]; exact Heap.get?_push_of_some _ q))
    intro q2
    rcases List.mem_cons.mp q2 with q2 | q2
    · exact Nat.ne_of_lt lb q2
    · exact Nat.ne_of_lt (Nat.lt_trans lb zs) (List.mem_singleton.mp q2)
end
end LkS

end
section
set_option Elab.async false
set_option linter.all false
set_option maxRecDepth 100000
set_option maxHeartbeats 8000000
namespace LkS
open PySem
section
variable {prog : Program} {w : World} {A : Around} {E : Value → Shared → Prop} {s : Shared}
/-- set(list of ints) -/
theorem call_int {l : Addr} {its : Array Value} {ns : List Int} {R : Value → Shared → Prop} (hh : A.handled = none) (il : s.heap.IsList l its) (ii : PyProof.Rows.IntsAre its.toList ns) (room : its.size + 1 < scanBound)
    (hR : ∀ z, MadeSet prog w s ns its.size z → R (.ref s.heap.objs.size) z) : wpAny (model prog w) A (call (.type "set") [.ref l]) R E s := by
  obtain ⟨c, tl, hmro⟩ := PySem.F.called_set.mro
  have hmade := PySem.F.called_set.made
  have hsub := PySem.F.called_set.sub
  have nty := PySem.F.called_set.notType
  have can := PySem.F.called_set.canCreate
  have tcl := PySem.F.typeCall_set_1 (.ref l)
  refine wpAny_call (codeAny_of_tree ?_)
  show wpAny _ _ (callAny (.type "set") _) _ _ _
  refine wpAny_pure ⟨Code.quiet_builtin _ (by decide +kernel), codeAny_builtin PySem.F.entry_type_call ?_⟩
  rw [Around.under_plain (weight_type_call_type "set" [.ref l] []) rfl]
  repeat any_goals first | assumption | wp_step
  refine codeAny_mono (new_int (.ref l) (E := E) (R := fun ob z => ob = .ref s.heap.objs.size ∧ z = { s with heap := s.heap.push (newSetObj w) }) ⟨rfl, rfl⟩) fun r z hr => ?_
  cases r with
  | error e => exact hr
  | ok fl =>
    cases fl with
    | ret ob =>
      obtain ⟨rfl, rfl⟩ := hr
      have g0 : (s.heap.push (newSetObj w)).get? s.heap.objs.size = some (newSetObj w) := Heap.get?_push_size _ rfl
      have ty : Shared.TypeIs { s with heap := s.heap.push (newSetObj w) } (.ref s.heap.objs.size) "set" := ⟨_, g0, rfl⟩
      have hli := PySem.F.called_set.init.lookup
      have hbi := PySem.F.called_set.init.bind (.ref s.heap.objs.size)
      repeat any_goals first | assumption | wp_step
      refine codeAny_mono (codeAny_call_builtin (R := wants (fun r y => r = .none ∧ MadeSet prog w s ns its.size y) E) PySem.F.called_set.init.plain PySem.F.entry_set_init (PySem.check_set_init_1 ty ?_)) fun r2 y hr2 => ?_
      · exact init_int (by simp [hh]) il ii room
      · cases r2 with
        | error e => exact hr2
        | ok fl2 =>
          cases fl2 with
          | ret r =>
            obtain ⟨rfl, made⟩ := hr2
            have made2 := hR y made
            obtain ⟨h', tk, S, m, rfl, rr, lm, mem, kp⟩ := made
            repeat any_goals first | assumption | wp_step
          | _ => exact hr2.elim
    | _ => exact hr.elim
end
end LkS

end
section
set_option Elab.async false
set_option linter.all false
set_option maxRecDepth 100000
set_option maxHeartbeats 8000000
/-! walking a set of ints -/
namespace LkS
open PySem
theorem slotN : Slot "set_iterator" "__next__" "set_iterator.__next__" := Slot.of (owner := "set_iterator") (n := "__next__") (by rw [typeLookup_type, builtinLookup_eq_fast]; kernel_rfl) (by decide +kernel) (by decide +kernel) (by decide +kernel) (by first | exact .inl (by decide +kernel) | exact .inr (by decide +kernel)) (by rw [isSubtype_type]; kernel_rfl)
theorem entryN : entryFor table "set_iterator.__next__" = some Builtin.«set_iterator.__next__» := entryFor_of_tree (by kernel_rfl)
theorem ownerN : Manifest.owners.lookup (String.ofList ['r', 'o', 't', 'a', 'r', 'e', 't', 'i', '_', 't', 'e', 's'].reverse) = some Manifest.sig_set_iterator := by kernel_rfl
theorem argsN (v : Value) : argsOk "set_iterator.__next__" ⟨[v], []⟩ := by
  unfold argsOk; rw [signature?_of (id := "set_iterator.__next__") (n := ['_', '_', 't', 'x', 'e', 'n', '_', '_']) (o := ['r', 'o', 't', 'a', 'r', 'e', 't', 'i', '_', 't', 'e', 's']) (by kernel_rfl) ownerN]; kernel_rfl
theorem slotI : Slot "set_iterator" "__iter__" "set_iterator.__iter__" := Slot.of (owner := "set_iterator") (n := "__iter__") (by rw [typeLookup_type, builtinLookup_eq_fast]; kernel_rfl) (by decide +kernel) (by decide +kernel) (by decide +kernel) (by first | exact .inl (by decide +kernel) | exact .inr (by decide +kernel)) (by rw [isSubtype_type]; kernel_rfl)
theorem entryI : entryFor table "set_iterator.__iter__" = some Builtin.«dict_keyiterator.__iter__» := entryFor_alias (id' := "dict_keyiterator.__iter__") (by kernel_rfl) rfl (by decide +kernel) (by kernel_rfl)
theorem argsI (v : Value) : argsOk "set_iterator.__iter__" ⟨[v], []⟩ := by
  unfold argsOk; rw [signature?_of (id := "set_iterator.__iter__") (n := ['_', '_', 'r', 'e', 't', 'i', '_', '_']) (o := ['r', 'o', 't', 'a', 'r', 'e', 't', 'i', '_', 't', 'e', 's']) (by kernel_rfl) ownerN]; kernel_rfl
theorem entryS : entryFor table "set.__iter__" = some Builtin.«frozenset.__iter__» := entryFor_alias (id' := "frozenset.__iter__") (by kernel_rfl) rfl (by decide +kernel) (by kernel_rfl)
end LkS

end
section
set_option Elab.async false
set_option linter.all false
set_option maxRecDepth 100000
set_option maxHeartbeats 8000000
namespace LkS
open PySem
section
variable {prog : Program} {w : World} {A : Around} {E : Value → Shared → Prop} {s : Shared}
/-- the iterator `it` of the set at a, n members, epoch ep, ahead of turn i -/
def ItAt (h : Heap) (it : Addr) (fst : Value) (i : Nat) (a : Addr) (n ep : Nat) : Prop := ∃ o, h.get? it = some o ∧ o.cls = .type "set_iterator" ∧ o.data = .fields #[fst, rawInt i, .ref a, rawInt n, rawInt ep]
def SetAt (h : Heap) (a : Addr) (xs : Array (Int × Value)) (ep : Nat) (t : SetTable) : Prop := ∃ o, h.get? a = some o ∧ o.ExactSet ∧ o.data = .set xs ep t ∧ t.fits xs.size = true
theorem ItAt.type {it a : Addr} {fst : Value} {i n ep : Nat} (x : ItAt s.heap it fst i a n ep) : s.TypeIs (.ref it) "set_iterator" := let ⟨o, g, c, _⟩ := x; ⟨o, g, c⟩
theorem ItAt.keep {h h' : Heap} {it a : Addr} {fst : Value} {i n ep : Nat} (x : ItAt h it fst i a n ep) (k : ∀ o, h.get? it = some o → h'.get? it = some o) : ItAt h' it fst i a n ep := let ⟨o, g, r⟩ := x; ⟨o, k o g, r⟩
theorem SetAt.keep {h h' : Heap} {a : Addr} {xs : Array (Int × Value)} {ep : Nat} {t : SetTable} (x : SetAt h a xs ep t) (k : ∀ o, h.get? a = some o → h'.get? a = some o) : SetAt h' a xs ep t := let ⟨o, g, r⟩ := x; ⟨o, k o g, r⟩
/-- what setNext answers -/
def Nexts (prog : Program) (w : World) (s : Shared) (a : Addr) (slot i ep : Nat) (r : Option (Value × Nat)) : Prop := ∀ (A : Around) (E : Value → Shared → Prop) (Q : Option (Value × Nat) → Shared → Prop), Q r s → wpAny (model prog w) A (setNext a slot i ep) Q E s
theorem ents {a : Addr} {xs : Array (Int × Value)} {ep : Nat} {t : SetTable} {Q : Array (Int × Value) → Shared → Prop} (y : SetAt s.heap a xs ep t) (q : Q xs s) : wpAny (model prog w) A (setEntries a) Q E s := by
  obtain ⟨ob, ga, xa, da, ft⟩ := y
  unfold setEntries
  exact wpAny_bind (wpAny_setState_of ga da ft (wpAny_pure q))
theorem fld_set {it a : Addr} {o : Obj} {vs : Array Value} {k : Nat} {v : Value} (h : Heap) (g : h.get? it = some o) (d : o.data = .fields vs) : (h.update it (Obj.mapFields (·.setIfInBounds k v))).get? it = some { o with data := .fields (vs.setIfInBounds k v) } := by
  have e : Obj.mapFields (·.setIfInBounds k v) o = { o with data := .fields (vs.setIfInBounds k v) } := by
    obtain ⟨c, dd, dt, sl⟩ := o
    cases dt <;> simp at d
    subst d
    rfl
  have q := Heap.get?_update_self (Obj.mapFields (·.setIfInBounds k v)) g (by rw [e]; rfl)
  rw [e] at q
  exact q
theorem next_item {it a : Addr} {slot i n ep nx : Nat} {xs : Array (Int × Value)} {t : SetTable} {v : Value} {R : Option Value → Shared → Prop} (x : ItAt s.heap it (rawInt slot) i a n ep) (y : SetAt s.heap a xs ep t) (sz : xs.size = n) (nxt : Nexts prog w s a slot i ep (some (v, nx)))
    (hR : ∀ h', ItAt h' it (rawInt nx) (i + 1) a n ep → (∀ b, b ≠ it → h'.get? b = s.heap.get? b) → R (some v) { s with heap := h' }) : wpAny (model prog w) A (pyNext (.ref it)) R E s := by
  obtain ⟨o, g, c, d⟩ := id x
  unfold pyNext
  refine wpAny_bind (wpAny_attempt (wpAny_callSpecial?_slot (name := Str.ofString "__next__") x.type slotN (wpAny_call_entry slotN x.type entryN ?_ (argsN _))))
  unfold Builtin.«set_iterator.__next__»
  refine wpAny_bind (wpAny_pure ?_)
  refine wpAny_bind (wpAny_fieldsOf g d ?_)
  dsimp only [rawInt]
  refine wpAny_bind (ents y ?_)
  rw [if_neg (by simp [sz])]
  simp only [Int.toNat_natCast]
  refine wpAny_bind (nxt _ _ _ ?_)
  dsimp only
  have g1 := fld_set (a := a) (k := 0) (v := .int nx 0) s.heap g d
  refine wpAny_bind (wpAny_setField g d (by simp) ?_)
  have g2 := fld_set (a := a) (k := 1) (v := .int ((i : Int) + 1) 0) _ g1 rfl
  refine wpAny_bind (wpAny_setField g1 rfl (by simp) ?_)
  refine wpAny_pure ⟨_, rfl, wpAny_pure (hR _ ⟨_, g2, c, rfl⟩ fun b hb => ?_)⟩
  exact (Heap.get?_update_other _ _ (Ne.symm hb)).trans (Heap.get?_update_other _ _ (Ne.symm hb))
/-- StopIteration out of the iterator's end -/
theorem stop_now {it : Addr} {R : Option Value → Shared → Prop} {h : Heap} (hh : A.handled = none) (hR : ∀ h', (∀ b o, h.get? b = some o → h'.get? b = some o) → R none { s with heap := h' }) :
    wpAny (model prog w) A.in1 (newExc (.type "StopIteration") [] >>= fun x => (raiseNew x : Sem Fin)) (fun fin z => ∃ v, fin = Fin.done (Flow.ret v) ∧ wpAny (model prog w) A (pure (some v)) R E z)
      (fun e z => wpAny (model prog w) A (isInstance e (Value.type "StopIteration") >>= fun b => if b = true then pure none else throw e) R E z) { s with heap := h } := by
  refine wpAny_bind ?_
  simp only [newExc, newTuple]
  refine wpAny_bind (wpAny_newObj_type ?_ (by size_fits))
  refine wpAny_bind (m := firstArgMember _ _) (wpAny_of_eq (a := Value.none) (by simp only [firstArgMember]; rfl) ?_)
  refine wpAny_newObj_type ?_ (by size_fits)
  simp only [raiseNew]
  refine wpAny_bind (wpAny_handled ?_)
  rw [show A.in1.handled = none by simp [hh]]
  refine wpAny_bind (wpAny_pure (wpAny_throw ?_))
  refine wpAny_bind (wpAny_isInstance (T := "StopIteration") (b := true) ⟨_, Heap.get?_push_size _ rfl, rfl⟩ isSubtype_stop ?_)
  exact wpAny_pure (hR _ fun b o q => Heap.get?_push_of_some _ (Heap.get?_push_of_some _ q))
theorem next_end {it a : Addr} {slot i n ep : Nat} {xs : Array (Int × Value)} {t : SetTable} {R : Option Value → Shared → Prop} (hh : A.handled = none) (x : ItAt s.heap it (rawInt slot) i a n ep) (y : SetAt s.heap a xs ep t) (sz : xs.size = n) (nxt : Nexts prog w s a slot i ep none)
    (hR : ∀ h', (∀ b o, b ≠ it → s.heap.get? b = some o → h'.get? b = some o) → R none { s with heap := h' }) : wpAny (model prog w) A (pyNext (.ref it)) R E s := by
  obtain ⟨o, g, c, d⟩ := id x
  unfold pyNext
  refine wpAny_bind (wpAny_attempt (wpAny_callSpecial?_slot (name := Str.ofString "__next__") x.type slotN (wpAny_call_entry slotN x.type entryN ?_ (argsN _))))
  unfold Builtin.«set_iterator.__next__»
  refine wpAny_bind (wpAny_pure ?_)
  refine wpAny_bind (wpAny_fieldsOf g d ?_)
  dsimp only [rawInt]
  refine wpAny_bind (ents y ?_)
  rw [if_neg (by simp [sz])]
  simp only [Int.toNat_natCast]
  refine wpAny_bind (nxt _ _ _ ?_)
  dsimp only
  refine wpAny_bind (wpAny_setField g d (by simp) ?_)
  exact stop_now (it := it) hh fun h' k => hR h' fun b o hb q => k b o ((Heap.get?_update_other _ _ (Ne.symm hb)).trans q)
end
end LkS

end
section
set_option Elab.async false
set_option linter.all false
set_option maxRecDepth 100000
set_option maxHeartbeats 8000000
namespace LkS
open PySem
section
variable {prog : Program} {w : World} {A : Around} {E : Value → Shared → Prop} {s : Shared}
/-! ### by the table -/
/-- the slot ahead of turn i -/
def slotAt (t : SetTable) : Nat → Nat
  | 0 => 0
  | i + 1 => t.place.getD i 0 + 1
theorem below_slot {t : SetTable} (r : Rise t.place) {i : Nat} (hi : i ≤ t.place.size) : SetTable.below t.place (slotAt t i) = i := by
  obtain ⟨b1, b2, b3⟩ := below_at r (slotAt t i)
  cases i with
  | zero =>
    rcases Nat.eq_zero_or_pos (SetTable.below t.place (slotAt t 0)) with q | q
    · exact q
    · have h0 : 0 < t.place.size := by omega
      have e := Array.getElem?_eq_getElem h0
      have z := b2 0 _ q e
      exact absurd z (Nat.not_lt_zero _)
  | succ i =>
    have h0 : i < t.place.size := by omega
    have e : t.place[i]? = some t.place[i] := Array.getElem?_eq_getElem h0
    have es : slotAt t (i + 1) = t.place[i] + 1 := by
      show t.place.getD i 0 + 1 = _
      rw [Array.getD_eq_getD_getElem?, e]
      rfl
    generalize SetTable.below t.place (slotAt t (i + 1)) = b at b1 b2 b3 ⊢
    rw [es] at b2 b3
    have q1 : ¬ b ≤ i := fun z => by
      have := b3 i _ z e
      omega
    have q2 : ¬ i + 1 < b := fun z => by
      have h1 : i + 1 < t.place.size := by omega
      have e1 : t.place[i + 1]? = some t.place[i + 1] := Array.getElem?_eq_getElem h1
      have z1 := b2 (i + 1) _ z e1
      have z2 := r i (i + 1) _ _ (by omega) e e1
      omega
    omega
theorem next_table {a : Addr} {xs : Array (Int × Value)} {ep i : Nat} {t : SetTable} (ft : w.params.followText "set-order" = false) (y : SetAt s.heap a xs ep t) (g : Good true t) (pl : (!t.plain && decide (xs.size > 1)) = false) (hi : i ≤ xs.size) :
    Nexts prog w s a (slotAt t i) i ep ((xs[i]?).map fun e => (e.2, slotAt t (i + 1))) := by
  intro A E Q q
  obtain ⟨ob, ga, xa, da, fi⟩ := y
  have zp : t.place.size = xs.size := by
    have z := fi
    simp only [SetTable.fits, Bool.and_eq_true, beq_iff_eq] at z
    exact z.1
  unfold setNext
  refine wpAny_bind (wpAny_setState_of ga da fi ?_)
  dsimp only
  refine wpAny_bind ?_
  unfold setsByText
  refine wpAny_bind (wpAny_askSetting (wpAny_pure ?_))
  show wpAny _ _ (if w.params.followText "set-order" = true then _ else _) _ _ _
  rw [ft, if_neg (by decide)]
  show wpAny _ _ (if (!t.plain && decide (xs.size > 1)) = true then _ else _) _ _ _
  rw [pl, if_neg (by decide)]
  refine wpAny_bind ?_
  show wpAny _ _ (if (!t.led && !xs.isEmpty) = true then _ else _) _ _ _
  rw [g.2, if_neg (by simp)]
  refine wpAny_pure ?_
  rw [below_slot g.1 (by omega)]
  refine wpAny_pure ?_
  by_cases lt : i < xs.size
  · have e1 : xs[i]? = some xs[i] := Array.getElem?_eq_getElem lt
    have lt2 : i < t.place.size := by omega
    have e2 : t.place[i]? = some t.place[i] := Array.getElem?_eq_getElem lt2
    have e3 : slotAt t (i + 1) = t.place[i] + 1 := by
      show t.place.getD i 0 + 1 = _
      rw [Array.getD_eq_getD_getElem?, e2]
      rfl
    rw [e1, e3] at q
    rw [e1, e2]
    exact q
  · have e1 : xs[i]? = none := Array.getElem?_eq_none (by omega)
    rw [e1] at q
    rw [e1]
    exact q
/-! ### by the text's order -/
theorem erase_perm {α : Type} {left : List α} {j : Nat} (lt : j < left.length) : (left[j] :: left.eraseIdx j).Perm left := by
  have e1 := List.eraseIdx_eq_take_drop_succ left j
  have e2 : left.take j ++ left[j] :: left.drop (j + 1) = left := by
    rw [← List.drop_eq_getElem_cons lt]
    exact List.take_append_drop _ _
  have pm : (left.take j ++ left[j] :: left.drop (j + 1)).Perm (left[j] :: (left.take j ++ left.drop (j + 1))) := List.perm_middle
  rw [e2] at pm
  rw [e1]
  exact pm.symm
theorem pick_go {α : Type} (next : Nat → Nat) : ∀ (fuel k : Nat) (left : List α) (out : Array α), left.length ≤ fuel → (pickOrder.go next fuel k left out).toList.Perm (out.toList ++ left)
  | 0, k, left, out, h => by
    have e : left = [] := List.length_eq_zero_iff.mp (by omega)
    subst e
    unfold pickOrder.go
    rw [List.append_nil]
  | fuel + 1, k, left, out, h => by
    unfold pickOrder.go
    by_cases e : left = []
    · subst e
      simp
    · have l0 : 0 < left.length := List.length_pos_iff.mpr e
      have lt : next k % left.length < left.length := Nat.mod_lt _ l0
      have g : left[next k % left.length]? = some left[next k % left.length] := List.getElem?_eq_getElem lt
      rw [g]
      dsimp only
      have z := List.length_eraseIdx_of_lt lt
      refine (pick_go next fuel (k + 1) _ _ (by omega)).trans ?_
      rw [Array.toList_push, List.append_assoc]
      refine List.Perm.append_left _ ?_
      exact erase_perm lt
theorem pick_perm {α : Type} (next : Nat → Nat) (xs : Array α) : (pickOrder next xs).toList.Perm xs.toList := by
  unfold pickOrder
  exact pick_go next xs.size 0 xs.toList #[] (by rw [Array.length_toList]; exact Nat.le_refl _)
theorem next_text {a : Addr} {xs : Array (Int × Value)} {ep i slot : Nat} {t : SetTable} (ft : w.params.followText "set-order" = true) (y : SetAt s.heap a xs ep t) :
    Nexts prog w s a slot i ep (((pickOrder (w.params.setOrder a ep) xs)[i]?).map fun e => (e.2, slot)) := by
  intro A E Q q
  obtain ⟨ob, ga, xa, da, fi⟩ := y
  unfold setNext
  refine wpAny_bind (wpAny_setState_of ga da fi ?_)
  dsimp only
  refine wpAny_bind ?_
  unfold setsByText
  refine wpAny_bind (wpAny_askSetting (wpAny_pure ?_))
  show wpAny _ _ (if w.params.followText "set-order" = true then _ else _) _ _ _
  rw [ft, if_pos rfl, if_neg (by simp)]
  refine wpAny_bind ?_
  unfold setWalk
  refine wpAny_bind (wpAny_setState_of ga da fi ?_)
  dsimp only
  refine wpAny_bind ?_
  unfold setsByText
  refine wpAny_bind (wpAny_askSetting (wpAny_pure ?_))
  show wpAny _ _ (if w.params.followText "set-order" = true then _ else _) _ _ _
  rw [ft, if_pos rfl]
  refine wpAny_bind (wpAny_askSetting (wpAny_pure ?_))
  exact wpAny_pure q
/-! ### drawn -/
theorem choose_any {M : Model} {src : Source} {n : Nat} {Q : Nat → Shared → Prop} (hn : n ≠ 0) (h : ∀ i d, i < n → Q i { s with drawn := d }) : wpAny M A (choose src n) Q E s := fun _ _ _ => ⟨hn, h _ _ (Nat.mod_lt _ (Nat.pos_of_ne_zero hn))⟩
theorem draw_perm {M : Model} {α : Type} : ∀ (n : Nat) (xs : List α) (s : Shared) (Q : List α → Shared → Prop), xs.length = n → (∀ ys d, ys.Perm xs → Q ys { s with drawn := d }) → wpAny M A (drawOrder n xs) Q E s
  | 0, xs, s, Q, hl, h => by
    have e : xs = [] := List.length_eq_zero_iff.mp hl
    subst e
    unfold drawOrder
    have es : s = { s with drawn := s.drawn } := by cases s; rfl
    rw [es]
    exact wpAny_pure (h [] s.drawn (List.Perm.refl _))
  | n + 1, [], s, Q, hl, h => by simp at hl
  | n + 1, x :: xs, s, Q, hl, h => by
    unfold drawOrder
    refine wpAny_bind (choose_any (by simp) fun i d hi => ?_)
    have g : (x :: xs)[i]? = some (x :: xs)[i] := List.getElem?_eq_getElem hi
    rw [g]
    dsimp only
    have z := List.length_eraseIdx_of_lt hi
    refine wpAny_bind (draw_perm n ((x :: xs).eraseIdx i) _ _ (by omega) fun ys d2 pm => ?_)
    refine wpAny_pure (h _ d2 ?_)
    exact (pm.cons _).trans (erase_perm hi)
/-- the tuple of places -/
def TupAt (h : Heap) (tp : Addr) (order : List Nat) : Prop := ∃ o c, h.get? tp = some o ∧ o.cls = .type "tuple" ∧ o.data = .seq (order.map fun (k : Nat) => rawInt k).toArray c
theorem TupAt.keep {h h' : Heap} {tp : Addr} {order : List Nat} (x : TupAt h tp order) (k : ∀ o, h.get? tp = some o → h'.get? tp = some o) : TupAt h' tp order := let ⟨o, c, g, r⟩ := x; ⟨o, c, k o g, r⟩
theorem drawn_item {it a tp : Addr} {i n ep pl : Nat} {xs : Array (Int × Value)} {t : SetTable} {order : List Nat} {e : Int × Value} {R : Option Value → Shared → Prop} (x : ItAt s.heap it (.ref tp) i a n ep) (y : SetAt s.heap a xs ep t) (z : TupAt s.heap tp order) (sz : xs.size = n)
    (ho : order[i]? = some pl) (he : xs[pl]? = some e)
    (hR : ∀ h', ItAt h' it (.ref tp) (i + 1) a n ep → (∀ b, b ≠ it → h'.get? b = s.heap.get? b) → R (some e.2) { s with heap := h' }) : wpAny (model prog w) A (pyNext (.ref it)) R E s := by
  obtain ⟨o, g, c, d⟩ := id x
  obtain ⟨ot, ct, gt, cct, dt⟩ := id z
  obtain ⟨ob, ga, xa, da, fi⟩ := id y
  unfold pyNext
  refine wpAny_bind (wpAny_attempt (wpAny_callSpecial?_slot (name := Str.ofString "__next__") x.type slotN (wpAny_call_entry slotN x.type entryN ?_ (argsN _))))
  unfold Builtin.«set_iterator.__next__»
  refine wpAny_bind (wpAny_pure ?_)
  refine wpAny_bind (wpAny_fieldsOf g d ?_)
  dsimp only [rawInt]
  refine wpAny_bind (ents y ?_)
  rw [if_neg (by simp [sz])]
  refine wpAny_bind (wpAny_seqItems gt dt ?_)
  dsimp only
  have ei : (order.map fun (k : Nat) => Value.int (k : Int) 0).toArray[i]? = some (.int (pl : Int) 0) := by
    rw [List.getElem?_toArray, List.getElem?_map, ho]
    rfl
  simp only [Int.toNat_natCast]
  dsimp only [rawInt]
  rw [ei]
  dsimp only
  simp only [Int.toNat_natCast]
  refine wpAny_bind ?_
  unfold setNextDrawn
  refine wpAny_bind (wpAny_setState_of ga da fi ?_)
  dsimp only
  rw [if_neg (by simp), he]
  dsimp only
  refine wpAny_pure ?_
  have g1 := fld_set (a := a) (k := 1) (v := .int ((i : Int) + 1) 0) s.heap g d
  refine wpAny_bind (wpAny_setField g d (by simp) ?_)
  exact wpAny_pure ⟨_, rfl, wpAny_pure (hR _ ⟨_, g1, c, rfl⟩ fun b hb => Heap.get?_update_other _ _ (Ne.symm hb))⟩
theorem drawn_end {it a tp : Addr} {i n ep : Nat} {xs : Array (Int × Value)} {t : SetTable} {order : List Nat} {R : Option Value → Shared → Prop} (hh : A.handled = none) (x : ItAt s.heap it (.ref tp) i a n ep) (y : SetAt s.heap a xs ep t) (z : TupAt s.heap tp order) (sz : xs.size = n)
    (ho : order[i]? = none) (hR : ∀ h', (∀ b o, b ≠ it → s.heap.get? b = some o → h'.get? b = some o) → R none { s with heap := h' }) : wpAny (model prog w) A (pyNext (.ref it)) R E s := by
  obtain ⟨o, g, c, d⟩ := id x
  obtain ⟨ot, ct, gt, cct, dt⟩ := id z
  unfold pyNext
  refine wpAny_bind (wpAny_attempt (wpAny_callSpecial?_slot (name := Str.ofString "__next__") x.type slotN (wpAny_call_entry slotN x.type entryN ?_ (argsN _))))
  unfold Builtin.«set_iterator.__next__»
  refine wpAny_bind (wpAny_pure ?_)
  refine wpAny_bind (wpAny_fieldsOf g d ?_)
  dsimp only [rawInt]
  refine wpAny_bind (ents y ?_)
  rw [if_neg (by simp [sz])]
  refine wpAny_bind (wpAny_seqItems gt dt ?_)
  dsimp only
  have ei : (order.map fun (k : Nat) => Value.int (k : Int) 0).toArray[i]? = none := by
    rw [List.getElem?_toArray, List.getElem?_map, ho]
    rfl
  simp only [Int.toNat_natCast]
  dsimp only [rawInt]
  rw [ei]
  dsimp only
  have g1 := fld_set (a := a) (k := 0) (v := .int 0 0) s.heap g d
  refine wpAny_bind (wpAny_setField g d (by simp) ?_)
  refine wpAny_bind (wpAny_setField g1 rfl (by simp) ?_)
  exact stop_now (it := it) hh fun h' k => hR h' fun b o hb q => k b o ((Heap.get?_update_other _ _ (Ne.symm hb)).trans ((Heap.get?_update_other _ _ (Ne.symm hb)).trans q))
end
end LkS

end
section
set_option Elab.async false
set_option linter.all false
set_option maxRecDepth 100000
set_option maxHeartbeats 8000000
namespace LkS
open PySem
section
variable {prog : Program} {w : World} {A : Around} {E : Value → Shared → Prop} {s : Shared}
theorem self_it {it a : Addr} {fst : Value} {i n ep : Nat} {R : Value → Shared → Prop} (x : ItAt s.heap it fst i a n ep) (q : R (.ref it) s) : wpAny (model prog w) A (pyIter (.ref it)) R E s := by
  refine wpAny_pyIter_slot x.type slotI (wpAny_call_entry slotI x.type entryI ?_ (argsI _))
  show wpAny _ _ (ret (.ref it)) _ _ s
  exact wpAny_pure ⟨_, rfl, "set_iterator", _, x.type, slotN.lookup, q⟩
/-- in an order that is known: by the text, by the table -/
theorem walk_plain (hh : A.handled = none) {it a : Addr} (ne : a ≠ it) {xs ord : Array (Int × Value)} {ep n : Nat} {t : SetTable} (sl : Nat → Nat) (sz : xs.size = n) (so : ord.size = n)
    (nx : ∀ (s : Shared) (i : Nat), i ≤ n → SetAt s.heap a xs ep t → Nexts prog w s a (sl i) i ep ((ord[i]?).map fun e => (e.2, sl (i + 1)))) :
    Walks prog w A it [it, a] [it] n (fun i v => (ord.toList.map (·.2))[i]? = some v) (fun i h => ItAt h it (rawInt (sl i)) i a n ep ∧ SetAt h a xs ep t) where
  sub := fun b hb => by simp at hb; simp [hb]
  frame := fun _ _ _ st k => ⟨st.1.keep fun o q => k it (by simp) o q, st.2.keep fun o q => k a (by simp) o q⟩
  item := fun i s Q E hi st hQ => by
    have lt : i < ord.size := by omega
    have e : ord[i]? = some ord[i] := Array.getElem?_eq_getElem lt
    have q := nx s i (by omega) st.2
    rw [e] at q
    refine next_item st.1 st.2 sz q fun h' x' k => hQ _ h' s.toks ?_ ⟨x', st.2.keep fun o z => (k a ne).trans z⟩ fun b o hb z => (k b (by simpa using hb)).trans z
    rw [List.getElem?_map, Array.getElem?_toList, e]
    rfl
  done := fun s Q E st hQ => by
    have e : ord[n]? = none := Array.getElem?_eq_none (by omega)
    have q := nx s n (Nat.le_refl _) st.2
    rw [e] at q
    exact next_end hh st.1 st.2 sz q fun h' k => hQ h' s.toks fun b o hb z => k b o (by simpa using hb) z
  self := fun _ _ _ _ st q => self_it st.1 q
theorem walk_drawn (hh : A.handled = none) {it a tp : Addr} (ne : a ≠ it) (nt : tp ≠ it) {xs : Array (Int × Value)} {ep n : Nat} {t : SetTable} {order : List Nat} (sz : xs.size = n) (pm : order.Perm (List.range n)) :
    Walks prog w A it [it, a, tp] [it] n (fun i v => (order.map fun p => ((xs[p]?).map (·.2)).getD .none)[i]? = some v) (fun i h => ItAt h it (.ref tp) i a n ep ∧ SetAt h a xs ep t ∧ TupAt h tp order) where
  sub := fun b hb => by simp at hb; simp [hb]
  frame := fun _ _ _ st k => ⟨st.1.keep fun o q => k it (by simp) o q, st.2.1.keep fun o q => k a (by simp) o q, st.2.2.keep fun o q => k tp (by simp) o q⟩
  item := fun i s Q E hi st hQ => by
    have ln : order.length = n := by rw [pm.length_eq, List.length_range]
    have lt : i < order.length := by omega
    have e : order[i]? = some order[i] := List.getElem?_eq_getElem lt
    have mem : order[i] ∈ List.range n := pm.mem_iff.mp (List.getElem_mem lt)
    have lp : order[i] < xs.size := by rw [sz]; exact List.mem_range.mp mem
    have ex : xs[order[i]]? = some xs[order[i]] := Array.getElem?_eq_getElem lp
    refine drawn_item st.1 st.2.1 st.2.2 sz e ex fun h' x' k => hQ _ h' s.toks ?_ ⟨x', st.2.1.keep fun o z => (k a ne).trans z, st.2.2.keep fun o z => (k tp nt).trans z⟩ fun b o hb z => (k b (by simpa using hb)).trans z
    rw [List.getElem?_map, e]
    show some ((xs[order[i]]?.map (·.2)).getD .none) = _
    rw [ex]
    rfl
  done := fun s Q E st hQ => by
    have ln : order.length = n := by rw [pm.length_eq, List.length_range]
    exact drawn_end hh st.1 st.2.1 st.2.2 sz (List.getElem?_eq_none (by omega)) fun h' k => hQ h' s.toks fun b o hb z => k b o (by simpa using hb) z
  self := fun _ _ _ _ st q => self_it st.1 q
theorem drawn_vals {xs : Array (Int × Value)} {n : Nat} {order : List Nat} (sz : xs.size = n) (pm : order.Perm (List.range n)) : (order.map fun p => ((xs[p]?).map (·.2)).getD .none).Perm (xs.toList.map (·.2)) := by
  refine (pm.map _).trans ?_
  have e : (List.range n).map (fun p => ((xs[p]?).map (·.2)).getD Value.none) = xs.toList.map (·.2) := by
    refine List.ext_getElem? fun i => ?_
    rw [List.getElem?_map, List.getElem?_map, show xs.toList[i]? = xs[i]? from Array.getElem?_toList ..]
    by_cases lt : i < n
    · rw [List.getElem?_range lt, Array.getElem?_eq_getElem (by omega)]
      show some (((xs[i]?).map (·.2)).getD Value.none) = _
      rw [Array.getElem?_eq_getElem (by omega)]
      rfl
    · rw [List.getElem?_eq_none (l := List.range n) (by simp; omega), Array.getElem?_eq_none (by omega)]
      rfl
  rw [e]
/-- an iterator of the set, and the order that it will tell -/
structure Walked (prog : Program) (w : World) (s : Shared) (xs : Array (Int × Value)) (it : Addr) (z : Shared) (ordv : List Value) : Prop where
  pm : ordv.Perm (xs.toList.map (·.2))
  kept : ∀ b o, s.heap.get? b = some o → z.heap.get? b = some o
  gens : z.gens = s.gens
  os : z.os = s.os
  toks : z.toks = s.toks
  new : s.heap.objs.size ≤ it
  walk : ∃ (fp : List Addr) (St : Nat → Heap → Prop), (∀ b ∈ fp, b < z.heap.objs.size) ∧ (∀ b ∈ fp, s.heap.objs.size ≤ b ∨ ∃ o, s.heap.get? b = some o ∧ o.cls = .type "set") ∧ (∀ A : Around, A.handled = none → Walks prog w A it fp [it] ordv.length (fun i v => ordv[i]? = some v) St) ∧ St 0 z.heap
theorem iter_set {a : Addr} {xs : Array (Int × Value)} {ep : Nat} {t : SetTable} {R : Value → Shared → Prop} (y : SetAt s.heap a xs ep t) (g : Good (!w.params.followText "set-order") t) (hz : xs.size ≤ sizeLine)
    (hR : ∀ it z ordv, Walked prog w s xs it z ordv → R (.ref it) z) : wpAny (model prog w) A (pyIter (.ref a)) R E s := by
  obtain ⟨ob, ga, xa, da, fi⟩ := id y
  have ty : s.TypeIs (.ref a) "set" := ⟨ob, ga, xa.1⟩
  have la : a < s.heap.objs.size := Heap.lt_size ga
  refine wpAny_pyIter_slot ty PySem.F.slot_set_iter (wpAny_call_entry PySem.F.slot_set_iter ty entryS ?_ (PySem.F.args_set_iter_1 _))
  unfold Builtin.«frozenset.__iter__»
  refine wpAny_bind ?_
  unfold Builtin.Frozenset.slot0
  refine wpAny_bind (wpAny_pure ?_)
  show wpAny _ _ (pure a) _ _ _
  refine wpAny_pure ?_
  refine wpAny_bind ?_
  unfold Builtin.Frozenset.sizeOf
  refine wpAny_bind (ents y (wpAny_pure ?_))
  refine wpAny_bind ?_
  unfold setDrawn
  refine wpAny_bind (wpAny_setState_of ga da fi ?_)
  dsimp only
  refine wpAny_bind ?_
  unfold setsByText
  refine wpAny_bind (wpAny_askSetting (wpAny_pure ?_))
  refine wpAny_pure ?_
  show wpAny _ _ (if (!w.params.followText "set-order" && (!t.plain && decide (xs.size > 1))) = true then _ else _) _ _ _
  have plain : ∀ (sl : Nat → Nat) (ord : Array (Int × Value)), sl 0 = 0 → ord.toList.Perm xs.toList → (∀ (s : Shared) (i : Nat), i ≤ xs.size → SetAt s.heap a xs ep t → Nexts prog w s a (sl i) i ep ((ord[i]?).map fun e => (e.2, sl (i + 1)))) →
      R (.ref s.heap.objs.size) { s with heap := s.heap.push { cls := .type "set_iterator", data := .fields #[rawInt 0, rawInt 0, .ref a, rawInt xs.size, rawInt ep] } } := by
    intro sl ord h0 pm nx
    have so : ord.size = xs.size := by rw [← Array.length_toList, pm.length_eq, Array.length_toList]
    have lv : (ord.toList.map (·.2)).length = xs.size := by rw [List.length_map, Array.length_toList, so]
    refine hR _ _ (ord.toList.map (·.2)) ⟨pm.map _, fun b o q => Heap.get?_push_of_some _ q, rfl, rfl, rfl, Nat.le_refl _, [s.heap.objs.size, a], (fun i h => ItAt h s.heap.objs.size (rawInt (sl i)) i a xs.size ep ∧ SetAt h a xs ep t), fun b hb => ?_, fun b hb => ?_, fun A hh => by rw [lv]; exact walk_plain hh (Nat.ne_of_lt la) sl rfl so nx, ⟨_, Heap.get?_push_size _ rfl, rfl, by rw [h0]; rfl⟩, y.keep fun o q => Heap.get?_push_of_some _ q⟩
    · show b < (s.heap.push _).objs.size
      rw [Heap.size_push]
      rcases List.mem_cons.mp hb with e | hb
      · rw [e]; exact Nat.lt_succ_self _
      · rw [List.mem_singleton.mp hb]; exact Nat.lt_succ_of_lt la
    · rcases List.mem_cons.mp hb with e | hb
      · exact .inl (by rw [e]; exact Nat.le_refl _)
      · exact .inr ⟨ob, by rw [List.mem_singleton.mp hb]; exact ga, xa.1⟩
  have tail : R (.ref s.heap.objs.size) { s with heap := s.heap.push { cls := .type "set_iterator", data := .fields #[rawInt 0, rawInt 0, .ref a, rawInt xs.size, rawInt ep] } } →
      wpAny (model prog w) A.in1 (do let first ← pure (rawInt 0); let k ← setEpoch a; let v ← newFields "set_iterator" [first, rawInt 0, .ref a, rawInt xs.size, rawInt k]; ret v)
        (fun fin z => ∃ v, fin = Fin.done (Flow.ret v) ∧ ∃ T r, z.TypeIs v T ∧ typeLookup (.type T) (Str.ofString "__next__") = pure (some r) ∧ R v z) E s := by
    intro q
    refine wpAny_bind (wpAny_pure ?_)
    refine wpAny_bind (wpAny_setEpoch_of ga da fi ?_)
    refine wpAny_bind ?_
    unfold newFields
    refine wpAny_newObj_type ?_ (by size_fits)
    exact wpAny_pure ⟨_, rfl, "set_iterator", _, ⟨_, Heap.get?_push_size _ rfl, rfl⟩, slotN.lookup, q⟩
  cases ft : w.params.followText "set-order" with
  | true =>
    rw [if_neg (by simp)]
    refine tail (plain (fun _ => 0) (pickOrder (w.params.setOrder a ep) xs) rfl (pick_perm _ _) fun s i hi y2 => ?_)
    exact next_text ft y2
  | false =>
    rw [ft] at g
    cases pl : (!t.plain && decide (xs.size > 1)) with
    | false =>
      rw [if_neg (by simp)]
      refine tail (plain (slotAt t) xs rfl (List.Perm.refl _) fun s i hi y2 => ?_)
      exact next_table ft y2 g pl hi
    | true =>
      rw [if_pos (by simp)]
      refine wpAny_bind (draw_perm xs.size (List.range xs.size) s _ (by rw [List.length_range]) fun order d pm => ?_)
      refine wpAny_bind ?_
      unfold newTuple
      have lo : order.length = xs.size := by rw [pm.length_eq, List.length_range]
      refine wpAny_newObj_type ?_ (by show (order.map _).toArray.size ≤ sizeLine; rw [List.size_toArray, List.length_map]; omega)
      have y1 : SetAt (s.heap.push { cls := .type "tuple", data := .seq (order.map fun (i : Nat) => rawInt i).toArray }) a xs ep t := y.keep fun o q => Heap.get?_push_of_some _ q
      obtain ⟨o1, g1, x1, d1, f1⟩ := y1
      refine wpAny_bind (wpAny_setEpoch_of g1 d1 f1 ?_)
      refine wpAny_bind ?_
      unfold newFields
      refine wpAny_newObj_type ?_ (by size_fits)
      have lv : (order.map fun p => ((xs[p]?).map (·.2)).getD Value.none).length = xs.size := by rw [List.length_map, lo]
      have zt : (s.heap.push { cls := .type "tuple", data := .seq (order.map fun (i : Nat) => rawInt i).toArray }).objs.size = s.heap.objs.size + 1 := Heap.size_push ..
      have gt : (s.heap.push { cls := .type "tuple", data := .seq (order.map fun (i : Nat) => rawInt i).toArray }).get? s.heap.objs.size = some { cls := .type "tuple", data := .seq (order.map fun (i : Nat) => rawInt i).toArray } := Heap.get?_push_size _ rfl
      have k1 : ∀ b o, s.heap.get? b = some o → (s.heap.push { cls := .type "tuple", data := .seq (order.map fun (i : Nat) => rawInt i).toArray }).get? b = some o := fun b o q => Heap.get?_push_of_some _ q
      generalize hh1 : s.heap.push { cls := .type "tuple", data := .seq (order.map fun (i : Nat) => rawInt i).toArray } = h1 at zt gt k1 g1 ⊢
      have nz : s.heap.objs.size < h1.objs.size := by rw [zt]; exact Nat.lt_succ_self _
      refine wpAny_pure ⟨_, rfl, "set_iterator", _, ⟨_, Heap.get?_push_size _ rfl, rfl⟩, slotN.lookup, ?_⟩
      refine hR _ _ (order.map fun p => ((xs[p]?).map (·.2)).getD Value.none) ⟨drawn_vals rfl pm, fun b o q => Heap.get?_push_of_some _ (k1 b o q), rfl, rfl, rfl, Nat.le_of_lt nz, [h1.objs.size, a, s.heap.objs.size], (fun i h => ItAt h h1.objs.size (.ref s.heap.objs.size) i a xs.size ep ∧ SetAt h a xs ep t ∧ TupAt h s.heap.objs.size order), fun b hb => ?_, fun b hb => ?_,
        fun A hh => by rw [lv]; exact walk_drawn hh (Nat.ne_of_lt (Nat.lt_trans la nz)) (Nat.ne_of_lt nz) rfl pm, ⟨_, Heap.get?_push_size _ rfl, rfl, rfl⟩, ⟨o1, Heap.get?_push_of_some _ g1, x1, d1, f1⟩, ⟨_, _, Heap.get?_push_of_some _ gt, rfl, rfl⟩⟩
      · show b < (h1.push _).objs.size
        rw [Heap.size_push]
        rcases List.mem_cons.mp hb with e | hb
        · rw [e]; exact Nat.lt_succ_self _
        · rcases List.mem_cons.mp hb with e | hb
          · rw [e]; exact Nat.lt_succ_of_lt (Nat.lt_trans la nz)
          · rw [List.mem_singleton.mp hb]; exact Nat.lt_succ_of_lt nz
      · rcases List.mem_cons.mp hb with e | hb
        · exact .inl (by rw [e]; exact Nat.le_of_lt nz)
        · rcases List.mem_cons.mp hb with e | hb
          · exact .inr ⟨ob, by rw [e]; exact ga, xa.1⟩
          · exact .inl (by rw [List.mem_singleton.mp hb]; exact Nat.le_refl _)
end
end LkS

end
section
set_option Elab.async false
set_option linter.all false
set_option maxRecDepth 100000
set_option maxHeartbeats 8000000
namespace LkS
open PySem
section
variable {prog : Program} {w : World} {A : Around} {E : Value → Shared → Prop} {s : Shared}
theorem hint_set {a : Addr} {Q : Bool → Shared → Prop} (ty : s.TypeIs (.ref a) "set") (q : Q false s) : wpAny (model prog w) A (Builtin.List.listLengthHint (.ref a)) Q E s := by
  unfold Builtin.List.listLengthHint
  refine wpAny_bind (wpAny_specialOf ty PySem.F.slot_set_len.lookup ?_)
  generalize hid : ("set.__len__" : String) = id0
  wp_delta
  rw [show splitId id0 = some ("set", "__len__") from by subst hid; decide +kernel]
  subst hid
  refine wpAny_bind (wpAny_isInstance (T := "set") (b := true) ty (by rw [isSubtype_type]; kernel_rfl) ?_)
  refine wpAny_ite_split (fun z => absurd z (by decide)) (fun _ => ?_)
  refine wpAny_ite_split (fun _ => ?_) (fun z => absurd (by decide +kernel) z)
  exact wpAny_bind (wpAny_typeOf ty (wpAny_pure q))
/-- what a state has of another: all that stood there -/
structure Kp (s z : Shared) : Prop where
  heap : ∀ b o, s.heap.get? b = some o → z.heap.get? b = some o
  gens : z.gens = s.gens
  os : z.os = s.os
  size : s.heap.objs.size ≤ z.heap.objs.size
theorem items_eq {ordv : List Value} {acc : Array Value} (h : ItemsOf (fun i v => ordv[i]? = some v) acc ordv.length) : acc.toList = ordv := by
  refine List.ext_getElem? fun i => ?_
  rw [Array.getElem?_toList]
  by_cases lt : i < ordv.length
  · have l2 : i < acc.size := by rw [h.1]; exact lt
    have e := Array.getElem?_eq_getElem l2
    rw [e]
    exact (h.2 i _ e).symm
  · rw [List.getElem?_eq_none (by omega), Array.getElem?_eq_none (by rw [h.1]; omega)]
theorem extend_set {a : Addr} {xs : Array (Int × Value)} {ep : Nat} {t : SetTable} {R : Result → Shared → Prop} (hh : A.handled = none) (y : SetAt s.heap a xs ep t) (g : Good (!w.params.followText "set-order") t) (hz : xs.size ≤ sizeLine) (S : Addr) (nS : S ≠ a) (c0 : Nat) (gS : s.heap.get? S = some { cls := .type "list", data := .seq #[] c0 })
    (hR : ∀ (z : Shared) (acc : Array Value) (c : Nat), acc.toList.Perm (xs.toList.map (·.2)) → (∀ b o, b ≠ S → s.heap.get? b = some o → z.heap.get? b = some o) → z.gens = s.gens → z.os = s.os → z.heap.get? S = some { cls := .type "list", dict := none, data := .seq acc c, slots := #[] } → R (.ok (.ret (.ref S))) z) :
    wpAny (model prog w) A.in1 (Builtin.List.listExtendWith (.ref S) (.ref a) (.ref S)) (fun fin z => match fin with | .done f => R (.ok f) z | .again c => c.quiet = true ∧ codeAny (model prog w) A c R z) (fun e z => R (.error e) z) s := by
  obtain ⟨ob, ga, xa, da, fi⟩ := id y
  have ty : s.TypeIs (.ref a) "set" := ⟨ob, ga, xa.1⟩
  unfold Builtin.List.listExtendWith
  refine wpAny_bind (wpAny_typeOf (T := "set") ty ?_)
  have h1 : Builtin.List.listSameRef (.ref S) (.ref a) = false := by simp [Builtin.List.listSameRef, nS]
  have h2 : (Value.type "set" == Value.type "list") = false := by decide
  have h3 : (Value.type "set" == Value.type "tuple") = false := by decide
  simp only [h1, h2, h3, Bool.or_false, Bool.false_eq_true, if_false]
  refine wpAny_bind (iter_set y g hz fun it z ordv W => ?_)
  obtain ⟨fp, St, in1, in2, wk, st⟩ := W.walk
  have lS : S < s.heap.objs.size := Heap.lt_size gS
  have nfp : S ∉ fp := fun q => by
    rcases in2 S q with z1 | ⟨o, z1, z2⟩
    · exact Nat.lt_irrefl _ (Nat.lt_of_lt_of_le lS z1)
    · rw [gS] at z1
      cases z1
      have z3 : ("list" : String) = "set" := Value.type.inj z2
      exact absurd z3 (by decide)
  have nit : S ≠ it := fun q => Nat.lt_irrefl _ (Nat.lt_of_lt_of_le (q ▸ lS) W.new)
  have gz := W.kept _ _ gS
  have lo : ordv.length ≤ sizeLine := by rw [W.pm.length_eq, List.length_map, Array.length_toList]; exact hz
  have key : ∀ (h : Heap) (c1 : Nat), St 0 h → (∀ b o, b ≠ S → z.heap.get? b = some o → h.get? b = some o) → h.get? S = some { cls := .type "list", data := .seq #[] c1 } →
      codeAny (model prog w) A (.builtin "list.extend.loop" ⟨[.ref S, .ref it, .ref S], []⟩) R { z with heap := h } := by
    intro h c1 st1 kh g1
    refine codeAny_extend_loopS (wk A.in1 (by simp [hh])).toS lo S nfp (.ref S) ordv.length 0 _ #[] c1 rfl (Nat.zero_le _) st1 g1 (ItemsOf.nil _) fun y2 acc c mv g2 ac => ?_
    refine hR y2 acc c (by rw [items_eq ac]; exact W.pm) (fun b o nb q => ?_) (Eq.trans mv.gens W.gens) (mv.os.trans W.os) g2
    refine mv.heap b o (fun m => ?_) (kh b o nb (W.kept b o q))
    rcases List.mem_cons.mp m with e | m
    · exact nb e
    · have e := List.mem_singleton.mp m
      exact Nat.lt_irrefl _ (Nat.lt_of_lt_of_le (e ▸ Heap.lt_size q) W.new)
  have tz : z.TypeIs (.ref a) "set" := ⟨ob, W.kept _ _ ga, xa.1⟩
  refine wpAny_bind (wpAny_holding (hint_set tz ?_))
  refine wpAny_ite_split (fun _ => ?_) (fun _ => ?_)
  · refine wpAny_bind (wpAny_rule ?_)
    refine wpAny_bind ?_
    show wpAny _ _ (updateSeq S (·.push .none) >>= fun _ => updateSeq S (·.pop)) _ _ _
    refine wpAny_bind (wpAny_updateSeq gz rfl ?_)
    have g2 := Heap.get?_update_self (Obj.mapSeq (·.push Value.none)) gz rfl
    refine wpAny_updateSeq (hz := by seq_fits) g2 rfl ?_
    have g3 := Heap.get?_update_self (Obj.mapSeq (·.pop)) g2 rfl
    refine wpAny_pure ⟨plainId_quiet PySem.F.plain_extend_loop _, key _ _ ?_ (fun b o nb q => ?_) g3⟩
    · refine (wk A.in1 (by simp [hh])).frame 0 _ _ st fun b hb o q => ?_
      have nb : b ≠ S := fun e => nfp (e ▸ hb)
      exact (Heap.get?_update_other _ _ (Ne.symm nb)).trans ((Heap.get?_update_other _ _ (Ne.symm nb)).trans q)
    · exact (Heap.get?_update_other _ _ (Ne.symm nb)).trans ((Heap.get?_update_other _ _ (Ne.symm nb)).trans q)
  · exact wpAny_pure ⟨plainId_quiet PySem.F.plain_extend_loop _, key z.heap c0 st (fun b o _ q => q) gz⟩
theorem collect_set {a : Addr} {xs : Array (Int × Value)} {ep : Nat} {t : SetTable} {R : List Value → Shared → Prop} (hh : A.handled = none) (y : SetAt s.heap a xs ep t) (g : Good (!w.params.followText "set-order") t) (hz : xs.size ≤ sizeLine)
    (hR : ∀ (z : Shared) (vs : List Value), vs.Perm (xs.toList.map (·.2)) → Kp s z → R vs z) : wpAny (model prog w) A (collect (.ref a)) R E s := by
  obtain ⟨ob, ga, xa, da, fi⟩ := id y
  have la : a < s.heap.objs.size := Heap.lt_size ga
  unfold collect
  refine wpAny_bind (wpAny_runValue (codeAny_builtin PyProof.Rows.entry_proto_collect' ?_))
  rw [Around.under_plainId PySem.F.plain_proto_collect _]
  show wpAny _ A.in1 (newList [] >>= fun l => again (.builtin "list.__iadd__" ⟨[l, .ref a], []⟩)) _ _ s
  refine wpAny_bind (wpAny_newObj_type ?_)
  refine wpAny_pure ⟨plainId_quiet PySem.F.plain_list_iadd _, codeAny_builtin PyProof.Rows.entry_list_iadd' ?_⟩
  rw [Around.under_plainId PySem.F.plain_list_iadd _]
  have gS : (s.heap.push { cls := .type "list", data := .seq ([] : List Value).toArray }).get? s.heap.objs.size = some { cls := .type "list", data := .seq #[] } := Heap.get?_push_size _ rfl
  have y1 : SetAt (s.heap.push { cls := .type "list", data := .seq ([] : List Value).toArray }) a xs ep t := y.keep fun o q => Heap.get?_push_of_some _ q
  show wpAny _ A.in1 (Builtin.List.listExtendWith (.ref s.heap.objs.size) (.ref a) (.ref s.heap.objs.size)) _ _ _
  have key := extend_set (prog := prog) (A := A) (s := { s with heap := s.heap.push { cls := .type "list", data := .seq ([] : List Value).toArray } })
    (R := fun (q : Result) (z : Shared) => ∃ (acc : Array Value) (c : Nat), q = .ok (.ret (.ref s.heap.objs.size)) ∧ acc.toList.Perm (xs.toList.map (·.2)) ∧ Kp s z ∧ z.heap.get? s.heap.objs.size = some { cls := .type "list", dict := none, data := .seq acc c, slots := #[] })
    hh y1 g hz s.heap.objs.size (Nat.ne_of_gt la) 0 gS (fun z acc c pm k e1 e2 gz => ⟨acc, c, rfl, pm, ⟨fun b o q => k b o (Nat.ne_of_lt (Heap.lt_size q)) (Heap.get?_push_of_some _ q), e1, e2, Nat.le_of_lt (Heap.lt_size gz)⟩, gz⟩)
  refine wpAny_mono key (fun fin z x => ?_) fun e z x => ?_
  · cases fin with
    | done f =>
      obtain ⟨acc, c, e, pm, kp, gz⟩ := x
      cases e
      show wpAny _ A (load s.heap.objs.size >>= _) _ _ _
      exact wpAny_bind (wpAny_load gz (wpAny_pure (hR z acc.toList pm kp)))
    | again c1 =>
      refine ⟨x.1, codeAny_mono x.2 fun q z2 x2 => ?_⟩
      obtain ⟨acc, c, rfl, pm, kp, gz⟩ := x2
      show wpAny _ A (load s.heap.objs.size >>= _) _ _ _
      exact wpAny_bind (wpAny_load gz (wpAny_pure (hR z2 acc.toList pm kp)))
  · obtain ⟨_, _, e2, _⟩ := x
    cases e2
theorem ints_of : ∀ vs : List Value, (∀ v ∈ vs, ∃ k tk, v = Value.int k tk) → ∃ ms : List Int, PyProof.Rows.IntsAre vs ms ∧ (∀ x, x ∈ ms ↔ ∃ tk, Value.int x tk ∈ vs) ∧ ms.length = vs.length
  | [], _ => ⟨[], .nil, fun x => by simp, rfl⟩
  | v :: vs, h => by
    obtain ⟨k, tk, rfl⟩ := h v List.mem_cons_self
    obtain ⟨ms, ia, mm, ml⟩ := ints_of vs fun u hu => h u (List.mem_cons_of_mem _ hu)
    refine ⟨k :: ms, .cons k tk ia, fun x => ?_, by rw [List.length_cons, List.length_cons, ml]⟩
    rw [List.mem_cons, mm x]
    constructor
    · rintro (q | ⟨t2, q⟩)
      · exact ⟨tk, by rw [q]; exact List.mem_cons_self⟩
      · exact ⟨t2, List.mem_cons_of_mem _ q⟩
    · rintro ⟨t2, q⟩
      rcases List.mem_cons.mp q with q | q
      · cases q
        exact .inl rfl
      · exact .inr ⟨t2, q⟩
/-- sorted(a set of ints) -/
theorem sorted_set {a : Addr} {S : Int → Bool} {n : Nat} {R : Value → Shared → Prop} (hh : A.handled = none) (r : SetR prog w s.heap a S n) (hR : ∀ (z : Shared) (D : Addr) (vs : List Value) (ms : List Int) (c : Nat), Kp s z → s.heap.objs.size ≤ D → z.heap.get? D = some { cls := .type "list", dict := none, data := .seq vs.toArray c, slots := #[] } →
      PyProof.Rows.IntsAre vs ms → (∀ x, x ∈ ms ↔ S x = true) → ms.length = n → R (.ref D) z) : wpAny (model prog w) A (call (.builtin "sorted") [.ref a]) R E s := by
  obtain ⟨ob, xs, ep, t, g0, x0, d0, el, me, bd, ft, sz, gd⟩ := r
  have y : SetAt s.heap a xs ep t := ⟨ob, g0, x0, d0, ft⟩
  have hz := fits_of_scanBound bd
  refine Calls.call_function_entry PyProof.Rows.kind_sorted PyProof.Rows.plain_sorted PyProof.Rows.entry_sorted (PyProof.Rows.args_sorted1 _) ?_
  unfold Builtin.«sorted»
  refine wpAny_bind (m := checkCount "sorted" 1 1 _) (wpAny_pure ?_)
  refine wpAny_bind (collect_set (A := A.in1) (by simp [hh]) y gd hz fun z vs pm kp => ?_)
  have lv : vs.length = n := by rw [pm.length_eq, List.length_map, Array.length_toList, sz]
  refine wpAny_bind (wpAny_newList ?_ (by omega))
  have gD : (z.heap.push { cls := .type "list", data := .seq vs.toArray }).get? z.heap.objs.size = some (PyProof.Rows.seqObj "list" vs.toArray 0) := Heap.get?_push_size _ rfl
  have allInt : ∀ v ∈ vs, ∃ k tk, v = Value.int k tk := fun v hv => by
    obtain ⟨e, he, ev⟩ := List.mem_map.mp (pm.mem_iff.mp hv)
    obtain ⟨⟨k, hk, _⟩, _⟩ := el e he
    obtain ⟨tk, q⟩ := Value.isInt_shape (show Value.isInt k e.2 = true from hk)
    exact ⟨k, tk, by rw [← ev]; exact q⟩
  obtain ⟨ms0, ia, mm, ml⟩ := ints_of vs allInt
  refine wpAny_bind (wpAny_holding (wpAny_call_entry PyProof.Rows.slot_list_sort ⟨_, gD, rfl⟩ PyProof.Rows.entry_list_sort (PyProof.Rows.list_sort_treeAny gD ia (by omega) fun out ms a1 a2 a3 => ⟨_, rfl, ?_⟩) (PyProof.Rows.args_list_sort _)))
  obtain ⟨c, gs⟩ := PyProof.Rows.sortedHeap_at (out := out) gD
  have old := fun b => PyProof.Rows.sortedHeap_old (h := z.heap.push { cls := .type "list", data := .seq vs.toArray }) (a := z.heap.objs.size) (vs := vs) (out := out) (b := b)
  refine wpAny_pure ⟨_, rfl, hR _ z.heap.objs.size out.toList ms c ⟨fun b o q => ?_, kp.gens, kp.os, Nat.le_trans kp.size (Nat.le_of_lt (Heap.lt_size gs))⟩ kp.size (by simpa using gs) a1 (fun x => ?_) ?_⟩
  · have lb := Heap.lt_size (kp.heap b o q)
    refine (old b (Nat.ne_of_lt lb) (by rw [Heap.size_push]; exact Nat.lt_succ_of_lt lb)).trans ?_
    exact Heap.get?_push_of_some _ (kp.heap b o q)
  · rw [a2.mem_iff, mm x, me x]
    constructor
    · rintro ⟨tk, hv⟩
      obtain ⟨e, he, ev⟩ := List.mem_map.mp (pm.mem_iff.mp hv)
      exact ⟨e, he, by rw [ev]; exact intKind_is _ _ _ _⟩
    · rintro ⟨e, he, q⟩
      obtain ⟨tk, q2⟩ := Value.isInt_shape (show Value.isInt x e.2 = true from q)
      exact ⟨tk, pm.mem_iff.mpr (List.mem_map.mpr ⟨e, he, q2⟩)⟩
  · rw [a2.length_eq, ml, lv]
end
end LkS

end
section
set_option Elab.async false
set_option linter.all false
set_option maxRecDepth 100000
set_option maxHeartbeats 4000000
/-! set(list of ints), sorted of it -/
namespace L2
open PySem PySem.Spec PyProof.Rows
theorem Inv.redraw {X : Cx} {pins : List (Addr × Obj)} {σ : St} {H : Hp} {s : Shared} (I : Inv X pins σ H s) (d : type_of% s.drawn) : Inv X pins σ H { s with drawn := d } := ⟨I.ok, I.os, I.bare, I.base, I.loc, I.cell, I.free, I.freeC, I.pin, I.hok, I.len⟩
/-- the set of ints at a, as tracked -/
def SetO (P : Program) (w : World) (a : Addr) (S : Int → Bool) (n : Nat) : HO := .ext fun h => LkS.SetR P w h a S n
def rSetI (P : Program) (w : World) (K : PySem.W.Frag) : List V → Hp → VK → Prop := fun vs H Q => ∃ (a : Addr) (ns : List Int), vs = [V.ref a] ∧ SqL K H a (ns.map V.int) ∧ ns.length ≤ 4000 ∧
  ∀ (p : Addr) (S : Int → Bool) (n : Nat), H p = none → n ≤ ns.length → (∀ x, S x = true ↔ x ∈ ns) → Q (.ref p) (upd H p (SetO P w p S n))
theorem cr_setI {X : Cx} (hc : X.calm = true) : CallR X (.type "set") (rSetI X.prog X.w X.K) := by
  intro pins s σ H vs us Q I r h
  obtain ⟨a, ns, rfl, hs, hz, q⟩ := h
  obtain ⟨its, rv, hl, _⟩ := I.list hs
  rw [Vals.ref1 r]
  have hi := rv.ints
  have len : its.toArray.size = ns.length := by rw [List.size_toArray]; exact hi.length
  refine LkS.call_int (I.ok.hd hc) hl.isList (ns := ns) (by simpa using hi) (by rw [len]; unfold scanBound; omega) fun z made => ?_
  obtain ⟨h', tk, S, m, rfl, r2, lm, mem, kp⟩ := made
  have new : ObjOk X.prog X.w (upd H s.heap.objs.size (SetO X.prog X.w s.heap.objs.size S m)) h' s.heap.objs.size (SetO X.prog X.w s.heap.objs.size S m) := by
    refine ⟨r2, ?_, fun h1 h2 q1 k => q1.keep k⟩
    obtain ⟨ob, _, _, _, g0, _⟩ := r2
    exact ⟨ob, g0⟩
  exact ⟨.ref _, _, I.laid (t' := tk) (fun b o e => kp b o (Heap.lt_size e) e) (Nat.le_refl _) new, rfl, q _ S m I.fresh (by rw [len] at lm; exact lm) mem⟩
def rSortedSet (P : Program) (w : World) : List V → Hp → VK → Prop := fun vs H Q => ∃ (a : Addr) (S : Int → Bool) (n : Nat), vs = [V.ref a] ∧ H a = some (SetO P w a S n) ∧ n ≤ 4000 ∧
  ∀ (p : Addr) (ms : List Int), H p = none → (∀ x, x ∈ ms ↔ S x = true) → ms.length = n → Q (.ref p) (upd H p (.lst (ms.map V.int)))
theorem cr_sortedSet {X : Cx} (hc : X.calm = true) : CallR X (.builtin "sorted") (rSortedSet X.prog X.w) := by
  intro pins s σ H vs us Q I r h
  obtain ⟨a, S, n, rfl, hH, hn, q⟩ := h
  rw [Vals.ref1 r]
  obtain ⟨r2, _⟩ := I.hok a _ hH
  refine LkS.sorted_set (I.ok.hd hc) r2 fun z D vs ms c kp le gD ia mem len => ?_
  obtain ⟨h', g', d', t', o'⟩ := z
  have e1 : g' = s.gens := kp.gens
  have e2 : o' = s.os := kp.os
  subst e1 e2
  have hz : (ms.map V.int).length ≤ sizeLine := by rw [List.length_map, len, sizeLine_eq]; omega
  have I1 : Inv X pins σ (upd H D (.lst (ms.map V.int))) { s with heap := h', toks := t' } := I.laid (t' := t') (fun b o e => kp.heap b o e) le ⟨hz, vs, c, vals_of_ints ia, gD⟩
  exact ⟨.ref D, _, I1.redraw d', rfl, q D ms (I.hok.fresh le) mem len⟩
theorem boot_sorted5 : bootBuiltins "sorted" = some (.builtin "sorted") := by decide +kernel
theorem boot_set5 : bootBuiltins "set" = some (.type "set") := by decide +kernel
end L2

end
set_option Elab.async false
set_option linter.all false
set_option maxRecDepth 100000
set_option maxHeartbeats 4000000
namespace Lk
open PySem PySem.Spec PyProof.Rows L2
/-! ### the text by places -/
def top (i : Nat) : Stmt := PySem.Challenge.pw_flaglockerdesk_s09_least.main.body.getD i (.Pass ⟨0, 0, 0, 0⟩)
abbrev st_Kind___init__ : Stmt := inClass (top 30) 0
theorem sc_Kind___init__ : FnScope ["self", "group", "title", "repeat", "copies", "shape", "look"] ["self", "group", "title", "repeat", "copies", "shape", "look"] (defScope st_Kind___init__) := ⟨rfl, rfl, rfl, by decide +kernel, rfl, by decide +kernel, by decide +kernel⟩
abbrev st_Reading___init__ : Stmt := inClass (top 31) 0
theorem sc_Reading___init__ : FnScope ["self", "answer", "fault", "line", "kinds"] ["self", "answer", "fault", "line", "kinds"] (defScope st_Reading___init__) := ⟨rfl, rfl, rfl, by decide +kernel, rfl, by decide +kernel, by decide +kernel⟩
abbrev st_digits_of : Stmt := top 4
theorem sc_digits_of : FnScope ["number", "digits", "place"] ["number"] (defScope st_digits_of) := ⟨rfl, rfl, rfl, by decide +kernel, rfl, by decide +kernel, by decide +kernel⟩
abbrev st_number_of : Stmt := top 5
theorem sc_number_of : FnScope ["digits", "number", "digit"] ["digits"] (defScope st_number_of) := ⟨rfl, rfl, rfl, by decide +kernel, rfl, by decide +kernel, by decide +kernel⟩
abbrev st_in_light : Stmt := top 6
theorem sc_in_light : FnScope ["look", "light", "classes", "colour"] ["look", "light"] (defScope st_in_light) := ⟨rfl, rfl, rfl, by decide +kernel, rfl, by decide +kernel, by decide +kernel⟩
abbrev st_from_behind : Stmt := top 7
theorem sc_from_behind : FnScope ["look", "colours", "cell"] ["look"] (defScope st_from_behind) := ⟨rfl, rfl, rfl, by decide +kernel, rfl, by decide +kernel, by decide +kernel⟩
abbrev st_mirrored : Stmt := top 8
theorem sc_mirrored : FnScope ["cell", "before"] ["cell"] (defScope st_mirrored) := ⟨rfl, rfl, rfl, by decide +kernel, rfl, by decide +kernel, by decide +kernel⟩
abbrev st_cells_apart : Stmt := top 9
theorem sc_cells_apart : FnScope ["look", "other", "apart", "bit", "first", "second"] ["look", "other"] (defScope st_cells_apart) := ⟨rfl, rfl, rfl, by decide +kernel, rfl, by decide +kernel, by decide +kernel⟩
abbrev st_read_text : Stmt := top 32
theorem sc_read_text : FnScope ["t", "parts", "lines", "unended", "kinds", "number", "line", "words", "kind", "fault"] ["t"] (defScope st_read_text) := ⟨rfl, rfl, rfl, by decide +kernel, rfl, by decide +kernel, by decide +kernel⟩
abbrev st_no_locker : Stmt := top 33
theorem sc_no_locker : FnScope ["fault", "line"] ["fault", "line"] (defScope st_no_locker) := ⟨rfl, rfl, rfl, by decide +kernel, rfl, by decide +kernel, by decide +kernel⟩
abbrev st_has_sign : Stmt := top 34
theorem sc_has_sign : FnScope ["kinds", "kind"] ["kinds"] (defScope st_has_sign) := ⟨rfl, rfl, rfl, by decide +kernel, rfl, by decide +kernel, by decide +kernel⟩
abbrev st_split_at : Stmt := top 35
theorem sc_split_at : FnScope ["mark", "row", "parts", "part", "byte"] ["mark", "row"] (defScope st_split_at) := ⟨rfl, rfl, rfl, by decide +kernel, rfl, by decide +kernel, by decide +kernel⟩
abbrev st_is_locker_line : Stmt := top 36
theorem sc_is_locker_line : FnScope ["words"] ["words"] (defScope st_is_locker_line) := ⟨rfl, rfl, rfl, by decide +kernel, rfl, by decide +kernel, by decide +kernel⟩
abbrev st_kind_told : Stmt := top 37
theorem sc_kind_told : FnScope ["words", "repeat"] ["words"] (defScope st_kind_told) := ⟨rfl, rfl, rfl, by decide +kernel, rfl, by decide +kernel, by decide +kernel⟩
abbrev st_kind_with : Stmt := top 38
theorem sc_kind_with : FnScope ["group", "title", "repeat", "words", "copies", "shape", "look"] ["group", "title", "repeat", "words"] (defScope st_kind_with) := ⟨rfl, rfl, rfl, by decide +kernel, rfl, by decide +kernel, by decide +kernel⟩
abbrev st_fault_behind : Stmt := top 39
theorem sc_fault_behind : FnScope ["kinds", "kind", "before"] ["kinds", "kind"] (defScope st_fault_behind) := ⟨rfl, rfl, rfl, by decide +kernel, rfl, by decide +kernel, by decide +kernel⟩
abbrev st_may_follow : Stmt := top 40
theorem sc_may_follow : FnScope ["kinds", "kind", "last"] ["kinds", "kind"] (defScope st_may_follow) := ⟨rfl, rfl, rfl, by decide +kernel, rfl, by decide +kernel, by decide +kernel⟩
abbrev st_is_repeated : Stmt := top 41
theorem sc_is_repeated : FnScope ["before", "kind"] ["before", "kind"] (defScope st_is_repeated) := ⟨rfl, rfl, rfl, by decide +kernel, rfl, by decide +kernel, by decide +kernel⟩
abbrev st_spelled : Stmt := top 42
theorem sc_spelled : FnScope ["word", "letter"] ["word"] (defScope st_spelled) := ⟨rfl, rfl, rfl, by decide +kernel, rfl, by decide +kernel, by decide +kernel⟩
abbrev st_is_name : Stmt := top 43
theorem sc_is_name : FnScope ["word", "byte"] ["word"] (defScope st_is_name) := ⟨rfl, rfl, rfl, by decide +kernel, rfl, by decide +kernel, by decide +kernel⟩
abbrev st_is_name_byte : Stmt := top 44
theorem sc_is_name_byte : FnScope ["byte"] ["byte"] (defScope st_is_name_byte) := ⟨rfl, rfl, rfl, by decide +kernel, rfl, by decide +kernel, by decide +kernel⟩
abbrev st_digit_to : Stmt := top 45
theorem sc_digit_to : FnScope ["most", "word", "value"] ["most", "word"] (defScope st_digit_to) := ⟨rfl, rfl, rfl, by decide +kernel, rfl, by decide +kernel, by decide +kernel⟩
abbrev st_shape_told : Stmt := top 46
theorem sc_shape_told : FnScope ["word", "number", "written"] ["word"] (defScope st_shape_told) := ⟨rfl, rfl, rfl, by decide +kernel, rfl, by decide +kernel, by decide +kernel⟩
abbrev st_look_told : Stmt := top 47
theorem sc_look_told : FnScope ["word", "colours", "byte"] ["word"] (defScope st_look_told) := ⟨rfl, rfl, rfl, by decide +kernel, rfl, by decide +kernel, by decide +kernel⟩
abbrev st_colour_told : Stmt := top 48
theorem sc_colour_told : FnScope ["byte"] ["byte"] (defScope st_colour_told) := ⟨rfl, rfl, rfl, by decide +kernel, rfl, by decide +kernel, by decide +kernel⟩
abbrev st_view : Stmt := top 53
theorem sc_view : FnScope ["kind", "light", "side", "look"] ["kind", "light", "side"] (defScope st_view) := ⟨rfl, rfl, rfl, by decide +kernel, rfl, by decide +kernel, by decide +kernel⟩
abbrev st_views : Stmt := top 54
theorem sc_views : FnScope ["kind", "light", "side"] ["kind", "light", "side"] (defScope st_views) := ⟨rfl, rfl, rfl, by decide +kernel, rfl, by decide +kernel, by decide +kernel⟩
abbrev st_least_choice : Stmt := top 56
theorem sc_least_choice : FnScope ["kinds", "i", "light", "side", "shape_made_out", "apart", "choices", "count", "choice"] ["kinds", "i", "light", "side", "shape_made_out"] (defScope st_least_choice) := ⟨rfl, rfl, rfl, by decide +kernel, rfl, by decide +kernel, by decide +kernel⟩
abbrev st_ways_apart : Stmt := top 57
theorem sc_ways_apart : FnScope ["kinds", "i", "light", "side", "shape_made_out", "looks", "apart", "number", "other", "told_by_shape", "shown", "look"] ["kinds", "i", "light", "side", "shape_made_out"] (defScope st_ways_apart) := ⟨rfl, rfl, rfl, by decide +kernel, rfl, by decide +kernel, by decide +kernel⟩
abbrev st_meets_all : Stmt := top 58
theorem sc_meets_all : FnScope ["choice", "apart", "cells"] ["choice", "apart"] (defScope st_meets_all) := ⟨rfl, rfl, rfl, by decide +kernel, rfl, by decide +kernel, by decide +kernel⟩
abbrev st_with_one_cell_more : Stmt := top 59
theorem sc_with_one_cell_more : FnScope ["choices", "more", "bit", "cell", "choice"] ["choices"] (defScope st_with_one_cell_more) := ⟨rfl, rfl, rfl, by decide +kernel, rfl, by decide +kernel, by decide +kernel⟩
abbrev st_least : Stmt := top 65
theorem sc_least : FnScope ["i", "light", "side", "made", "t", "reading", "refusal", "told"] ["i", "light", "side", "made", "t"] (defScope st_least) := ⟨rfl, rfl, rfl, by decide +kernel, rfl, by decide +kernel, by decide +kernel⟩
abbrev st_refusal_of : Stmt := top 66
theorem sc_refusal_of : FnScope ["reading", "within"] ["reading", "within"] (defScope st_refusal_of) := ⟨rfl, rfl, rfl, by decide +kernel, rfl, by decide +kernel, by decide +kernel⟩
abbrev st_refusal_of_kind : Stmt := top 67
theorem sc_refusal_of_kind : FnScope ["i", "reading", "within", "refusal"] ["i", "reading", "within"] (defScope st_refusal_of_kind) := ⟨rfl, rfl, rfl, by decide +kernel, rfl, by decide +kernel, by decide +kernel⟩
/-! ### the text's own names: numbers, Python's own -/
structure TxtC (K : PySem.W.Frag) (mg : Str → Option Value) : Prop where
  c_CELLS : ∃ t, mg "CELLS" = some (.int (16) t)
  c_COLOURS : ∃ t, mg "COLOURS" = some (.int (16) t)
  c_ROW : ∃ t, mg "ROW" = some (.int (4) t)
  c_READ : ∃ t, mg "READ" = some (.int (0) t)
  c_TOO_LONG : ∃ t, mg "TOO_LONG" = some (.int (-2) t)
  c_NO_LOCKER : ∃ t, mg "NO_LOCKER" = some (.int (-6) t)
  c_SIGN : ∃ t, mg "SIGN" = some (.int (0) t)
  c_SAME : ∃ t, mg "SAME" = some (.int (1) t)
  c_ANSWER : ∃ t, mg "ANSWER" = some (.int (2) t)
  c_SOUND : ∃ t, mg "SOUND" = some (.int (0) t)
  c_MISPLACED : ∃ t, mg "MISPLACED" = some (.int (1) t)
  c_REPEATED : ∃ t, mg "REPEATED" = some (.int (2) t)
  c_ONE_SIGN_TOO_MANY : ∃ t, mg "ONE_SIGN_TOO_MANY" = some (.int (3) t)
  c_LOOKS_LIKE_ANOTHER : ∃ t, mg "LOOKS_LIKE_ANOTHER" = some (.int (4) t)
  c_MOST_BYTES : ∃ t, mg "MOST_BYTES" = some (.int (65536) t)
  c_MOST_SIGNS : ∃ t, mg "MOST_SIGNS" = some (.int (48) t)
  c_MOST_COPIES : ∃ t, mg "MOST_COPIES" = some (.int (8) t)
  c_MOST_REPEAT : ∃ t, mg "MOST_REPEAT" = some (.int (4) t)
  c_LONGEST_NAME : ∃ t, mg "LONGEST_NAME" = some (.int (8) t)
  c_LINE_END : ∃ t, mg "LINE_END" = some (.int (10) t)
  c_BLANK : ∃ t, mg "BLANK" = some (.int (32) t)
  c_FRONT : ∃ t, mg "FRONT" = some (.int (0) t)
  c_BEHIND : ∃ t, mg "BEHIND" = some (.int (1) t)
  c_SIDE_NOT_KNOWN : ∃ t, mg "SIDE_NOT_KNOWN" = some (.int (2) t)
  c_SHAPE_MADE_OUT : ∃ t, mg "SHAPE_MADE_OUT" = some (.int (1) t)
  c_OUT_OF_BOUNDS : ∃ t, mg "OUT_OF_BOUNDS" = some (.int (-1) t)
  c_NO_SUCH_KIND : ∃ t, mg "NO_SUCH_KIND" = some (.int (-4) t)
  c_NONE : ∃ t, mg "NONE" = some (.int (-5) t)
  n_len : mg "len" = none
  n_ord : mg "ord" = none
  n_any : mg "any" = none
  n_all : mg "all" = none
  n_sum : mg "sum" = none
  n_enumerate : mg "enumerate" = none
  n_reversed : mg "reversed" = none
  n_range : mg "range" = none
  n_zip : mg "zip" = none
  n_sorted : mg "sorted" = none
  n_set : mg "set" = none
  n_list : mg "list" = none
theorem Q_bl {Q : VK} {H : Hp} {a b : Bool} (k : Q (.bl a) H) (e : a = b) : Q (.bl b) H := e ▸ k
theorem Q_v {Q : VK} {H : Hp} {a b : V} (k : Q a H) (e : a = b) : Q b H := e ▸ k
theorem Q_int {Q : VK} {H : Hp} {a b : Int} (k : Q (.int a) H) (e : b = a) : Q (.int b) H := e ▸ k
theorem big16 : (16 : Nat) ≤ sizeLine := by rw [sizeLine_eq]; decide
theorem idiv_nat (x : Nat) : ((x : Nat) : Int) / 16 = ((x / 16 : Nat) : Int) := by omega
theorem imod_nat (x : Nat) : ((x : Nat) : Int) % 16 = ((x % 16 : Nat) : Int) := by omega
section
variable {P : Program} {w : World} {K : PySem.W.Frag} {mg : Str → Option Value} {base : Heap}
/-! ### digits_of -/
def spDigits : Sp := fun vs H Q _ => ∃ n : Nat, vs = [natV n] ∧ ∀ (H' : Hp) (p : Addr), Same H H' → H' p = some (.lst ((digs n).map natV)) → Q (.ref p) H'
theorem ok_digits_of {f : Addr} {fd : FuncData} (F : Fun K "digits_of" "digits_of" st_digits_of f fd) (T : TxtC K mg) : FnOk P w K mg base CX0 1 f fd ["number"] spDigits := by
  refine F.ok sc_digits_of (fun vs H Q E h => ?_) (fun cdv A outer s H vs Q E hr h => ?_)
  · obtain ⟨n, rfl, _⟩ := h
    rfl
  · obtain ⟨n, rfl, k⟩ := h
    refine ⟨_, (pss_cons (ps_set (i := 1) sc_digits_of.nd rfl (Or.inl rfl) (pe_lst pa_nil))
      (pss_cons (ps_for PassesOwn.never rfl (pi_range1 rfl T.n_range (pa_cons (pe_gi rfl T.c_CELLS) pa_nil)) (pg_name (i := 2) sc_digits_of.nd rfl (Or.inl rfl))
        (pss_cons (ps_expr (pe_bm PySem.F.plainAttrs_list PySem.F.slot_list_append PySem.F.type_list_append mt_append (pv 1) (pa_cons (pe_op op_mod (pv 0) (pe_gi rfl T.c_COLOURS)) pa_nil)))
        (pss_one (ps_set (i := 0) sc_digits_of.nd rfl (Or.inl rfl) (pe_op op_fdiv (pv 0) (pe_gi rfl T.c_COLOURS))))))
      (pss_one (ps_ret (pv 1))))), ?_⟩
    refine ⟨Nat.zero_le _, fun p hp => ?_⟩
    refine ⟨16, rfl, by decide, by decide, for_range (n := 16) (fun i σ H' => ∃ y, σ = [some (natV (n / 16 ^ i)), some (.ref p), y] ∧ Same H H' ∧ H' p = some (.lst (((List.range i).map (Flags.cell n)).map natV)))
      ⟨none, by rw [Nat.pow_zero, Nat.div_one]; rfl, Same.new hp, upd_same⟩ ?_ ?_⟩
    · rintro i σ H' hi ⟨y, rfl, s1, h1⟩
      have hl : (((List.range i).map (Flags.cell n)).map natV).length < sizeLine := by
        have := big16
        simp
        omega
      refine ⟨_, rfl, .inl ⟨rfl, _, SqL.of h1⟩, _, rfl, _, _, rfl, rfl, (by show (0 : Int) < 16; decide), p, _, _, rfl, rfl, h1, hl, ?_⟩
      refine ⟨_, rfl, _, _, rfl, rfl, ⟨by decide, by decide⟩, ?_⟩
      refine ⟨some (V.int (0 + (i : Int))), ?_, s1.upd hp, ?_⟩
      · have e : ((n / 16 ^ i : Nat) : Int) / 16 = ((n / 16 ^ (i + 1) : Nat) : Int) := by
          rw [Nat.pow_succ, ← Nat.div_div_eq_div_mul]
          exact idiv_nat _
        show [some (V.int (((n / 16 ^ i : Nat) : Int) / 16)), some (V.ref p), some (V.int (0 + (i : Int)))] = _
        rw [e]
        rfl
      · rw [upd_same, List.range_succ, List.map_append, List.map_append]
        have e : V.int (((n / 16 ^ i : Nat) : Int) % 16) = natV (Flags.cell n i) := by
          show V.int _ = V.int _
          rw [imod_nat]
          rfl
        dsimp only
        rw [e]
        rfl
    · rintro σ H' ⟨y, rfl, s1, h1⟩
      exact ⟨_, rfl, k H' p s1 h1⟩
/-! ### number_of -/
def spNumber (K : PySem.W.Frag) : Sp := fun vs H Q _ => ∃ (a : Addr) (ds : List Nat), vs = [.ref a] ∧ SqL K H a (ds.map natV) ∧ Q (natV (hexVal ds)) H
theorem ok_number_of {f : Addr} {fd : FuncData} (F : Fun K "number_of" "number_of" st_number_of f fd) (T : TxtC K mg) : FnOk P w K mg base CX0 1 f fd ["digits"] (spNumber K) := by
  refine F.ok sc_number_of (fun vs H Q E h => ?_) (fun cdv A outer s H vs Q E hr h => ?_)
  · obtain ⟨a, ds, rfl, _⟩ := h
    rfl
  · obtain ⟨a, ds, rfl, hs, k⟩ := h
    refine ⟨_, (pss_cons (ps_set (i := 1) sc_number_of.nd rfl (Or.inl rfl) pe_int)
      (pss_cons (ps_for PassesOwn.never rfl (pi_reversed rfl T.n_reversed (pa_cons (pv 0) pa_nil)) (pg_name (i := 2) sc_number_of.nd rfl (Or.inl rfl))
        (pss_one (ps_set (i := 1) sc_number_of.nd rfl (Or.inl rfl) (pe_op op_add (pe_op op_mul (pv 1) (pe_gi rfl T.c_COLOURS)) (pv 2)))))
      (pss_one (ps_ret (pv 1))))), ?_⟩
    refine ⟨_, rfl, a, _, rfl, hs, ?_⟩
    refine for_rev (K := K) (a := a) (xs := ds.map natV) (fun i σ H' => H' = H ∧ ∃ b, σ = [some (.ref a), some (natV (hexVal (ds.drop (ds.length - i)))), b])
      ⟨rfl, none, by rw [Nat.sub_zero, List.drop_length]; rfl⟩ (fun i σ H' _ p => by rw [p.1]; exact hs) ?_ ?_
    · rintro i x σ H' hx hi ⟨rfl, b, rfl⟩
      rw [List.length_map] at hx hi
      rw [List.getElem?_map] at hx
      have hj : ds.length - 1 - i < ds.length := by omega
      rw [List.getElem?_eq_getElem hj] at hx
      have e : x = natV ds[ds.length - 1 - i] := (Option.some.inj hx).symm
      subst e
      have hd : ds.drop (ds.length - (i + 1)) = ds[ds.length - 1 - i] :: ds.drop (ds.length - i) := by
        have e1 : ds.length - (i + 1) = ds.length - 1 - i := by omega
        have e2 : ds.length - i = ds.length - 1 - i + 1 := by omega
        rw [e1, e2]
        exact List.drop_eq_getElem_cons hj
      refine ⟨_, rfl, _, _, rfl, rfl, .inr ⟨by decide, by decide⟩, _, rfl, _, _, rfl, rfl, ?_⟩
      refine ⟨rfl, some (natV ds[ds.length - 1 - i]), ?_⟩
      rw [hd]
      show [some (V.ref a), some (V.int (((hexVal (ds.drop (ds.length - i)) : Nat) : Int) * 16 + ((ds[ds.length - 1 - i] : Nat) : Int))), some (natV ds[ds.length - 1 - i])] = [some (V.ref a), some (V.int (((hexVal (ds.drop (ds.length - i)) * 16 + ds[ds.length - 1 - i] : Nat)) : Int)), _]
      have e : ∀ x y : Nat, (x : Int) * 16 + (y : Int) = ((x * 16 + y : Nat) : Int) := by
        intro x y
        omega
      rw [e]
    · rintro σ H' ⟨rfl, b, rfl⟩
      rw [List.length_map, Nat.sub_self, List.drop_zero]
      exact ⟨_, rfl, k⟩
/-! ### in_light -/
def spInLight : Sp := fun vs H Q _ => ∃ l g : Nat, vs = [natV l, natV g] ∧ ∀ H' : Hp, Same H H' → Q (natV (Flags.inLight g l)) H'
theorem ok_in_light {f : Addr} {fd : FuncData} (F : Fun K "in_light" "in_light" st_in_light f fd) (T : TxtC K mg) (D_digits_of : DefOk P w K mg base 1 "digits_of" ["number"] spDigits) (D_number_of : DefOk P w K mg base 1 "number_of" ["digits"] (spNumber K)) :
    FnOk P w K mg base CX0 2 f fd ["look", "light"] spInLight := by
  refine F.ok sc_in_light (fun vs H Q E h => ?_) (fun cdv A outer s H vs Q E hr h => ?_)
  · obtain ⟨l, g, rfl, _⟩ := h
    rfl
  · obtain ⟨l, g, rfl, k⟩ := h
    refine ⟨_, (pss_cons (ps_set (i := 2) sc_in_light.nd rfl (Or.inr rfl) (pe_fn D_digits_of (hr.mono (by decide)) rfl (pa_cons (pv 1) pa_nil)))
      (pss_one (ps_ret (pe_fn D_number_of (hr.mono (by decide)) rfl (pa_cons (pe_lc (own := [("colour", 3)]) rfl sc_in_light.nd (pi_listK K (pe_fn D_digits_of (hr.mono (by decide)) rfl (pa_cons (pv 0) pa_nil))) (blkOk_by (by with_unfolding_all rfl)) (fun _ _ _ _ _ => (pg_name (i := 3) sc_in_light.nd rfl (Or.inl rfl))) (fun _ _ _ _ _ => pts_nil) (fun _ _ _ _ _ => (pe_ix (ix_listK K) (pv 2) (pv 3) (fun _ _ => rfl)))) pa_nil))))), ?_⟩
    refine ⟨_, rfl, g, rfl, fun H1 p s1 h1 => ?_⟩
    dsimp only [tNext, tSeq, tIfS, tTest, tAsg, gName, tRet, tIf, tCB, tCons, tNil, tNot, tAnd, tOr, tAndV, tOrV, tDrop, tCall]
    refine lcT_call (xs := (digs l).map natV) (ys := ((List.range 16).map fun i => Flags.cell g (Flags.cell l i)).map natV) (fun R hR => ⟨_, rfl, l, rfl, fun H2 q s2 h2 => hR H2 q s2 h2⟩) (by simp [digs_len]) (by have := big16; simp; omega) (fun i x y H3 R hx hy s3 hR => ?_) (fun H3 D s3 hD => ?_)
    · rw [List.getElem?_map] at hx
      cases hc : (digs l)[i]? with
      | none => rw [hc] at hx; cases hx
      | some c =>
        rw [hc] at hx
        obtain ⟨hi, ec⟩ := digs_at hc
        subst ec
        have e : x = natV (Flags.cell l i) := (Option.some.inj hx).symm
        subst e
        rw [List.getElem?_map, List.getElem?_map, List.getElem?_range hi] at hy
        have e : y = natV (Flags.cell g (Flags.cell l i)) := (Option.some.inj hy).symm
        subst e
        refine ⟨rfl, _, rfl, _, rfl, p, _, _, _, rfl, rfl, SqL.of (s3 _ _ h1), atI_nat (j := Flags.cell l i) ?_, hR H3 (Same.refl _)⟩
        rw [List.getElem?_map, digs_get (cell_lt _ _)]
        rfl
    · refine ⟨D, _, rfl, SqL.of hD, ?_⟩
      rw [inLight_digs]
      exact k H3 (s1.trans s3)
/-! ### mirrored -/
def spMirror : Sp := fun vs H Q _ => ∃ i : Nat, vs = [.int (0 + (i : Int))] ∧ Q (natV (mir i)) H
theorem ok_mirrored {f : Addr} {fd : FuncData} (F : Fun K "mirrored" "mirrored" st_mirrored f fd) (T : TxtC K mg) : FnOk P w K mg base CX0 1 f fd ["cell"] spMirror := by
  refine F.ok sc_mirrored (fun vs H Q E h => ?_) (fun cdv A outer s H vs Q E hr h => ?_)
  · obtain ⟨i, rfl, _⟩ := h
    rfl
  · obtain ⟨i, rfl, k⟩ := h
    refine ⟨_, (pss_cons (ps_set (i := 1) sc_mirrored.nd rfl (Or.inl rfl) (pe_op op_mod (pv 0) (pe_gi rfl T.c_ROW)))
      (pss_one (ps_ret (pe_op op_sub (pe_op op_sub (pe_op op_add (pe_op op_sub (pv 0) (pv 1)) (pe_gi rfl T.c_ROW)) pe_int) (pv 1))))), ?_⟩
    refine ⟨_, rfl, _, _, rfl, rfl, (by show (0 : Int) < 4; decide), _, rfl, _, rfl, _, _, rfl, rfl, _, _, rfl, rfl, _, _, rfl, rfl, _, rfl, _, _, rfl, rfl, Q_int k ?_⟩
    unfold mir
    omega
/-! ### from_behind -/
def spBehind : Sp := fun vs H Q _ => ∃ l : Nat, vs = [natV l] ∧ ∀ H' : Hp, Same H H' → Q (natV (Flags.behind l)) H'
theorem ok_from_behind {f : Addr} {fd : FuncData} (F : Fun K "from_behind" "from_behind" st_from_behind f fd) (T : TxtC K mg) (D_digits_of : DefOk P w K mg base 1 "digits_of" ["number"] spDigits) (D_number_of : DefOk P w K mg base 1 "number_of" ["digits"] (spNumber K))
    (D_mirrored : DefOk P w K mg base 1 "mirrored" ["cell"] spMirror) : FnOk P w K mg base CX0 2 f fd ["look"] spBehind := by
  refine F.ok sc_from_behind (fun vs H Q E h => ?_) (fun cdv A outer s H vs Q E hr h => ?_)
  · obtain ⟨l, rfl, _⟩ := h
    rfl
  · obtain ⟨l, rfl, k⟩ := h
    refine ⟨_, (pss_cons (ps_set (i := 1) sc_from_behind.nd rfl (Or.inr rfl) (pe_fn D_digits_of (hr.mono (by decide)) rfl (pa_cons (pv 0) pa_nil)))
      (pss_one (ps_ret (pe_fn D_number_of (hr.mono (by decide)) rfl (pa_cons (pe_lc (own := [("cell", 2)]) rfl sc_from_behind.nd (pi_range1 rfl T.n_range (pa_cons (pe_gi rfl T.c_CELLS) pa_nil)) (blkOk_by (by with_unfolding_all rfl)) (fun _ _ _ _ _ => (pg_name (i := 2) sc_from_behind.nd rfl (Or.inl rfl))) (fun _ _ _ _ _ => pts_nil) (fun _ _ _ _ _ => (pe_ix (ix_listK K) (pv 1) (pe_fn D_mirrored (hr.mono (by decide)) rfl (pa_cons (pv 2) pa_nil)) (fun _ _ => rfl)))) pa_nil))))), ?_⟩
    refine ⟨_, rfl, l, rfl, fun H1 p s1 h1 => ?_⟩
    dsimp only [tNext, tSeq, tIfS, tTest, tAsg, gName, tRet, tIf, tCB, tCons, tNil, tNot, tAnd, tOr, tAndV, tOrV, tDrop, tCall]
    refine lcT_rsame (n := 16) (ys := ((List.range 16).map fun i => Flags.cell l (mir i)).map natV) (fun _ q => q) (by decide) (by simp) (by have := big16; simp; omega) (fun i y H3 R hi hy s3 hR => ?_) (fun H3 D s3 hD => ?_)
    · rw [List.getElem?_map, List.getElem?_map, List.getElem?_range hi] at hy
      have e : y = natV (Flags.cell l (mir i)) := (Option.some.inj hy).symm
      subst e
      refine ⟨rfl, _, rfl, _, rfl, i, rfl, p, _, _, _, rfl, rfl, SqL.of (s3 _ _ h1), atI_nat (j := mir i) ?_, hR H3 (Same.refl _)⟩
      rw [List.getElem?_map, digs_get (mir_lt hi)]
      rfl
    · refine ⟨D, _, rfl, SqL.of hD, ?_⟩
      rw [behind_digs]
      exact k H3 (s1.trans s3)
/-! ### cells_apart -/
def spApart : Sp := fun vs H Q _ => ∃ l m : Nat, vs = [natV l, natV m] ∧ ∀ H' : Hp, Same H H' → Q (natV (Flags.differs l m)) H'
theorem natV_inj {a b : Nat} (h : natV a = natV b) : a = b := by
  have q := V.int.inj h
  omega
theorem pow_lt64 {i : Nat} (h : i < 16) : ((2 ^ i : Nat) : Int) < 2 ^ 64 := by
  have e : 2 ^ i ≤ 2 ^ 16 := Nat.pow_le_pow_right (by decide) (by omega)
  have e2 : (2 ^ 16 : Nat) = 65536 := by decide
  have e3 : ((2 : Int) ^ 64) = 18446744073709551616 := by decide
  rw [e3]
  omega
theorem ok_cells_apart {f : Addr} {fd : FuncData} (F : Fun K "cells_apart" "cells_apart" st_cells_apart f fd) (T : TxtC K mg) (D_digits_of : DefOk P w K mg base 1 "digits_of" ["number"] spDigits) : FnOk P w K mg base CX0 2 f fd ["look", "other"] spApart := by
  refine F.ok sc_cells_apart (fun vs H Q E h => ?_) (fun cdv A outer s H vs Q E hr h => ?_)
  · obtain ⟨l, m, rfl, _⟩ := h
    rfl
  · obtain ⟨l, m, rfl, k⟩ := h
    refine ⟨_, (pss_cons (ps_set (i := 2) sc_cells_apart.nd rfl (Or.inl rfl) pe_int)
      (pss_cons (ps_set (i := 3) sc_cells_apart.nd rfl (Or.inl rfl) pe_int)
      (pss_cons (ps_for PassesOwn.never rfl (pi_zip rfl T.n_zip (pa_cons (pe_fn D_digits_of (hr.mono (by decide)) rfl (pa_cons (pv 0) pa_nil)) (pa_cons (pe_fn D_digits_of (hr.mono (by decide)) rfl (pa_cons (pv 1) pa_nil)) pa_nil))) (pg_tupK K 2 rfl (pgs_cons (pg_name (i := 4) sc_cells_apart.nd rfl (Or.inl rfl)) (pgs_cons (pg_name (i := 5) sc_cells_apart.nd rfl (Or.inl rfl)) pgs_nil)))
        (pss_cons (ps_if (pt_cmpR op_ne (pv 4) (pv 5) (nomark _))
          (pss_one (ps_aug (i := 2) sc_cells_apart.nd rfl (Or.inl rfl) (pv 3) ip_add))
          pss_nil)
        (pss_one (ps_aug (i := 3) sc_cells_apart.nd rfl (Or.inl rfl) pe_int ip_mul))))
      (pss_one (ps_ret (pv 2)))))), ?_⟩
    refine ⟨_, rfl, l, rfl, fun H1 p s1 h1 => ?_⟩
    refine ⟨_, rfl, m, rfl, fun H2 q s2 h2 => ?_⟩
    have hp2 := s2 _ _ h1
    refine ⟨p, q, _, _, rfl, SqL.of hp2, SqL.of h2, for_zip (K := K) (a := p) (b := q) (xs := (digs l).map natV) (ys := (digs m).map natV) (fun i σ H' => i ≤ 16 ∧ (∃ x y, σ = [some (natV l), some (natV m), some (natV (apartTo l m i)), some (natV (2 ^ i)), x, y]) ∧ Same H2 H')
      (by simp [digs_len]) ⟨by decide, ⟨_, _, rfl⟩, Same.refl _⟩ (fun i σ H' _ ⟨_, _, s3⟩ => ⟨SqL.of (s3 _ _ hp2), SqL.of (s3 _ _ h2)⟩) ?_ ?_⟩
    · rintro i x y σ H' TT hx hy ⟨h16, ⟨x0, y0, rfl⟩, s3⟩ hT
      rw [List.getElem?_map] at hx hy
      cases hc : (digs l)[i]? with
      | none => rw [hc] at hx; cases hx
      | some c =>
        obtain ⟨hi, ec⟩ := digs_at hc
        subst ec
        rw [hc] at hx
        rw [digs_get hi] at hy
        have e1 : x = natV (Flags.cell l i) := (Option.some.inj hx).symm
        have e2 : y = natV (Flags.cell m i) := (Option.some.inj hy).symm
        subst e1 e2
        have hb : CMul ((2 ^ i : Nat) : Int) 2 := .inr ⟨by decide, by decide⟩
        have e3 : ((2 ^ i : Nat) : Int) * 2 = ((2 ^ (i + 1) : Nat) : Int) := by rw [Nat.pow_succ]; omega
        refine ⟨TT, _, rfl, SqT.of upd_same, rfl, _, _, rfl, _, _, rfl, rfl, ?_⟩
        refine ⟨_, rfl, _, rfl, rfl, _, rfl, ?_⟩
        refine ite2 (fun c1 => ?_) (fun c1 => ?_)
        · have hne : Flags.cell l i ≠ Flags.cell m i := by
            intro z
            rw [z] at c1
            simp at c1
          refine ⟨_, rfl, _, rfl, _, _, rfl, rfl, ?_⟩
          refine ⟨_, rfl, _, _, rfl, rfl, hb, ?_⟩
          refine ⟨by omega, ⟨some (natV (Flags.cell l i)), some (natV (Flags.cell m i)), ?_⟩, s3.trans (Same.new hT)⟩
          rw [apartTo_succ, if_neg hne]
          show [some (natV l), some (natV m), some (V.int (((apartTo l m i : Nat) : Int) + ((2 ^ i : Nat) : Int))), some (V.int (((2 ^ i : Nat) : Int) * 2)), _, _] = _
          rw [e3]
          rfl
        · have heq : Flags.cell l i = Flags.cell m i := by
            have z : natV (Flags.cell l i) = natV (Flags.cell m i) := by simpa using c1
            exact natV_inj z
          refine ⟨_, rfl, _, _, rfl, rfl, hb, ?_⟩
          refine ⟨by omega, ⟨some (natV (Flags.cell l i)), some (natV (Flags.cell m i)), ?_⟩, s3.trans (Same.new hT)⟩
          rw [apartTo_succ, if_pos heq]
          show [some (natV l), some (natV m), some (natV (apartTo l m i)), some (V.int (((2 ^ i : Nat) : Int) * 2)), _, _] = _
          rw [e3]
          rfl
    · rintro σ H' ⟨_, ⟨x, y, rfl⟩, s3⟩
      rw [List.length_map, digs_len, apartTo_all]
      exact ⟨_, rfl, k H' ((s1.trans s2).trans s3)⟩
end
end Lk
namespace Lk
open PySem PySem.Spec PyProof.Rows L2
/-! ### the data -/
/-- a byte, as the program has it -/
def bV (b : UInt8) : V := .int (b.toNat : Int)
/-- the list at v holds these bytes -/
def Bs (K : PySem.W.Frag) (H : Hp) (v : V) (bs : List UInt8) : Prop := ∃ a, v = .ref a ∧ SqL K H a (bs.map bV)
theorem Bs.mono {K : PySem.W.Frag} {H H' : Hp} {v : V} {bs : List UInt8} (h : Bs K H v bs) (s : Same H H') : Bs K H' v bs := by
  obtain ⟨a, e, q⟩ := h
  exact ⟨a, e, s.seq q⟩
/-- .. and it is a list of the program's own making -/
def BsL (H : Hp) (v : V) (bs : List UInt8) : Prop := ∃ a, v = .ref a ∧ H a = some (.lst (bs.map bV))
theorem BsL.mono {H H' : Hp} {v : V} {bs : List UInt8} (h : BsL H v bs) (s : Same H H') : BsL H' v bs := by
  obtain ⟨a, e, q⟩ := h
  exact ⟨a, e, s _ _ q⟩
theorem BsL.bs {K : PySem.W.Frag} {H : Hp} {v : V} {bs : List UInt8} (h : BsL H v bs) : Bs K H v bs := by
  obtain ⟨a, e, q⟩ := h
  exact ⟨a, e, SqL.of q⟩
theorem ite_nn {i j : Int} {A B : Prop} (h : i ≠ j) (hA : A) : if (!decide (V.int i = V.int j)) = true then A else B := by
  rw [if_pos (by simp [h])]
  exact hA
theorem ite_en {i j : Int} {A B : Prop} (h : i = j) (hB : B) : if (!decide (V.int i = V.int j)) = true then A else B := by
  rw [if_neg (by simp [h])]
  exact hB
def optV (o : Option Nat) : V := match o with
  | none => .non
  | some n => .int (n : Int)
theorem bV_inj {a b : UInt8} (h : bV a = bV b) : a = b := by
  unfold bV at h
  have q : (a.toNat : Int) = (b.toNat : Int) := V.int.inj h
  exact UInt8.toNat_inj.mp (by omega)
theorem bV_eq {a b : UInt8} : decide (bV a = bV b) = decide (a = b) := by
  by_cases h : a = b
  · subst h; simp
  · rw [decide_eq_false h, decide_eq_false fun q => h (bV_inj q)]
theorem chain_int {ta tb tc : TE} {σ : L2.St} {H : Hp} {Q : VK} {a b c : Int} (ha : ∀ Q : VK, Q (.int a) H → ta σ H Q) (hb : ∀ Q : VK, Q (.int b) H → tb σ H Q) (hc : ∀ Q : VK, Q (.int c) H → tc σ H Q)
    (q : Q (.bl (decide (a ≤ b) && decide (b ≤ c))) H) : tChain (rI0 fun i j => .bl (decide (i ≤ j))) (rI0 fun i j => .bl (decide (i ≤ j))) ta tb tc σ H Q := by
  refine ha _ (hb _ ⟨a, b, rfl, rfl, _, rfl, ?_⟩)
  by_cases h : a ≤ b
  · rw [if_pos (decide_eq_true h)]
    rw [decide_eq_true h, Bool.true_and] at q
    exact hc _ ⟨b, c, rfl, rfl, q⟩
  · rw [if_neg (by simp [h])]
    rw [decide_eq_false h, Bool.false_and] at q
    exact q
/-! ### the text's own names -/
structure Txt (K : PySem.W.Frag) (mg : Str → Option Value) (CK CR aS : Addr) : Prop extends TxtC K mg where
  c_SHAPES : mg "SHAPES" = some (.ref aS)
  shp : ∀ H : Hp, SqT K H aS [.str "square", .str "tails", .str "long"]
  clK : Cls K CK
  clR : Cls K CR
  nK_group : NoAttr K CK "group"
  nK_title : NoAttr K CK "title"
  nK_repeat : NoAttr K CK "repeat"
  nK_copies : NoAttr K CK "copies"
  nK_shape : NoAttr K CK "shape"
  nK_look : NoAttr K CK "look"
  nR_answer : NoAttr K CR "answer"
  nR_fault : NoAttr K CR "fault"
  nR_line : NoAttr K CR "line"
  nR_kinds : NoAttr K CR "kinds"
section
variable {P : Program} {w : World} {K : PySem.W.Frag} {mg : Str → Option Value} {base : Heap} {CK CR aS : Addr}
/-! ### is_name_byte -/
def spNameByte : Sp := fun vs H Q _ => ∃ b : UInt8, vs = [bV b] ∧ Q (.bl (Flags.isSign b)) H
theorem ok_is_name_byte {f : Addr} {fd : FuncData} (F : Fun K "is_name_byte" "is_name_byte" st_is_name_byte f fd) (T : Txt K mg CK CR aS) : FnOk P w K mg base CX0 1 f fd ["byte"] spNameByte := by
  refine F.ok sc_is_name_byte (fun vs H Q E h => ?_) (fun cdv A outer s H vs Q E hr h => ?_)
  · obtain ⟨b, rfl, _⟩ := h
    rfl
  · obtain ⟨b, rfl, k⟩ := h
    refine ⟨_, (pss_one (ps_ret (pe_or (pe_chain op_le op_le (pe_ordc (n := 65) (by rfl) T.n_ord (by decide +kernel)) (pv 0) (pe_ordc (n := 90) (by rfl) T.n_ord (by decide +kernel))) (pe_one (pe_chain op_le op_le (pe_ordc (n := 48) (by rfl) T.n_ord (by decide +kernel)) (pv 0) (pe_ordc (n := 57) (by rfl) T.n_ord (by decide +kernel))))))), ?_⟩
    refine chain_int (fun _ q => q) (fun _ q => ⟨_, rfl, q⟩) (fun _ q => q) ⟨_, rfl, ?_⟩
    refine ite2 (fun h1 => Q_bl k ?_) (fun h1 => ?_)
    · simp at h1
      unfold Flags.isSign
      simp
      omega
    · refine chain_int (fun _ q => q) (fun _ q => ⟨_, rfl, q⟩) (fun _ q => q) (Q_bl k ?_)
      simp at h1
      unfold Flags.isSign
      rw [Bool.eq_iff_iff]
      simp
      omega
/-! ### colour_told -/
def spColour : Sp := fun vs H Q _ => ∃ b : UInt8, vs = [bV b] ∧ Q (optV (Flags.hexValue b)) H
theorem ok_colour_told {f : Addr} {fd : FuncData} (F : Fun K "colour_told" "colour_told" st_colour_told f fd) (T : Txt K mg CK CR aS) : FnOk P w K mg base CX0 1 f fd ["byte"] spColour := by
  refine F.ok sc_colour_told (fun vs H Q E h => ?_) (fun cdv A outer s H vs Q E hr h => ?_)
  · obtain ⟨b, rfl, _⟩ := h
    rfl
  · obtain ⟨b, rfl, k⟩ := h
    refine ⟨_, (pss_cons (ps_if (pt_chain op_le op_le (pe_ordc (n := 48) (by rfl) T.n_ord (by decide +kernel)) (pv 0) (pe_ordc (n := 57) (by rfl) T.n_ord (by decide +kernel)))
        (pss_one (ps_ret (pe_op op_sub (pv 0) (pe_ordc (n := 48) (by rfl) T.n_ord (by decide +kernel)))))
        pss_nil)
      (pss_cons (ps_if (pt_chain op_le op_le (pe_ordc (n := 97) (by rfl) T.n_ord (by decide +kernel)) (pv 0) (pe_ordc (n := 102) (by rfl) T.n_ord (by decide +kernel)))
        (pss_one (ps_ret (pe_op op_add (pe_op op_sub (pv 0) (pe_ordc (n := 97) (by rfl) T.n_ord (by decide +kernel))) pe_int)))
        pss_nil)
      (pss_one (ps_ret pe_non)))), ?_⟩
    refine chain_int (fun _ q => q) (fun _ q => ⟨_, rfl, q⟩) (fun _ q => q) ⟨_, rfl, ?_⟩
    refine ite2 (fun h1 => ⟨_, rfl, _, _, rfl, rfl, Q_v k ?_⟩) (fun h1 => ?_)
    · simp at h1
      unfold Flags.hexValue
      rw [if_pos ⟨by omega, by omega⟩]
      show V.int _ = V.int _
      congr 1
      omega
    · simp at h1
      dsimp only [tNext, tSeq, tIfS, tTest, tAsg, gName, tRet, tIf]
      refine chain_int (fun _ q => q) (fun _ q => ⟨_, rfl, q⟩) (fun _ q => q) ⟨_, rfl, ?_⟩
      refine ite2 (fun h2 => ⟨_, rfl, _, _, rfl, rfl, _, _, rfl, rfl, Q_v k ?_⟩) (fun h2 => Q_v k ?_)
      · simp at h2
        unfold Flags.hexValue
        rw [if_neg (by omega), if_pos ⟨by omega, by omega⟩]
        show V.int _ = V.int _
        congr 1
        omega
      · simp at h2
        unfold Flags.hexValue
        rw [if_neg (by omega), if_neg (by omega)]
        rfl
/-! ### digit_to -/
def spDigit (K : PySem.W.Frag) : Sp := fun vs H Q _ => ∃ (most : Nat) (v : V) (bs : List UInt8), vs = [.int (most : Int), v] ∧ Bs K H v bs ∧ Q (optV (Flags.digitOf most bs)) H
theorem digit_ne {m : Nat} {bs : List UInt8} (h : bs.length ≠ 1) : Flags.digitOf m bs = none := by
  unfold Flags.digitOf
  rcases bs with _ | ⟨a, _ | ⟨b, r⟩⟩
  · rfl
  · simp at h
  · rfl
theorem ok_digit_to {f : Addr} {fd : FuncData} (F : Fun K "digit_to" "digit_to" st_digit_to f fd) (T : Txt K mg CK CR aS) : FnOk P w K mg base CX0 1 f fd ["most", "word"] (spDigit K) := by
  refine F.ok sc_digit_to (fun vs H Q E h => ?_) (fun cdv A outer s H vs Q E hr h => ?_)
  · obtain ⟨m, v, bs, rfl, _⟩ := h
    rfl
  · obtain ⟨m, v, bs, rfl, ⟨a, rfl, hs⟩, k⟩ := h
    refine ⟨_, (pss_cons (ps_if (pt_cmpR op_ne (pe_callB (call_lenK K) (by rfl) T.n_len PySem.boot_len (pa_cons (pv 1) pa_nil)) pe_int (nomark _))
        (pss_one (ps_ret pe_non))
        pss_nil)
      (pss_cons (ps_set (i := 2) sc_digit_to.nd rfl (Or.inl rfl) (pe_op op_sub (pe_ix (ix_listK K) (pv 1) pe_int (fun _ _ => rfl)) (pe_ordc (n := 48) (by rfl) T.n_ord (by decide +kernel))))
      (pss_one (ps_ret (pe_ifExp (pt_chain op_le op_le pe_int (pv 2) (pv 0)) (pv 2) pe_non))))), ?_⟩
    refine ⟨_, rfl, _, _, rfl, .inl ⟨_, hs, rfl⟩, rfl, _, rfl, ?_⟩
    refine ite2 (fun h1 => ?_) (fun h1 => ?_)
    · refine Q_v k ?_
      rw [digit_ne (by simp at h1; omega)]
      rfl
    · have hl : bs.length = 1 := by simp at h1; omega
      obtain ⟨c, rfl⟩ : ∃ c, bs = [c] := by
        rcases bs with _ | ⟨c, _ | ⟨d, r⟩⟩
        · simp at hl
        · exact ⟨c, rfl⟩
        · simp at hl
      refine ⟨_, rfl, _, _, _, _, rfl, rfl, hs, atI_nat (j := 0) rfl, _, _, rfl, rfl, ?_⟩
      dsimp only [tNext, tSeq, tIfS, tTest, tAsg, gName, tRet, tIf]
      refine chain_int (fun _ q => q) (fun _ q => ⟨_, rfl, q⟩) (fun _ q => ⟨_, rfl, q⟩) ⟨_, rfl, ?_⟩
      refine ite2 (fun h2 => ⟨_, rfl, Q_v k ?_⟩) (fun h2 => Q_v k ?_)
      · simp at h2
        unfold Flags.digitOf
        show optV (if _ then _ else _) = _
        rw [if_pos ⟨by omega, by omega⟩]
        show V.int _ = V.int _
        congr 1
        omega
      · simp at h2
        unfold Flags.digitOf
        show optV (if _ then _ else _) = _
        rw [if_neg (by omega)]
        rfl
end
end Lk
namespace Lk
open PySem PySem.Spec PyProof.Rows L2
section
variable {P : Program} {w : World} {K : PySem.W.Frag} {mg : Str → Option Value} {base : Heap} {CK CR aS : Addr}
/-! ### spelled -/
def codesV (x : Str) : List V := x.cps.toList.map fun (c : Nat) => V.int (c : Int)
def spSpelled : Sp := fun vs H Q _ => ∃ x : Str, vs = [.str x] ∧ x.cps.size ≤ 100 ∧ ∀ (H' : Hp) (p : Addr), Same H H' → H' p = some (.lst (codesV x)) → Q (.ref p) H'
theorem ok_spelled {f : Addr} {fd : FuncData} (F : Fun K "spelled" "spelled" st_spelled f fd) (T : Txt K mg CK CR aS) : FnOk P w K mg base CX0 1 f fd ["word"] spSpelled := by
  refine F.ok sc_spelled (fun vs H Q E h => ?_) (fun cdv A outer s H vs Q E hr h => ?_)
  · obtain ⟨x, rfl, _⟩ := h
    rfl
  · obtain ⟨x, rfl, hz, k⟩ := h
    refine ⟨_, (pss_one (ps_ret (pe_lc (own := [("letter", 1)]) rfl sc_spelled.nd (pi_str (pv 0)) (blkOk_by (by with_unfolding_all rfl)) (fun _ _ _ _ _ => (pg_name (i := 1) sc_spelled.nd rfl (Or.inl rfl))) (fun _ _ _ _ _ => pts_nil) (fun _ _ _ _ _ => (pe_callB call_ord (by rfl) T.n_ord boot_ord (pa_cons (pv 1) pa_nil)))))), ?_⟩
    dsimp only [tNext, tSeq, tIfS, tTest, tAsg, gName, tRet, tIf, tCB, tCons, tNil, tNot, tAnd, tOr, tAndV, tOrV, tDrop, tCall]
    refine lcT_str (ys := codesV x) (fun _ q => ⟨_, rfl, q⟩) (by simp [codesV]) (by simp [codesV, sizeLine_eq]; omega) (fun i c y H2 R hc hy s1 hR => ?_) (fun H2 D s2 hD => k H2 D s2 hD)
    have e : y = V.int (c : Int) := by
      unfold codesV at hy
      rw [List.getElem?_map] at hy
      have hc' : x.cps.toList[i]? = some c := by simpa using hc
      rw [hc'] at hy
      exact (Option.some.inj hy).symm
    subst e
    exact ⟨rfl, _, rfl, _, rfl, rfl, hR H2 (Same.refl _)⟩
/-! ### is_name -/
def spIsName (K : PySem.W.Frag) : Sp := fun vs H Q _ => ∃ (v : V) (bs : List UInt8), vs = [v] ∧ Bs K H v bs ∧ ∀ H' : Hp, Same H H' → Q (.bl (Flags.isName bs)) H'
theorem ok_is_name {f : Addr} {fd : FuncData} (F : Fun K "is_name" "is_name" st_is_name f fd) (T : Txt K mg CK CR aS) (D_is_name_byte : DefOk P w K mg base 1 "is_name_byte" ["byte"] spNameByte) : FnOk P w K mg base CX0 2 f fd ["word"] (spIsName K) := by
  refine F.ok sc_is_name (fun vs H Q E h => ?_) (fun cdv A outer s H vs Q E hr h => ?_)
  · obtain ⟨v, bs, rfl, _⟩ := h
    rfl
  · obtain ⟨v, bs, rfl, ⟨a, rfl, hs⟩, k⟩ := h
    refine ⟨_, (pss_one (ps_ret (pe_and (pe_chain op_le op_le pe_int (pe_callB (call_lenK K) (by rfl) T.n_len PySem.boot_len (pa_cons (pv 0) pa_nil)) (pe_gi rfl T.c_LONGEST_NAME)) (pe_one (pe_callB (cr_allK K rfl) (by rfl) T.n_all boot_all (pa_cons (pe_lc (own := [("byte", 1)]) rfl sc_is_name.nd (pi_listK K (pv 0)) (blkOk_by (by with_unfolding_all rfl)) (fun _ _ _ _ _ => (pg_name (i := 1) sc_is_name.nd rfl (Or.inl rfl))) (fun _ _ _ _ _ => pts_nil) (fun _ _ _ _ _ => (pe_fn D_is_name_byte (hr.mono (by decide)) rfl (pa_cons (pv 1) pa_nil)))) pa_nil)))))), ?_⟩
    refine chain_int (b := ((bs.map bV).length : Int)) (fun _ q => q) (fun _ q => ⟨_, rfl, _, _, rfl, .inl ⟨_, hs, rfl⟩, q⟩) (fun _ q => q) ⟨_, rfl, ?_⟩
    refine ite2 (fun h1 => ?_) (fun h1 => ?_)
    · simp at h1
      dsimp only [tNext, tSeq, tIfS, tTest, tAsg, gName, tRet, tIf, tCB, tCons, tNil, tNot, tAnd, tOr, tAndV, tOrV, tDrop, tCall]
      refine lcT_same (ys := bs.map fun b => V.bl (Flags.isSign b)) (fun _ q => ⟨_, rfl, q⟩) hs (by simp) (by simp [sizeLine_eq]; omega) (fun i x y H2 R hx hy s1 hR => ?_) (fun H2 D s2 hD => ?_)
      · rw [List.getElem?_map] at hx hy
        cases hb : bs[i]? with
        | none => rw [hb] at hx; cases hx
        | some b =>
          rw [hb] at hx hy
          have e1 : x = bV b := (Option.some.inj hx).symm
          have e2 : y = V.bl (Flags.isSign b) := (Option.some.inj hy).symm
          subst e1 e2
          exact ⟨rfl, _, rfl, b, rfl, hR H2 (Same.refl _)⟩
      · refine ⟨D, bs.map Flags.isSign, rfl, SqL.of (by rw [hD, List.map_map]; rfl), Q_bl (k H2 s2) ?_⟩
        unfold Flags.isName
        rw [decide_eq_true (by omega), decide_eq_true (by omega)]
        simp [List.all_map]
    · simp at h1
      refine Q_bl (k H (Same.refl _)) ?_
      unfold Flags.isName
      by_cases h2 : 1 ≤ bs.length
      · rw [decide_eq_false (p := bs.length ≤ 8) (by omega)]
        simp
      · rw [decide_eq_false h2]
        rfl
/-! ### shape_told -/
theorem bs_ints (bs : List UInt8) : bs.map bV = (bs.map fun b => (b.toNat : Int)).map V.int := by
  rw [List.map_map]
  rfl
theorem codes_ints (x : Str) : codesV x = (x.cps.toList.map fun (c : Nat) => (c : Int)).map V.int := by
  rw [List.map_map]
  rfl
/-- the bytes are the letters of a written word -/
theorem bytes_eq {bs cs : List UInt8} {x : Str} (h : x.cps.toList = cs.map UInt8.toNat) : decide ((bs.map fun b => (b.toNat : Int)) = (x.cps.toList.map fun (c : Nat) => (c : Int))) = decide (bs = cs) := by
  rw [h, List.map_map]
  by_cases e : bs = cs
  · subst e
    simp
  · rw [decide_eq_false e, decide_eq_false]
    intro q
    refine e (List.map_inj_right ?_ |>.mp q)
    intro a b hab
    have hab : (a.toNat : Int) = (b.toNat : Int) := hab
    exact UInt8.toNat_inj.mp (by omega)
theorem code_square : ("square" : Str).cps.toList = (Flags.ascii "square").map UInt8.toNat := by decide +kernel
theorem code_tails : ("tails" : Str).cps.toList = (Flags.ascii "tails").map UInt8.toNat := by decide +kernel
theorem code_long : ("long" : Str).cps.toList = (Flags.ascii "long").map UInt8.toNat := by decide +kernel
theorem code_locker : ("locker" : Str).cps.toList = (Flags.ascii "locker").map UInt8.toNat := by decide +kernel
theorem code_sign : ("sign" : Str).cps.toList = (Flags.ascii "sign").map UInt8.toNat := by decide +kernel
theorem code_same : ("same" : Str).cps.toList = (Flags.ascii "same").map UInt8.toNat := by decide +kernel
theorem code_answer : ("answer" : Str).cps.toList = (Flags.ascii "answer").map UInt8.toNat := by decide +kernel
/-- word == spelled("..") -/
theorem eq_spelled {K : PySem.W.Frag} {H : Hp} {v : V} {bs cs : List UInt8} {x : Str} {Q : VK} (hv : Bs K H v bs) (hx : x.cps.toList = cs.map UInt8.toNat) (hz : x.cps.size ≤ 100) (k : ∀ H', Same H H' → Q (.bl (decide (bs = cs))) H') :
    spSpelled [.str x] H (fun y H1 => rEqL K v y H1 Q) E0 := by
  obtain ⟨a, rfl, hs⟩ := hv
  refine ⟨x, rfl, hz, fun H' p s1 hp => ?_⟩
  refine ⟨a, p, bs.map fun b => (b.toNat : Int), x.cps.toList.map fun (c : Nat) => (c : Int), rfl, rfl, by rw [← bs_ints]; exact s1.seq hs, SqL.of (by rw [hp, codes_ints]), ?_⟩
  rw [bytes_eq hx]
  exact k H' s1
def shapeB : Nat → List UInt8
  | 0 => Flags.ascii "square"
  | 1 => Flags.ascii "tails"
  | _ => Flags.ascii "long"
def spShape (K : PySem.W.Frag) : Sp := fun vs H Q _ => ∃ (v : V) (bs : List UInt8), vs = [v] ∧ Bs K H v bs ∧ ∀ H' : Hp, Same H H' → Q (optV (Flags.shapeOf bs)) H'
theorem ok_shape_told {f : Addr} {fd : FuncData} (F : Fun K "shape_told" "shape_told" st_shape_told f fd) (T : Txt K mg CK CR aS) (D_spelled : DefOk P w K mg base 1 "spelled" ["word"] spSpelled) : FnOk P w K mg base CX0 2 f fd ["word"] (spShape K) := by
  refine F.ok sc_shape_told (fun vs H Q E h => ?_) (fun cdv A outer s H vs Q E hr h => ?_)
  · obtain ⟨v, bs, rfl, _⟩ := h
    rfl
  · obtain ⟨v, bs, rfl, hv, k⟩ := h
    refine ⟨_, (pss_cons (ps_for PassesOwn.never rfl (pi_enumT rfl T.n_enumerate (pa_cons (pe_gr rfl T.c_SHAPES) pa_nil)) (pg_tupK K 2 rfl (pgs_cons (pg_name (i := 1) sc_shape_told.nd rfl (Or.inl rfl)) (pgs_cons (pg_name (i := 2) sc_shape_told.nd rfl (Or.inl rfl)) pgs_nil)))
        (pss_one (ps_if (pt_cmpR (op_eqLK K hr.units) (pv 0) (pe_fn D_spelled (hr.mono (by decide)) rfl (pa_cons (pv 2) pa_nil)) (nomark _))
          (pss_one (ps_ret (pv 1)))
          pss_nil)))
      (pss_one (ps_ret pe_non))), ?_⟩
    refine ⟨aS, _, rfl, T.shp _, for_enumT (K := K) (a := aS) (xs := [.str "square", .str "tails", .str "long"]) (fun i σ H' => (∃ n w', σ = [some v, n, w']) ∧ Same H H' ∧ ∀ j, j < i → bs ≠ shapeB j)
      ⟨⟨_, _, rfl⟩, Same.refl _, fun j hj => absurd hj (Nat.not_lt_zero _)⟩ (fun i σ H' _ _ => T.shp _) ?_ ?_⟩
    · rintro i x σ H' TT hx ⟨⟨n, w', rfl⟩, s1, hj⟩ hT
      have go : ∀ (y : Str) (cs : List UInt8), x = .str y → y.cps.toList = cs.map UInt8.toNat → y.cps.size ≤ 100 → cs = shapeB i → (bs = cs → Flags.shapeOf bs = some i) →
          gTup K 2 (gCons (gName 1) (gCons (gName 2) gNil)) (.ref TT) [some v, n, w'] (upd H' TT (.tup [.int (i : Nat), x])) fun σ2 H2 =>
            tIfS (tTest (tOp (rEqL K) (tVar 0) (tCall spSpelled [] E0 (tCons (tVar 2) tNil)))) (tRet (tVar 1)) tNext
              { nx := fun σ H' => (∃ n w', σ = [some v, n, w']) ∧ Same H H' ∧ ∀ j, j < i + 1 → bs ≠ shapeB j, rt := Q, bk := tRet (tC .non) { nx := fun _ H' => Q .non H', rt := Q }, ct := fun σ H' => (∃ n w', σ = [some v, n, w']) ∧ Same H H' ∧ ∀ j, j < i + 1 → bs ≠ shapeB j } σ2 H2 := by
        intro y cs ex hy hz hcs hsh
        subst ex
        refine ⟨TT, _, rfl, SqT.of upd_same, rfl, _, _, rfl, _, _, rfl, rfl, ?_⟩
        have s2 : Same H (upd H' TT (.tup [.int (i : Nat), .str y])) := s1.new' hT
        refine ⟨_, rfl, _, rfl, eq_spelled (hv.mono s2) hy hz fun H3 s3 => ⟨_, rfl, ?_⟩⟩
        refine ite2 (fun h1 => ?_) (fun h1 => ?_)
        · refine ⟨_, rfl, Q_v (k H3 (s2.trans s3)) ?_⟩
          rw [hsh (by simpa using h1)]
          rfl
        · refine ⟨⟨_, _, rfl⟩, s2.trans s3, fun j hlt => ?_⟩
          by_cases e : j = i
          · subst e
            rw [← hcs]
            simpa using h1
          · exact hj j (by omega)
      match i, hx, hj, go with
      | 0, hx, hj, go =>
        refine go "square" _ (Option.some.inj hx).symm code_square (by decide +kernel) rfl fun e => ?_
        unfold Flags.shapeOf
        rw [if_pos e]
      | 1, hx, hj, go =>
        refine go "tails" _ (Option.some.inj hx).symm code_tails (by decide +kernel) rfl fun e => ?_
        have h0 : bs ≠ Flags.ascii "square" := hj 0 (by omega)
        unfold Flags.shapeOf
        rw [if_neg h0, if_pos e]
      | 2, hx, hj, go =>
        refine go "long" _ (Option.some.inj hx).symm code_long (by decide +kernel) rfl fun e => ?_
        have h0 : bs ≠ Flags.ascii "square" := hj 0 (by omega)
        have h1 : bs ≠ Flags.ascii "tails" := hj 1 (by omega)
        unfold Flags.shapeOf
        rw [if_neg h0, if_neg h1, if_pos e]
      | i + 3, hx, hj, go => simp at hx
    · rintro σ H' ⟨_, s1, hj⟩
      refine Q_v (k H' s1) ?_
      have h0 : bs ≠ Flags.ascii "square" := hj 0 (by decide)
      have h1 : bs ≠ Flags.ascii "tails" := hj 1 (by decide)
      have h2 : bs ≠ Flags.ascii "long" := hj 2 (by decide)
      unfold Flags.shapeOf
      rw [if_neg h0, if_neg h1, if_neg h2]
      rfl
/-! ### look_told -/
theorem opt_ints : ∀ {bs : List UInt8} {cs : List Nat}, bs.mapM Flags.hexValue = some cs → bs.map (fun b => optV (Flags.hexValue b)) = cs.map natV
  | [], cs, h => by
    have e : cs = [] := by simpa using h.symm
    subst e
    rfl
  | b :: r, cs, h => by
    rw [List.mapM_cons] at h
    cases hb : Flags.hexValue b with
    | none => rw [hb] at h; cases h
    | some c =>
      rw [hb] at h
      cases hr : r.mapM Flags.hexValue with
      | none => rw [hr] at h; cases h
      | some cr =>
        rw [hr] at h
        have e : cs = c :: cr := by simpa using h.symm
        subst e
        rw [List.map_cons, List.map_cons, opt_ints hr, hb]
        rfl
theorem opt_in : ∀ bs : List UInt8, inV .non (bs.map fun b => optV (Flags.hexValue b)) = (bs.mapM Flags.hexValue).isNone
  | [] => rfl
  | b :: r => by
    have ih := opt_in r
    unfold inV at ih ⊢
    rw [List.map_cons, List.any_cons, ih, List.mapM_cons]
    cases hb : Flags.hexValue b with
    | none => rfl
    | some c =>
      cases hr : r.mapM Flags.hexValue <;> rfl
theorem opt_flat (bs : List UInt8) : (bs.map fun b => optV (Flags.hexValue b)).all flatV = true := by
  rw [List.all_eq_true]
  intro x hx
  obtain ⟨b, _, e⟩ := List.mem_map.mp hx
  rw [← e]
  cases Flags.hexValue b <;> rfl
def spLook (K : PySem.W.Frag) : Sp := fun vs H Q _ => ∃ (v : V) (bs : List UInt8), vs = [v] ∧ Bs K H v bs ∧ bs.length ≤ 66000 ∧ ∀ H' : Hp, Same H H' → Q (optV (Flags.lookIn bs)) H'
theorem ok_look_told {f : Addr} {fd : FuncData} (F : Fun K "look_told" "look_told" st_look_told f fd) (T : Txt K mg CK CR aS) (D_colour_told : DefOk P w K mg base 1 "colour_told" ["byte"] spColour)
    (D_number_of : DefOk P w K mg base 1 "number_of" ["digits"] (spNumber K)) : FnOk P w K mg base CX0 2 f fd ["word"] (spLook K) := by
  refine F.ok sc_look_told (fun vs H Q E h => ?_) (fun cdv A outer s H vs Q E hr h => ?_)
  · obtain ⟨v, bs, rfl, _⟩ := h
    rfl
  · obtain ⟨v, bs, rfl, ⟨a, rfl, hs⟩, hz, k⟩ := h
    have big : (66001 : Nat) ≤ sizeLine := by rw [sizeLine_eq]; decide
    refine ⟨_, (pss_cons (ps_setLc (i := 1) (own := [("byte", 2)]) rfl sc_look_told.nd rfl rfl (sw_true rfl rfl rfl rfl) (pi_listK K (pv 0)) (blkOk_by (by with_unfolding_all rfl)) (fun _ _ _ _ _ => (pg_name (i := 2) sc_look_told.nd rfl (Or.inl rfl))) (fun _ _ _ _ _ => pts_nil) (fun _ _ _ _ _ => (pe_fn D_colour_told (hr.mono (by decide)) rfl (pa_cons (pv 2) pa_nil))))
      (pss_cons (ps_if (PW.pt (pw_or (pt_cmpR op_ne (pe_callB (call_lenK K) (by rfl) T.n_len PySem.boot_len (pa_cons (pv 0) pa_nil)) (pe_gi rfl T.c_CELLS) (nomark _)) (pw_or1 (pt_cmpR (op_inK K) pe_non (pv 1) (by with_unfolding_all rfl)))))
        (pss_one (ps_ret pe_non))
        pss_nil)
      (pss_one (ps_ret (pe_fn D_number_of (hr.mono (by decide)) rfl (pa_cons (pv 1) pa_nil)))))), ?_⟩
    dsimp only [tNext, tSeq, tIfS, tTest, tAsg, gName, tRet, tIf, tCB, tCons, tNil, tNot, tAnd, tOr, tAndV, tOrV, tDrop, tCall]
    refine lcT_same (ys := bs.map fun b => optV (Flags.hexValue b)) (fun _ q => ⟨_, rfl, q⟩) hs (by simp) (by simp; omega) (fun i x y H2 R hx hy s1 hR => ?_) (fun H2 D s2 hD => ?_)
    · rw [List.getElem?_map] at hx hy
      cases hb : bs[i]? with
      | none => rw [hb] at hx; cases hx
      | some b =>
        rw [hb] at hx hy
        have e1 : x = bV b := (Option.some.inj hx).symm
        have e2 : y = optV (Flags.hexValue b) := (Option.some.inj hy).symm
        subst e1 e2
        exact ⟨rfl, _, rfl, b, rfl, hR H2 (Same.refl _)⟩
    · refine ⟨_, rfl, _, _, rfl, .inl ⟨_, s2.seq hs, rfl⟩, rfl, _, rfl, ?_⟩
      by_cases hl : bs.length = 16
      · refine ite_en (by rw [List.length_map, hl]; rfl) ?_
        refine ⟨_, rfl, D, _, rfl, .inl (SqL.of hD), rfl, opt_flat bs, ?_⟩
        rw [opt_in]
        cases hm : bs.mapM Flags.hexValue with
        | none =>
          refine ⟨_, rfl, iteT ?_⟩
          refine Q_v (k H2 s2) ?_
          rw [lookIn_none hm]
          rfl
        | some cs =>
          refine ⟨_, rfl, iteF ?_⟩
          rw [opt_ints hm] at hD
          refine ⟨_, rfl, D, cs, rfl, SqL.of hD, Q_v (k H2 s2) ?_⟩
          rw [lookIn_some hl hm]
          rfl
      · refine ite_nn (by rw [List.length_map]; omega) (iteT ?_)
        refine Q_v (k H2 s2) ?_
        unfold Flags.lookIn
        rw [if_pos hl]
        rfl
end
end Lk
namespace Lk
open PySem PySem.Spec PyProof.Rows L2
section
variable {P : Program} {w : World} {K : PySem.W.Frag} {mg : Str → Option Value} {base : Heap} {CK CR aS : Addr}
/-! ### the two classes -/
theorem putF_ne {f g : Str} {v x : V} {r : List (Str × V)} (h : ¬ g = f) : putF f v ((g, x) :: r) = (g, x) :: putF f v r := if_neg h
def kfs (g t r c s l : V) : List (Str × V) := [("group", g), ("title", t), ("repeat", r), ("copies", c), ("shape", s), ("look", l)]
def rfs (a f l k : V) : List (Str × V) := [("answer", a), ("fault", f), ("line", l), ("kinds", k)]
def spKindInit (CK : Addr) : Sp := fun vs H Q _ => ∃ (p dx : Addr) (g t r c s l : V), vs = [.ref p, g, t, r, c, s, l] ∧ H p = some (.ins CK dx []) ∧
  ∀ H' : Hp, H' p = some (.ins CK dx (kfs g t r c s l)) → (∀ b o, H b = some o → b ≠ p → H' b = some o) → Q .non H'
theorem ok_Kind_init {f : Addr} {fd : FuncData} (F : Fun K "__init__" "Kind.__init__" st_Kind___init__ f fd) (T : Txt K mg CK CR aS) : FnOk P w K mg base CX0 1 f fd ["self", "group", "title", "repeat", "copies", "shape", "look"] (spKindInit CK) := by
  refine F.ok sc_Kind___init__ (fun vs H Q E h => ?_) (fun cdv A outer s H vs Q E hr h => ?_)
  · obtain ⟨p, dx, g, t, r, c, s, l, rfl, _⟩ := h
    rfl
  · obtain ⟨p, dx, g, t, r, c, s', l, rfl, hp, k⟩ := h
    have e1 : putF "group" g ([] : List (Str × V)) = ([("group", g)] : List (Str × V)) := rfl
    have e2 : putF "title" t ([("group", g)] : List (Str × V)) = ([("group", g), ("title", t)] : List (Str × V)) := by
      rw [putF_ne (g := "group") (f := "title") (by decide +kernel)]; rfl
    have e3 : putF "repeat" r ([("group", g), ("title", t)] : List (Str × V)) = ([("group", g), ("title", t), ("repeat", r)] : List (Str × V)) := by
      rw [putF_ne (g := "group") (f := "repeat") (by decide +kernel), putF_ne (g := "title") (f := "repeat") (by decide +kernel)]; rfl
    have e4 : putF "copies" c ([("group", g), ("title", t), ("repeat", r)] : List (Str × V)) = ([("group", g), ("title", t), ("repeat", r), ("copies", c)] : List (Str × V)) := by
      rw [putF_ne (g := "group") (f := "copies") (by decide +kernel), putF_ne (g := "title") (f := "copies") (by decide +kernel), putF_ne (g := "repeat") (f := "copies") (by decide +kernel)]; rfl
    have e5 : putF "shape" s' ([("group", g), ("title", t), ("repeat", r), ("copies", c)] : List (Str × V)) = ([("group", g), ("title", t), ("repeat", r), ("copies", c), ("shape", s')] : List (Str × V)) := by
      rw [putF_ne (g := "group") (f := "shape") (by decide +kernel), putF_ne (g := "title") (f := "shape") (by decide +kernel), putF_ne (g := "repeat") (f := "shape") (by decide +kernel), putF_ne (g := "copies") (f := "shape") (by decide +kernel)]; rfl
    have e6 : putF "look" l ([("group", g), ("title", t), ("repeat", r), ("copies", c), ("shape", s')] : List (Str × V)) = kfs g t r c s' l := by
      rw [putF_ne (g := "group") (f := "look") (by decide +kernel), putF_ne (g := "title") (f := "look") (by decide +kernel), putF_ne (g := "repeat") (f := "look") (by decide +kernel), putF_ne (g := "copies") (f := "look") (by decide +kernel), putF_ne (g := "shape") (f := "look") (by decide +kernel)]; rfl
    refine ⟨_, (pss_cons (ps_fld (pv 0) (pv 1) rfl)
      (pss_cons (ps_fld (pv 0) (pv 2) rfl)
      (pss_cons (ps_fld (pv 0) (pv 3) rfl)
      (pss_cons (ps_fld (pv 0) (pv 4) rfl)
      (pss_cons (ps_fld (pv 0) (pv 5) rfl)
      (pss_one (ps_fld (pv 0) (pv 6) rfl))))))), ?_⟩
    refine ⟨_, rfl, _, rfl, p, CK, dx, [], rfl, hp, T.clK, T.nK_group, (by show 0 < 1000; decide), ?_⟩
    refine ⟨_, rfl, _, rfl, p, CK, dx, [("group", g)], rfl, (by rw [upd_same, e1]), T.clK, T.nK_title, (by show 1 < 1000; decide), ?_⟩
    refine ⟨_, rfl, _, rfl, p, CK, dx, [("group", g), ("title", t)], rfl, (by rw [upd_same, e2]), T.clK, T.nK_repeat, (by show 2 < 1000; decide), ?_⟩
    refine ⟨_, rfl, _, rfl, p, CK, dx, [("group", g), ("title", t), ("repeat", r)], rfl, (by rw [upd_same, e3]), T.clK, T.nK_copies, (by show 3 < 1000; decide), ?_⟩
    refine ⟨_, rfl, _, rfl, p, CK, dx, [("group", g), ("title", t), ("repeat", r), ("copies", c)], rfl, (by rw [upd_same, e4]), T.clK, T.nK_shape, (by show 4 < 1000; decide), ?_⟩
    refine ⟨_, rfl, _, rfl, p, CK, dx, [("group", g), ("title", t), ("repeat", r), ("copies", c), ("shape", s')], rfl, (by rw [upd_same, e5]), T.clK, T.nK_look, (by show 5 < 1000; decide), ?_⟩
    refine k _ (by rw [upd_same, e6]) fun b o e hb => ?_
    rw [upd_ne hb, upd_ne hb, upd_ne hb, upd_ne hb, upd_ne hb, upd_ne hb]
    exact e
def spReadInit (CR : Addr) : Sp := fun vs H Q _ => ∃ (p dx : Addr) (a f l k : V), vs = [.ref p, a, f, l, k] ∧ H p = some (.ins CR dx []) ∧
  ∀ H' : Hp, H' p = some (.ins CR dx (rfs a f l k)) → (∀ b o, H b = some o → b ≠ p → H' b = some o) → Q .non H'
theorem ok_Reading_init {f : Addr} {fd : FuncData} (F : Fun K "__init__" "Reading.__init__" st_Reading___init__ f fd) (T : Txt K mg CK CR aS) : FnOk P w K mg base CX0 1 f fd ["self", "answer", "fault", "line", "kinds"] (spReadInit CR) := by
  refine F.ok sc_Reading___init__ (fun vs H Q E h => ?_) (fun cdv A outer s H vs Q E hr h => ?_)
  · obtain ⟨p, dx, g, t, r, c, rfl, _⟩ := h
    rfl
  · obtain ⟨p, dx, g, t, r, c, rfl, hp, k⟩ := h
    have e1 : putF "answer" g ([] : List (Str × V)) = ([("answer", g)] : List (Str × V)) := rfl
    have e2 : putF "fault" t ([("answer", g)] : List (Str × V)) = ([("answer", g), ("fault", t)] : List (Str × V)) := by
      rw [putF_ne (g := "answer") (f := "fault") (by decide +kernel)]; rfl
    have e3 : putF "line" r ([("answer", g), ("fault", t)] : List (Str × V)) = ([("answer", g), ("fault", t), ("line", r)] : List (Str × V)) := by
      rw [putF_ne (g := "answer") (f := "line") (by decide +kernel), putF_ne (g := "fault") (f := "line") (by decide +kernel)]; rfl
    have e4 : putF "kinds" c ([("answer", g), ("fault", t), ("line", r)] : List (Str × V)) = rfs g t r c := by
      rw [putF_ne (g := "answer") (f := "kinds") (by decide +kernel), putF_ne (g := "fault") (f := "kinds") (by decide +kernel), putF_ne (g := "line") (f := "kinds") (by decide +kernel)]; rfl
    refine ⟨_, (pss_cons (ps_fld (pv 0) (pv 1) rfl)
      (pss_cons (ps_fld (pv 0) (pv 2) rfl)
      (pss_cons (ps_fld (pv 0) (pv 3) rfl)
      (pss_one (ps_fld (pv 0) (pv 4) rfl))))), ?_⟩
    refine ⟨_, rfl, _, rfl, p, CR, dx, [], rfl, hp, T.clR, T.nR_answer, (by show 0 < 1000; decide), ?_⟩
    refine ⟨_, rfl, _, rfl, p, CR, dx, [("answer", g)], rfl, (by rw [upd_same, e1]), T.clR, T.nR_fault, (by show 1 < 1000; decide), ?_⟩
    refine ⟨_, rfl, _, rfl, p, CR, dx, [("answer", g), ("fault", t)], rfl, (by rw [upd_same, e2]), T.clR, T.nR_line, (by show 2 < 1000; decide), ?_⟩
    refine ⟨_, rfl, _, rfl, p, CR, dx, [("answer", g), ("fault", t), ("line", r)], rfl, (by rw [upd_same, e3]), T.clR, T.nR_kinds, (by show 3 < 1000; decide), ?_⟩
    refine k _ (by rw [upd_same, e4]) fun b o e hb => ?_
    rw [upd_ne hb, upd_ne hb, upd_ne hb, upd_ne hb]
    exact e
theorem kf_group (g t r c s l : V) : (kfs g t r c s l).lookup ("group" : Str) = some g := by unfold kfs; rfl
theorem kf_title (g t r c s l : V) : (kfs g t r c s l).lookup ("title" : Str) = some t := by unfold kfs; rfl
theorem kf_repeat (g t r c s l : V) : (kfs g t r c s l).lookup ("repeat" : Str) = some r := by unfold kfs; rfl
theorem kf_copies (g t r c s l : V) : (kfs g t r c s l).lookup ("copies" : Str) = some c := by unfold kfs; rfl
theorem kf_shape (g t r c s l : V) : (kfs g t r c s l).lookup ("shape" : Str) = some s := by unfold kfs; rfl
theorem kf_look (g t r c s l : V) : (kfs g t r c s l).lookup ("look" : Str) = some l := by unfold kfs; rfl
theorem rf_answer (a f l k : V) : (rfs a f l k).lookup ("answer" : Str) = some a := by unfold rfs; rfl
theorem rf_fault (a f l k : V) : (rfs a f l k).lookup ("fault" : Str) = some f := by unfold rfs; rfl
theorem rf_line (a f l k : V) : (rfs a f l k).lookup ("line" : Str) = some l := by unfold rfs; rfl
theorem rf_kinds (a f l k : V) : (rfs a f l k).lookup ("kinds" : Str) = some k := by unfold rfs; rfl
/-- a sign's name at tl -/
def TtlOk (K : PySem.W.Frag) (H : Hp) (tl : Addr) (x : Flags.Kind) : Prop := H tl = some (.lst ((ttl x).map bV)) ∧ (grp x = 0 → ttl x ≠ [])
/-- the kind x stands at v -/
def KindAt (CK : Addr) (K : PySem.W.Frag) (H : Hp) (v : V) (x : Flags.Kind) : Prop := ∃ (a dx tl : Addr), v = .ref a ∧
  H a = some (.ins CK dx (kfs (.int (grp x : Nat)) (.ref tl) (.int (rep x : Nat)) (.int (x.copies : Nat)) (.int (x.shape : Nat)) (.int (x.look : Nat)))) ∧ TtlOk K H tl x
theorem TtlOk.mono {H H' : Hp} {tl : Addr} {x : Flags.Kind} (h : TtlOk K H tl x) (s : Same H H') : TtlOk K H' tl x := ⟨s _ _ h.1, h.2⟩
theorem KindAt.mono {H H' : Hp} {v : V} {x : Flags.Kind} (h : KindAt CK K H v x) (s : Same H H') : KindAt CK K H' v x := by
  obtain ⟨a, dx, tl, e, h1, h2⟩ := h
  exact ⟨a, dx, tl, e, s _ _ h1, h2.mono s⟩
def KindO (CK : Addr) (K : PySem.W.Frag) (H : Hp) (v : V) (o : Option Flags.Kind) : Prop := match o with
  | none => v = .non
  | some x => KindAt CK K H v x
theorem KindO.mono {H H' : Hp} {v : V} {o : Option Flags.Kind} (h : KindO CK K H v o) (s : Same H H') : KindO CK K H' v o := by
  cases o with
  | none => exact h
  | some x => exact KindAt.mono h s
/-- the kind told, its title at tl -/
def KindT (CK : Addr) (K : PySem.W.Frag) (H : Hp) (v : V) (tl : Addr) (o : Option Flags.Kind) : Prop := match o with
  | none => v = .non
  | some x => ∃ (a dx : Addr), v = .ref a ∧ H a = some (.ins CK dx (kfs (.int (grp x : Nat)) (.ref tl) (.int (rep x : Nat)) (.int (x.copies : Nat)) (.int (x.shape : Nat)) (.int (x.look : Nat)))) ∧ TtlOk K H tl x
/-- the kind told, its title new since H0 but a sign's -/
def KindN (CK : Addr) (K : PySem.W.Frag) (H0 H : Hp) (v : V) (o : Option Flags.Kind) : Prop := match o with
  | none => v = .non
  | some x => ∃ tl, KindT CK K H v tl (some x) ∧ (grp x ≠ 0 → H0 tl = none)
theorem KindT.new {H0 H : Hp} {v : V} {tl : Addr} {r : Flags.Role} {c s l : List UInt8} (h : KindT CK K H v tl (Flags.kindOf r c s l)) (hf : grp ⟨r, 0, 0, 0⟩ ≠ 0 → H0 tl = none) : KindN CK K H0 H v (Flags.kindOf r c s l) := by
  cases hk : Flags.kindOf r c s l with
  | none => rw [hk] at h; exact h
  | some x =>
    rw [hk] at h
    refine ⟨tl, h, fun g => hf ?_⟩
    have e := kindOf_role hk
    unfold grp at g ⊢
    rw [e] at g
    exact g
theorem KindN.o {H0 H : Hp} {v : V} {o : Option Flags.Kind} (h : KindN CK K H0 H v o) : KindO CK K H v o := by
  cases o with
  | none => exact h
  | some x =>
    obtain ⟨tl, ⟨a, dx, e, h1, h2⟩, _⟩ := h
    exact ⟨a, dx, tl, e, h1, h2⟩
theorem paired_mono {α β : Type} {F G : α → β → Prop} (i : ∀ a b, F a b → G a b) : ∀ {l : List α} {m : List β}, Paired F l m → Paired G l m
  | _, _, .nil => .nil
  | _, _, .cons h t => .cons (i _ _ h) (paired_mono i t)
theorem paired_len {α β : Type} {F : α → β → Prop} : ∀ {l : List α} {m : List β}, Paired F l m → l.length = m.length
  | _, _, .nil => rfl
  | _, _, .cons _ t => by rw [List.length_cons, List.length_cons, paired_len t]
theorem paired_at {α β : Type} {F : α → β → Prop} : ∀ {l : List α} {m : List β} {i : Nat} {a : α}, Paired F l m → l[i]? = some a → ∃ b, m[i]? = some b ∧ F a b
  | _, _, i, a, .nil, h => by simp at h
  | _, _, 0, a, .cons h t, e => by
    have e : _ = a := Option.some.inj e
    subst e
    exact ⟨_, rfl, h⟩
  | _, _, i + 1, a, .cons h t, e => paired_at (i := i) t e
theorem paired_snoc {α β : Type} {F : α → β → Prop} {a : α} {b : β} (h : F a b) : ∀ {l : List α} {m : List β}, Paired F l m → Paired F (l ++ [a]) (m ++ [b])
  | _, _, .nil => .cons h .nil
  | _, _, .cons q t => .cons q (paired_snoc h t)
/-! ### split_at -/
def spSplit (K : PySem.W.Frag) : Sp := fun vs H Q _ => ∃ (m : UInt8) (v : V) (bs : List UInt8), vs = [bV m, v] ∧ Bs K H v bs ∧ bs.length ≤ 66000 ∧
  ∀ (H' : Hp) (p : Addr) (us : List V), Same H H' → H' p = some (.lst us) → Paired (BsL H') us (Flags.cutAt m bs) → Q (.ref p) H'
/-- the pieces at us, apart from the two lists under way -/
def Pieces (H' : Hp) (p q : Addr) : List V → List (List UInt8) → Prop := Paired fun u w => ∃ a, u = .ref a ∧ a ≠ p ∧ a ≠ q ∧ H' a = some (.lst (w.map bV))
theorem ok_split_at {f : Addr} {fd : FuncData} (F : Fun K "split_at" "split_at" st_split_at f fd) (T : Txt K mg CK CR aS) : FnOk P w K mg base CX0 1 f fd ["mark", "row"] (spSplit K) := by
  refine F.ok sc_split_at (fun vs H Q E h => ?_) (fun cdv A outer s H vs Q E hr h => ?_)
  · obtain ⟨m, v, bs, rfl, _⟩ := h
    rfl
  · obtain ⟨m, v, bs, rfl, ⟨a, rfl, hs⟩, hz, k⟩ := h
    have big : (66001 : Nat) < sizeLine := by rw [sizeLine_eq]; decide
    refine ⟨_, (pss_cons (ps_set (i := 2) sc_split_at.nd rfl (Or.inl rfl) (pe_lst pa_nil))
      (pss_cons (ps_set (i := 3) sc_split_at.nd rfl (Or.inl rfl) (pe_lst pa_nil))
      (pss_cons (ps_for PassesOwn.never rfl (pi_listK K (pv 1)) (pg_name (i := 4) sc_split_at.nd rfl (Or.inl rfl))
        (pss_one (ps_if (pt_cmpR op_eq (pv 4) (pv 0) (nomark _))
          (pss_cons (ps_expr (pe_bm PySem.F.plainAttrs_list PySem.F.slot_list_append PySem.F.type_list_append mt_append (pv 2) (pa_cons (pv 3) pa_nil)))
          (pss_one (ps_set (i := 3) sc_split_at.nd rfl (Or.inl rfl) (pe_lst pa_nil))))
          (pss_one (ps_expr (pe_bm PySem.F.plainAttrs_list PySem.F.slot_list_append PySem.F.type_list_append mt_append (pv 3) (pa_cons (pv 4) pa_nil)))))))
      (pss_cons (ps_expr (pe_bm PySem.F.plainAttrs_list PySem.F.slot_list_append PySem.F.type_list_append mt_append (pv 2) (pa_cons (pv 3) pa_nil)))
      (pss_one (ps_ret (pv 2))))))), ?_⟩
    refine ⟨Nat.zero_le _, fun p hp => ?_⟩
    refine ⟨Nat.zero_le _, fun q hq => ?_⟩
    have npq : p ≠ q := ne_of_none upd_same hq
    have s0 : Same H (upd (upd H p (.lst [])) q (.lst [])) := (Same.new hp).trans (Same.new hq)
    refine ⟨_, rfl, a, rfl, ⟨_, s0.seq hs⟩, for_list (K := K) (a := a) (xs := bs.map bV) (fun i σ H' => ∃ (q : Addr) (us : List V) (y : Option V), σ = [some (bV m), some (.ref a), some (.ref p), some (.ref q), y] ∧ Same H H' ∧ H q = none ∧ p ≠ q ∧
        H' p = some (.lst us) ∧ H' q = some (.lst ((cutGo m (bs.take i)).2.map bV)) ∧ Pieces H' p q us (cutGo m (bs.take i)).1)
      ⟨q, [], none, rfl, s0, (Same.new hp).free hq, npq, by rw [upd_ne npq, upd_same], upd_same, .nil⟩ (fun i σ H' _ ⟨_, _, _, _, s1, _⟩ => s1.seq hs) ?_ ?_⟩
    · rintro i x σ H' hx ⟨q, us, y, rfl, s1, hq0, npq, h1, h2, hP⟩
      rw [List.getElem?_map] at hx
      cases hb : bs[i]? with
      | none => rw [hb] at hx; cases hx
      | some b =>
        rw [hb] at hx
        have e : x = bV b := (Option.some.inj hx).symm
        subst e
        have hil : i < bs.length := (List.getElem?_eq_some_iff.mp hb).1
        have ht : bs.take (i + 1) = bs.take i ++ [b] := by rw [List.take_succ, hb]; rfl
        have hul : us.length < sizeLine := by
          have q1 := paired_len hP
          have q2 := (cutGo_len m (bs.take i)).1
          rw [List.length_take] at q2
          omega
        have hcl : ((cutGo m (bs.take i)).2.map bV).length < sizeLine := by
          have q2 := (cutGo_len m (bs.take i)).2
          rw [List.length_take] at q2
          rw [List.length_map]
          omega
        refine ⟨_, rfl, _, rfl, rfl, _, rfl, ?_⟩
        refine ite2 (fun hbm => ?_) (fun hbm => ?_)
        · have ebm : b = m := by
            rw [bV_eq] at hbm
            simpa using hbm
          subst ebm
          refine ⟨_, rfl, .inl ⟨rfl, _, SqL.of h1⟩, _, rfl, p, us, _, rfl, rfl, h1, hul, ?_⟩
          refine ⟨Nat.zero_le _, fun q2 hq2 => ?_⟩
          have n2p : p ≠ q2 := ne_of_none upd_same hq2
          have h2' : (upd H' p (.lst (us ++ [.ref q]))) q = some (.lst ((cutGo b (bs.take i)).2.map bV)) := by rw [upd_ne npq.symm]; exact h2
          have n2q : q ≠ q2 := ne_of_none h2' hq2
          have hpn : H p = none := hp
          have sA : Same H (upd H' p (.lst (us ++ [.ref q]))) := s1.upd hpn
          refine ⟨q2, us ++ [.ref q], _, rfl, sA.trans (Same.new hq2), sA.free hq2, n2p, by rw [upd_ne n2p, upd_same], ?_, ?_⟩
          · rw [upd_same, ht, cutGo_mark]
            rfl
          · rw [ht, cutGo_mark]
            refine paired_snoc ⟨q, rfl, npq.symm, n2q, by rw [upd_ne n2q]; exact h2'⟩ (paired_mono (fun u w' hu => ?_) hP)
            obtain ⟨c, e, n1, n3, hc⟩ := hu
            have hc' : (upd H' p (.lst (us ++ [.ref q]))) c = some (.lst (w'.map bV)) := by rw [upd_ne n1]; exact hc
            have n4 : c ≠ q2 := ne_of_none hc' hq2
            exact ⟨c, e, n1, n4, by rw [upd_ne n4]; exact hc'⟩
        · have ebm : b ≠ m := by
            rw [bV_eq] at hbm
            simpa using hbm
          refine ⟨_, rfl, .inl ⟨rfl, _, SqL.of h2⟩, _, rfl, q, _, _, rfl, rfl, h2, hcl, ?_⟩
          refine ⟨q, us, _, rfl, s1.upd hq0, hq0, npq, by rw [upd_ne npq]; exact h1, ?_, ?_⟩
          · rw [upd_same, ht, cutGo_other m ebm, List.map_append]
            rfl
          · rw [ht, cutGo_other m ebm]
            refine paired_mono (fun u w' hu => ?_) hP
            obtain ⟨c, e, n1, n3, hc⟩ := hu
            exact ⟨c, e, n1, n3, by rw [upd_ne n3]; exact hc⟩
    · rintro σ H' ⟨q, us, y, rfl, s1, hq0, npq, h1, h2, hP⟩
      rw [List.length_map, List.take_length] at h2 hP
      have hul : us.length < sizeLine := by
        have q1 := paired_len hP
        have q2 := (cutGo_len m bs).1
        omega
      refine ⟨_, rfl, .inl ⟨rfl, _, SqL.of h1⟩, _, rfl, p, us, _, rfl, rfl, h1, hul, ?_⟩
      refine ⟨_, rfl, ?_⟩
      refine k _ p (us ++ [.ref q]) (s1.upd hp) upd_same ?_
      rw [cutAt_go]
      refine paired_snoc ⟨q, rfl, by rw [upd_ne npq.symm]; exact h2⟩ (paired_mono (fun u w' hu => ?_) hP)
      obtain ⟨c, e, n1, n3, hc⟩ := hu
      exact ⟨c, e, by rw [upd_ne n1]; exact hc⟩
end
end Lk
namespace Lk
open PySem PySem.Spec PyProof.Rows L2
section
variable {P : Program} {w : World} {K : PySem.W.Frag} {mg : Str → Option Value} {base : Heap} {CK CR aS : Addr}
/-- the list at v holds these words -/
def Ws (K : PySem.W.Frag) (H : Hp) (v : V) (ws : List (List UInt8)) : Prop := ∃ (a : Addr) (us : List V), v = .ref a ∧ SqL K H a us ∧ Paired (BsL H) us ws
theorem Ws.mono {H H' : Hp} {v : V} {ws : List (List UInt8)} (h : Ws K H v ws) (s : Same H H') : Ws K H' v ws := by
  obtain ⟨a, us, e, h1, h2⟩ := h
  exact ⟨a, us, e, s.seq h1, paired_mono (fun u w' hu => BsL.mono hu s) h2⟩
/-! ### is_locker_line -/
def spLockerLine (K : PySem.W.Frag) : Sp := fun vs H Q _ => ∃ (v : V) (ws : List (List UInt8)), vs = [v] ∧ Ws K H v ws ∧ ∀ H' : Hp, Same H H' → Q (.bl (nameW ws)) H'
theorem nameW_ne {ws : List (List UInt8)} (h : ws.length ≠ 2) : nameW ws = false := by
  unfold nameW
  rcases ws with _ | ⟨a, _ | ⟨b, _ | ⟨c, d⟩⟩⟩
  · rfl
  · rfl
  · simp at h
  · rfl
theorem ok_is_locker_line {f : Addr} {fd : FuncData} (F : Fun K "is_locker_line" "is_locker_line" st_is_locker_line f fd) (T : Txt K mg CK CR aS) (D_spelled : DefOk P w K mg base 1 "spelled" ["word"] spSpelled)
    (D_is_name : DefOk P w K mg base 2 "is_name" ["word"] (spIsName K)) : FnOk P w K mg base CX0 3 f fd ["words"] (spLockerLine K) := by
  refine F.ok sc_is_locker_line (fun vs H Q E h => ?_) (fun cdv A outer s H vs Q E hr h => ?_)
  · obtain ⟨v, ws, rfl, _⟩ := h
    rfl
  · obtain ⟨v, ws, rfl, ⟨a, us, rfl, hs, hP⟩, k⟩ := h
    have hl := paired_len hP
    refine ⟨_, (pss_one (ps_ret (pe_and (pe_cmpR op_eq (pe_callB (call_lenK K) (by rfl) T.n_len PySem.boot_len (pa_cons (pv 0) pa_nil)) pe_int (nomark _)) (pe_and (pe_cmpR (op_eqLK K hr.units) (pe_ix (ix_listK K) (pv 0) pe_int (fun _ _ => rfl)) (pe_fn D_spelled (hr.mono (by decide)) rfl (pa_cons pe_str pa_nil)) (nomark _)) (pe_one (pe_fn D_is_name (hr.mono (by decide)) rfl (pa_cons (pe_ix (ix_listK K) (pv 0) pe_int (fun _ _ => rfl)) pa_nil))))))), ?_⟩
    refine ⟨_, rfl, _, _, rfl, .inl ⟨_, hs, rfl⟩, rfl, _, rfl, ?_⟩
    refine ite2 (fun h1 => ?_) (fun h1 => ?_)
    · have hl2 : us.length = 2 := by
        have q : V.int (us.length : Int) = V.int 2 := by simpa using h1
        have q := V.int.inj q
        omega
      cases hP with
      | nil => simp at hl2
      | cons b0 hP =>
        cases hP with
        | nil => simp at hl2
        | cons b1 hP =>
          cases hP with
          | cons _ _ => simp at hl2
          | nil =>
            refine ⟨_, rfl, _, _, _, _, rfl, rfl, hs, atI_nat (j := 0) rfl, ?_⟩
            refine eq_spelled b0.bs code_locker (by decide +kernel) fun H1 s1 => ⟨_, rfl, ?_⟩
            refine ite2 (fun h2 => ?_) (fun h2 => ?_)
            · refine ⟨_, rfl, _, _, _, _, rfl, rfl, s1.seq hs, atI_nat (j := 1) rfl, _, _, rfl, (b1.mono s1).bs, fun H2 s2 => ?_⟩
              refine Q_bl (k H2 (s1.trans s2)) ?_
              show (decide _ && _) = _
              rw [h2, Bool.true_and]
            · refine Q_bl (k H1 s1) ?_
              show (decide _ && _) = _
              rw [Bool.not_eq_true] at h2
              rw [h2, Bool.false_and]
    · refine Q_bl (k H (Same.refl _)) (nameW_ne ?_)
      intro q
      refine h1 (decide_eq_true ?_)
      show V.int _ = V.int _
      congr 1
      omega
/-! ### kind_with -/
def spKindWith (CK : Addr) (K : PySem.W.Frag) : Sp := fun vs H Q _ => ∃ (r : Flags.Role) (tv wv : V) (c s l : List UInt8), vs = [.int (grp ⟨r, 0, 0, 0⟩ : Nat), tv, .int (rep ⟨r, 0, 0, 0⟩ : Nat), wv] ∧ ∃ tl : Addr, tv = .ref tl ∧ TtlOk K H tl ⟨r, 0, 0, 0⟩ ∧ Ws K H wv [c, s, l] ∧ l.length ≤ 66000 ∧
  ∀ (H' : Hp) (v : V), Same H H' → KindT CK K H' v tl (Flags.kindOf r c s l) → Q v H'
theorem ok_kind_with {f : Addr} {fd : FuncData} (F : Fun K "kind_with" "kind_with" st_kind_with f fd) (T : Txt K mg CK CR aS) (D_digit_to : DefOk P w K mg base 1 "digit_to" ["most", "word"] (spDigit K))
    (D_shape_told : DefOk P w K mg base 2 "shape_told" ["word"] (spShape K)) (D_look_told : DefOk P w K mg base 2 "look_told" ["word"] (spLook K))
    (D_Kind : ClsOk P w K mg base 1 "Kind" CK ["self", "group", "title", "repeat", "copies", "shape", "look"] (spKindInit CK)) : FnOk P w K mg base CX0 3 f fd ["group", "title", "repeat", "words"] (spKindWith CK K) := by
  refine F.ok sc_kind_with (fun vs H Q E h => ?_) (fun cdv A outer s H vs Q E hr h => ?_)
  · obtain ⟨r, tv, wv, c, s, l, rfl, _⟩ := h
    rfl
  · obtain ⟨r, tv, wv, c, sb, l, rfl, tl, rfl, ht, ⟨a, us, rfl, hs, hP⟩, hlz, k⟩ := h
    cases hP with
    | cons b0 hP =>
    cases hP with
    | cons b1 hP =>
    cases hP with
    | cons b2 hP =>
    cases hP
    refine ⟨_, (pss_cons (ps_set (i := 4) sc_kind_with.nd rfl (Or.inl rfl) (pe_fn D_digit_to (hr.mono (by decide)) rfl (pa_cons (pe_gi rfl T.c_MOST_COPIES) (pa_cons (pe_ix (ix_listK K) (pv 3) pe_int (fun _ _ => rfl)) pa_nil))))
      (pss_cons (ps_set (i := 5) sc_kind_with.nd rfl (Or.inl rfl) (pe_fn D_shape_told (hr.mono (by decide)) rfl (pa_cons (pe_ix (ix_listK K) (pv 3) pe_int (fun _ _ => rfl)) pa_nil)))
      (pss_cons (ps_set (i := 6) sc_kind_with.nd rfl (Or.inl rfl) (pe_fn D_look_told (hr.mono (by decide)) rfl (pa_cons (pe_ix (ix_listK K) (pv 3) pe_int (fun _ _ => rfl)) pa_nil)))
      (pss_cons (ps_if (PW.pt (pw_or (pt_cmpR op_isN (pv 4) pe_non (nomark _)) (pw_or (pt_cmpR op_isN (pv 5) pe_non (nomark _)) (pw_or1 (pt_cmpR op_isN (pv 6) pe_non (nomark _))))))
        (pss_one (ps_ret pe_non))
        pss_nil)
      (pss_one (ps_ret (pe_cls D_Kind (hr.mono (by decide)) rfl (pa_cons (pv 0) (pa_cons (pv 1) (pa_cons (pv 2) (pa_cons (pv 4) (pa_cons (pv 5) (pa_cons (pv 6) pa_nil))))))))))))), ?_⟩
    refine ⟨_, rfl, _, _, _, _, rfl, rfl, hs, atI_nat (j := 0) rfl, 8, _, c, rfl, b0.bs, ?_⟩
    refine ⟨_, rfl, _, _, _, _, rfl, rfl, hs, atI_nat (j := 1) rfl, _, sb, rfl, b1.bs, fun H0 s0 => ?_⟩
    refine ⟨_, rfl, _, _, _, _, rfl, rfl, s0.seq hs, atI_nat (j := 2) rfl, _, l, rfl, (b2.mono s0).bs, hlz, fun H1 s01 => ?_⟩
    have s1 := s0.trans s01
    cases e1 : Flags.digitOf 8 c with
    | none =>
      refine ⟨_, rfl, rfl, _, rfl, iteT (iteT ?_)⟩
      exact k H1 .non s1 (by unfold Flags.kindOf; rw [e1]; rfl)
    | some n =>
      refine ⟨_, rfl, rfl, _, rfl, iteF ?_⟩
      cases e2 : Flags.shapeOf sb with
      | none =>
        refine ⟨_, rfl, rfl, _, rfl, iteT (iteT ?_)⟩
        exact k H1 .non s1 (by unfold Flags.kindOf; rw [e1, e2]; rfl)
      | some h =>
        refine ⟨_, rfl, rfl, _, rfl, iteF ?_⟩
        cases e3 : Flags.lookIn l with
        | none =>
          refine ⟨_, rfl, rfl, _, rfl, iteT ?_⟩
          exact k H1 .non s1 (by unfold Flags.kindOf; rw [e1, e2, e3]; rfl)
        | some lk =>
          refine ⟨_, rfl, rfl, _, rfl, iteF ?_⟩
          refine ⟨_, rfl, _, rfl, _, rfl, _, rfl, _, rfl, _, rfl, fun x dx nx nd ne => ?_⟩
          refine ⟨x, dx, _, _, _, _, _, _, rfl, upd_same, fun H2 h2 kp => ⟨rfl, ?_⟩⟩
          have s2 : Same H1 H2 := Same.made nx nd kp
          refine k H2 (.ref x) (s1.trans s2) ?_
          unfold Flags.kindOf
          rw [e1, e2, e3]
          exact ⟨x, dx, rfl, h2, ht.mono (s1.trans s2)⟩
/-! ### kind_told -/
def spKindTold (CK : Addr) (K : PySem.W.Frag) : Sp := fun vs H Q _ => ∃ (v : V) (ws : List (List UInt8)), vs = [v] ∧ Ws K H v ws ∧ (∀ u ∈ ws, u.length ≤ 66000) ∧ ∀ (H' : Hp) (v' : V), Same H H' → KindN CK K H H' v' (kindW ws) → Q v' H'
theorem kindW_ne {ws : List (List UInt8)} (h : ws.length ≠ 5) (h4 : ws.length ≠ 4) : kindW ws = none := by
  unfold kindW
  rcases ws with _ | ⟨a, _ | ⟨b, _ | ⟨c, _ | ⟨d, _ | ⟨e, _ | ⟨f, g⟩⟩⟩⟩⟩⟩ <;> first | rfl | (simp at h; done) | (simp at h4; done)
theorem int_len {n m : Nat} (h : V.int (n : Int) = V.int (m : Int)) : n = m := by
  have q := V.int.inj h
  omega
theorem ite_ne {i j : Int} {A B : Prop} (h : i ≠ j) (hB : B) : if decide (V.int i = V.int j) = true then A else B := by
  rw [if_neg fun q => h (V.int.inj (of_decide_eq_true q))]
  exact hB
theorem ite_eq {i j : Int} {A B : Prop} (h : i = j) (hA : A) : if decide (V.int i = V.int j) = true then A else B := by
  rw [if_pos (decide_eq_true (by rw [h]))]
  exact hA
theorem ok_kind_told {f : Addr} {fd : FuncData} (F : Fun K "kind_told" "kind_told" st_kind_told f fd) (T : Txt K mg CK CR aS) (D_spelled : DefOk P w K mg base 1 "spelled" ["word"] spSpelled)
    (D_is_name : DefOk P w K mg base 2 "is_name" ["word"] (spIsName K)) (D_digit_to : DefOk P w K mg base 1 "digit_to" ["most", "word"] (spDigit K))
    (D_kind_with : DefOk P w K mg base 3 "kind_with" ["group", "title", "repeat", "words"] (spKindWith CK K)) : FnOk P w K mg base CX0 4 f fd ["words"] (spKindTold CK K) := by
  refine F.ok sc_kind_told (fun vs H Q E h => ?_) (fun cdv A outer s H vs Q E hr h => ?_)
  · obtain ⟨v, ws, rfl, _⟩ := h
    rfl
  · obtain ⟨v, ws, rfl, ⟨a, us, rfl, hs, hP⟩, hz, k⟩ := h
    have hl := paired_len hP
    refine ⟨_, (pss_cons (ps_if (pt_cut (PW.pt (pw_and (pt_cmpR op_eq (pe_callB (call_lenK K) (by rfl) T.n_len PySem.boot_len (pa_cons (pv 0) pa_nil)) pe_int (nomark _)) (pw_and (pt_cmpR (op_eqLK K hr.units) (pe_ix (ix_listK K) (pv 0) pe_int (fun _ _ => rfl)) (pe_fn D_spelled (hr.mono (by decide)) rfl (pa_cons pe_str pa_nil)) (nomark _)) (pw_and1 (pt_truthK K (pe_fn D_is_name (hr.mono (by decide)) rfl (pa_cons (pe_ix (ix_listK K) (pv 0) pe_int (fun _ _ => rfl)) pa_nil)) (fun _ => rfl)))))))
        (pss_one (ps_ret (pe_fn D_kind_with (hr.mono (by decide)) rfl (pa_cons (pe_gi rfl T.c_SIGN) (pa_cons (pe_ix (ix_listK K) (pv 0) pe_int (fun _ _ => rfl)) (pa_cons pe_int (pa_cons (pe_slice (sl_listK K) (pv 0) (po_some pe_int) po_none) pa_nil)))))))
        pss_nil)
      (pss_cons (ps_cut (ps_if (pt_cut (PW.pt (pw_and (pt_cmpR op_eq (pe_callB (call_lenK K) (by rfl) T.n_len PySem.boot_len (pa_cons (pv 0) pa_nil)) pe_int (nomark _)) (pw_and1 (pt_cmpR (op_eqLK K hr.units) (pe_ix (ix_listK K) (pv 0) pe_int (fun _ _ => rfl)) (pe_fn D_spelled (hr.mono (by decide)) rfl (pa_cons pe_str pa_nil)) (nomark _))))))
        (pss_cons (ps_set (i := 1) sc_kind_told.nd rfl (Or.inl rfl) (pe_fn D_digit_to (hr.mono (by decide)) rfl (pa_cons (pe_gi rfl T.c_MOST_REPEAT) (pa_cons (pe_ix (ix_listK K) (pv 0) pe_int (fun _ _ => rfl)) pa_nil))))
        (pss_one (ps_if (pt_cut (pt_cmpR op_notN (pv 1) pe_non (nomark _)))
          (pss_one (ps_ret (pe_fn D_kind_with (hr.mono (by decide)) rfl (pa_cons (pe_gi rfl T.c_SAME) (pa_cons (pe_lst pa_nil) (pa_cons (pv 1) (pa_cons (pe_slice (sl_listK K) (pv 0) (po_some pe_int) po_none) pa_nil)))))))
          pss_nil)))
        pss_nil))
      (pss_cons (ps_if (pt_cut (PW.pt (pw_and (pt_cmpR op_eq (pe_callB (call_lenK K) (by rfl) T.n_len PySem.boot_len (pa_cons (pv 0) pa_nil)) pe_int (nomark _)) (pw_and1 (pt_cmpR (op_eqLK K hr.units) (pe_ix (ix_listK K) (pv 0) pe_int (fun _ _ => rfl)) (pe_fn D_spelled (hr.mono (by decide)) rfl (pa_cons pe_str pa_nil)) (nomark _))))))
        (pss_one (ps_ret (pe_fn D_kind_with (hr.mono (by decide)) rfl (pa_cons (pe_gi rfl T.c_ANSWER) (pa_cons (pe_lst pa_nil) (pa_cons pe_int (pa_cons (pe_slice (sl_listK K) (pv 0) (po_some pe_int) po_none) pa_nil)))))))
        pss_nil)
      (pss_one (ps_ret pe_non))))), ?_⟩
    by_cases h5 : us.length = 5
    · -- five words
      cases hP with
      | nil => simp at h5
      | cons b0 hP =>
      cases hP with
      | nil => simp at h5
      | cons b1 hP =>
      cases hP with
      | nil => simp at h5
      | cons b2 hP =>
      cases hP with
      | nil => simp at h5
      | cons b3 hP =>
      cases hP with
      | nil => simp at h5
      | cons b4 hP =>
      cases hP with
      | cons _ _ => simp at h5
      | nil =>
      rename_i u0 w0 u1 w1 u2 w2 u3 w3 u4 w4
      have three : ∀ {H1 : Hp} {p : Addr} {Q' : VK} {r : Flags.Role} {tl : Addr}, Same H H1 → TtlOk K H1 tl ⟨r, 0, 0, 0⟩ → (∀ (H' : Hp) (v : V), Same H1 H' → KindT CK K H' v tl (Flags.kindOf r w2 w3 w4) → Q' v H') → H1 p = none →
          spKindWith CK K [.int (grp ⟨r, 0, 0, 0⟩ : Nat), .ref tl, .int (rep ⟨r, 0, 0, 0⟩ : Nat), .ref p] (upd H1 p (.lst [u2, u3, u4])) Q' E0 := by
        intro H1 p Q' r tl s1 ht kk hp
        have s2 : Same H1 (upd H1 p (.lst [u2, u3, u4])) := Same.new hp
        exact ⟨r, .ref tl, .ref p, w2, w3, w4, rfl, tl, rfl, ht.mono s2, ⟨p, _, rfl, SqL.of upd_same, .cons (b2.mono (s1.trans s2)) (.cons (b3.mono (s1.trans s2)) (.cons (b4.mono (s1.trans s2)) .nil))⟩, hz w4 (by simp), fun H' v' s3 hk => kk H' v' (s2.trans s3) hk⟩
      -- a sign
      refine ⟨fun b H1 => b = (decide (w0 = Flags.ascii "sign") && Flags.isName w1) ∧ Same H H1, fun b H1 ⟨eb, s1⟩ => ?_, ?_⟩
      · subst eb
        refine ite2 (fun c1 => ?_) (fun c1 => ?_)
        · rw [Bool.and_eq_true, decide_eq_true_eq] at c1
          obtain ⟨tl, e, q⟩ := b1.mono s1
          subst e
          refine ⟨_, rfl, _, _, _, _, rfl, rfl, s1.seq hs, atI_nat (j := 1) rfl, _, rfl, _, rfl, a, _, rfl, s1.seq hs, fun p hp => ?_⟩
          have ht : TtlOk K H1 tl ⟨.sign w1, 0, 0, 0⟩ := by
            refine ⟨q, fun _ => ?_⟩
            intro z
            have z : w1 = [] := z
            rw [z] at c1
            exact absurd c1.2 (by decide)
          refine three (r := .sign w1) s1 ht (fun H' v' s3 hk => k H' v' (s1.trans s3) ?_) hp
          show KindN CK K H H' v' (if _ then _ else _)
          rw [if_pos c1]
          exact hk.new fun z => absurd rfl z
        · have c1' : ¬ (w0 = Flags.ascii "sign" ∧ Flags.isName w1 = true) := by simpa using c1
          refine ⟨fun σ' H' => (∃ y, σ' = [some (.ref a), y]) ∧ Same H H' ∧ kindW [w0, w1, w2, w3, w4] = none, fun σ' H' ⟨⟨y, e⟩, s2, hn⟩ => ?_, ?_⟩
          · subst e
            refine ⟨fun b H2 => b = false ∧ H2 = H', fun b H2 ⟨eb, eh⟩ => ?_, ?_⟩
            · subst eb eh
              exact iteF (k _ .non s2 (by rw [hn]; rfl))
            · exact ⟨_, rfl, _, _, rfl, .inl ⟨_, s2.seq hs, rfl⟩, rfl, _, rfl, ite_ne (by simp) ⟨rfl, rfl⟩⟩
          · refine ⟨fun b H2 => b = decide (w0 = Flags.ascii "same") ∧ Same H H2, fun b H2 ⟨eb, s2⟩ => ?_, ?_⟩
            · subst eb
              refine ite2 (fun c2 => ?_) (fun c2 => ?_)
              · have c2 := of_decide_eq_true c2
                refine ⟨_, rfl, _, _, _, _, rfl, rfl, s2.seq hs, atI_nat (j := 1) rfl, 4, _, w1, rfl, (b1.mono s2).bs, ?_⟩
                cases e4 : Flags.digitOf 4 w1 with
                | none =>
                  refine ⟨fun b H3 => b = false ∧ H3 = H2, fun b H3 ⟨eb, eh⟩ => ?_, ⟨_, rfl, rfl, _, rfl, rfl, rfl⟩⟩
                  subst eb eh
                  refine iteF ⟨⟨_, rfl⟩, s2, ?_⟩
                  show (if _ then _ else _) = _
                  rw [if_neg c1', if_pos c2, e4]
                  rfl
                | some j =>
                  refine ⟨fun b H3 => b = true ∧ H3 = H2, fun b H3 ⟨eb, eh⟩ => ?_, ⟨_, rfl, rfl, _, rfl, rfl, rfl⟩⟩
                  subst eb eh
                  refine iteT ?_
                  refine ⟨Nat.zero_le _, fun tl htl => ?_⟩
                  have s3 : Same H (upd H3 tl (.lst [])) := s2.trans (Same.new htl)
                  refine ⟨_, rfl, _, rfl, _, rfl, a, _, rfl, s3.seq hs, fun p hp => ?_⟩
                  refine three (r := .same j) (tl := tl) s3 ⟨upd_same, fun g => absurd (show (1 : Nat) = 0 from g) (by decide)⟩ (fun H' v' s4 hk => k H' v' (s3.trans s4) ?_) hp
                  show KindN CK K H H' v' (if _ then _ else _)
                  rw [if_neg c1', if_pos c2, e4]
                  exact hk.new fun _ => s2.free htl
              · refine ⟨⟨_, rfl⟩, s2, ?_⟩
                show (if _ then _ else _) = _
                rw [if_neg c1', if_neg (by simpa using c2)]
            · refine ⟨_, rfl, _, _, rfl, .inl ⟨_, s1.seq hs, rfl⟩, rfl, _, rfl, ite_eq rfl ?_⟩
              refine ⟨_, rfl, _, _, _, _, rfl, rfl, s1.seq hs, atI_nat (j := 0) rfl, ?_⟩
              exact eq_spelled (b0.mono s1).bs code_same (by decide +kernel) fun H2 s2 => ⟨_, rfl, rfl, s1.trans s2⟩
      · refine ⟨_, rfl, _, _, rfl, .inl ⟨_, hs, rfl⟩, rfl, _, rfl, ite_eq rfl ?_⟩
        refine ⟨_, rfl, _, _, _, _, rfl, rfl, hs, atI_nat (j := 0) rfl, ?_⟩
        refine eq_spelled b0.bs code_sign (by decide +kernel) fun H1 s1 => ⟨_, rfl, ?_⟩
        refine ite2 (fun c => ?_) (fun c => ?_)
        · refine ⟨_, rfl, _, _, _, _, rfl, rfl, s1.seq hs, atI_nat (j := 1) rfl, _, w1, rfl, (b1.mono s1).bs, fun H2 s2 => ⟨_, rfl, ?_, s1.trans s2⟩⟩
          rw [c, Bool.true_and]
        · refine ⟨?_, s1⟩
          rw [Bool.not_eq_true] at c
          rw [c, Bool.false_and]
    · -- not five words
      have n5 : ((us.length : Nat) : Int) ≠ 5 := by omega
      refine ⟨fun b H1 => b = false ∧ H1 = H, fun b H1 ⟨eb, eh⟩ => ?_, ⟨_, rfl, _, _, rfl, .inl ⟨_, hs, rfl⟩, rfl, _, rfl, ite_ne n5 ⟨rfl, rfl⟩⟩⟩
      subst eb eh
      refine iteF ?_
      refine ⟨fun σ' H' => σ' = [some (.ref a), none] ∧ H' = H1, fun σ' H' ⟨e1, e2⟩ => ?_, ?_⟩
      · subst e1 e2
        by_cases h4 : us.length = 4
        · cases hP with
          | nil => simp at h4
          | cons b0 hP =>
          cases hP with
          | nil => simp at h4
          | cons b1 hP =>
          cases hP with
          | nil => simp at h4
          | cons b2 hP =>
          cases hP with
          | nil => simp at h4
          | cons b3 hP =>
          cases hP with
          | cons _ _ => simp at h4
          | nil =>
          rename_i u0 w0 u1 w1 u2 w2 u3 w3
          refine ⟨fun b H2 => b = decide (w0 = Flags.ascii "answer") ∧ Same H' H2, fun b H2 ⟨eb, s2⟩ => ?_, ?_⟩
          · subst eb
            refine ite2 (fun c3 => ?_) (fun c3 => ?_)
            · have c3 := of_decide_eq_true c3
              refine ⟨Nat.zero_le _, fun tl htl => ?_⟩
              have s3 : Same H' (upd H2 tl (.lst [])) := s2.trans (Same.new htl)
              refine ⟨_, rfl, _, rfl, a, _, rfl, s3.seq hs, fun p hp => ?_⟩
              have s4 : Same H' (upd (upd H2 tl (.lst [])) p (.lst [u1, u2, u3])) := s3.trans (Same.new hp)
              refine ⟨.answer, .ref tl, .ref p, w1, w2, w3, rfl, tl, rfl, ⟨by rw [upd_ne (ne_of_none upd_same hp), upd_same]; rfl, fun g => absurd g (by decide)⟩, ⟨p, _, rfl, SqL.of upd_same, .cons (b1.mono s4) (.cons (b2.mono s4) (.cons (b3.mono s4) .nil))⟩, hz w3 (by simp), fun H5 v' s5 hk => k H5 v' (s4.trans s5) ?_⟩
              show KindN CK K H' H5 v' (if _ then _ else _)
              rw [if_pos c3]
              exact hk.new fun _ => s2.free htl
            · refine k _ .non s2 ?_
              show KindN CK K H' H2 .non (if _ then _ else _)
              rw [if_neg (by simpa using c3)]
              rfl
          · refine ⟨_, rfl, _, _, rfl, .inl ⟨_, hs, rfl⟩, rfl, _, rfl, ite_eq rfl ?_⟩
            refine ⟨_, rfl, _, _, _, _, rfl, rfl, hs, atI_nat (j := 0) rfl, ?_⟩
            exact eq_spelled b0.bs code_answer (by decide +kernel) fun H2 s2 => ⟨_, rfl, rfl, s2⟩
        · have n4 : ((us.length : Nat) : Int) ≠ 4 := by omega
          refine ⟨fun b H2 => b = false ∧ H2 = H', fun b H2 ⟨eb, eh⟩ => ?_, ⟨_, rfl, _, _, rfl, .inl ⟨_, hs, rfl⟩, rfl, _, rfl, ite_ne n4 ⟨rfl, rfl⟩⟩⟩
          subst eb eh
          refine iteF (k _ .non (Same.refl _) ?_)
          rw [kindW_ne (by omega) (by omega)]
          rfl
      · refine ⟨fun b H2 => b = false ∧ H2 = H1, fun b H2 ⟨eb, eh⟩ => ?_, ⟨_, rfl, _, _, rfl, .inl ⟨_, hs, rfl⟩, rfl, _, rfl, ite_ne n5 ⟨rfl, rfl⟩⟩⟩
        subst eb eh
        exact iteF ⟨rfl, rfl⟩
end
end Lk
namespace Lk
open PySem PySem.Spec PyProof.Rows L2
section
variable {P : Program} {w : World} {K : PySem.W.Frag} {mg : Str → Option Value} {base : Heap} {CK CR aS : Addr}
/-- the list at v holds these kinds -/
def KsAt (CK : Addr) (K : PySem.W.Frag) (H : Hp) (v : V) (ks : List Flags.Kind) : Prop := ∃ (a : Addr) (us : List V), v = .ref a ∧ SqL K H a us ∧ Paired (KindAt CK K H) us ks
theorem KsAt.mono {H H' : Hp} {v : V} {ks : List Flags.Kind} (h : KsAt CK K H v ks) (s : Same H H') : KsAt CK K H' v ks := by
  obtain ⟨a, us, e, h1, h2⟩ := h
  exact ⟨a, us, e, s.seq h1, paired_mono (fun u x hu => KindAt.mono hu s) h2⟩
theorem paired_last {α β : Type} {F : α → β → Prop} {l : List α} {m : List β} (h : Paired F l m) (ne : l ≠ []) : ∃ (l' : List α) (a : α) (m' : List β) (b : β), l = l' ++ [a] ∧ m = m' ++ [b] ∧ Paired F l' m' ∧ F a b := by
  induction h with
  | nil => exact absurd rfl ne
  | cons q t ih =>
    rename_i x y xs ys
    cases t with
    | nil => exact ⟨[], x, [], y, rfl, rfl, .nil, q⟩
    | cons q2 t2 =>
      obtain ⟨l', a, m', b, e1, e2, h1, h2⟩ := ih (by simp)
      exact ⟨x :: l', a, y :: m', b, by rw [e1]; rfl, by rw [e2]; rfl, .cons q h1, h2⟩
/-! ### may_follow -/
def spMay (CK : Addr) (K : PySem.W.Frag) : Sp := fun vs H Q _ => ∃ (kv xv : V) (ks : List Flags.Kind) (x : Flags.Kind), vs = [kv, xv] ∧ KsAt CK K H kv ks ∧ KindAt CK K H xv x ∧ Q (.bl (mayM ks x)) H
theorem ok_may_follow {f : Addr} {fd : FuncData} (F : Fun K "may_follow" "may_follow" st_may_follow f fd) (T : Txt K mg CK CR aS) : FnOk P w K mg base CX0 1 f fd ["kinds", "kind"] (spMay CK K) := by
  refine F.ok sc_may_follow (fun vs H Q E h => ?_) (fun cdv A outer s H vs Q E hr h => ?_)
  · obtain ⟨kv, xv, ks, x, rfl, _⟩ := h
    rfl
  · obtain ⟨kv, xv, ks, x, rfl, ⟨a, us, rfl, hs, hP⟩, ⟨ax, dx, tx, rfl, hx, _⟩, k⟩ := h
    refine ⟨_, (pss_cons (ps_if (pt_not (pt_truthK K (pv 0) (fun _ => rfl)))
        (pss_one (ps_ret pe_bl))
        pss_nil)
      (pss_cons (ps_set (i := 2) sc_may_follow.nd rfl (Or.inl rfl) (pe_fk K (pe_ix (ix_listK K) (pv 0) (pe_un un_neg pe_int) (fun _ _ => rfl))))
      (pss_one (ps_ret (pe_and (pe_cmpR op_ne (pv 2) (pe_gi rfl T.c_ANSWER) (nomark _)) (pe_one (pe_cmpR op_le (pv 2) (pe_fk K (pv 1)) (nomark _)))))))), ?_⟩
    refine ⟨_, rfl, _, .inl ⟨_, hs, rfl⟩, ?_⟩
    by_cases hu : us = []
    · subst hu
      cases hP
      exact iteT k
    · obtain ⟨us', ul, ks', xl, e1, e2, hP', ⟨al, dl, tl, el, hal, _⟩⟩ := paired_last hP hu
      subst e1 e2 el
      have ee : (!(!(us' ++ [V.ref al]).isEmpty)) = false := by cases us' <;> rfl
      rw [ee]
      refine iteF ?_
      refine ⟨_, rfl, _, rfl, _, _, _, _, rfl, rfl, hs, atI_last _ _, al, CK, dl, _, _, rfl, hal, T.clK, T.nK_group, kf_group _ _ _ _ _ _, ?_⟩
      have em : mayM (ks' ++ [xl]) x = (decide (grp xl ≠ 2) && decide (grp xl ≤ grp x)) := by
        unfold mayM
        rw [List.getLast?_append]
        rfl
      rw [em] at k
      refine ⟨_, rfl, rfl, _, rfl, ?_⟩
      refine ite2 (fun c => ?_) (fun c => ?_)
      · have c' : grp xl ≠ 2 := by
          intro z
          rw [z] at c
          simp at c
        refine ⟨_, rfl, _, rfl, ax, CK, dx, _, _, rfl, hx, T.clK, T.nK_group, kf_group _ _ _ _ _ _, _, _, rfl, rfl, Q_bl k ?_⟩
        rw [decide_eq_true c', Bool.true_and]
        rw [Bool.eq_iff_iff]
        simp
      · refine Q_bl k ?_
        have c' : grp xl = 2 := by
          have q : V.int (grp xl : Int) = V.int 2 := by simpa using c
          have q := V.int.inj q
          omega
        rw [c']
        rfl
/-! ### is_repeated -/
def spRepd (CK : Addr) (K : PySem.W.Frag) : Sp := fun vs H Q _ => ∃ (bv xv : V) (b x : Flags.Kind), vs = [bv, xv] ∧ KindAt CK K H bv b ∧ KindAt CK K H xv x ∧ Q (.bl (repM b x)) H
theorem ok_is_repeated {f : Addr} {fd : FuncData} (F : Fun K "is_repeated" "is_repeated" st_is_repeated f fd) (T : Txt K mg CK CR aS) : FnOk P w K mg base CX0 1 f fd ["before", "kind"] (spRepd CK K) := by
  refine F.ok sc_is_repeated (fun vs H Q E h => ?_) (fun cdv A outer s H vs Q E hr h => ?_)
  · obtain ⟨bv, xv, b, x, rfl, _⟩ := h
    rfl
  · obtain ⟨bv, xv, b, x, rfl, ⟨ab, db, tb, rfl, hb, tob⟩, ⟨ax, dx, tx, rfl, hx, tox⟩, k⟩ := h
    refine ⟨_, (pss_cons (ps_if (pt_cmpR op_ne (pe_fk K (pv 0)) (pe_fk K (pv 1)) (nomark _))
        (pss_one (ps_ret pe_bl))
        pss_nil)
      (pss_cons (ps_if (pt_cmpR op_eq (pe_fk K (pv 1)) (pe_gi rfl T.c_SIGN) (nomark _))
        (pss_one (ps_ret (pe_cmpR (op_eqLK K hr.units) (pe_fk K (pv 0)) (pe_fk K (pv 1)) (nomark _))))
        pss_nil)
      (pss_one (ps_ret (pe_cmpR op_le (pe_fk K (pv 1)) (pe_fk K (pv 0)) (nomark _)))))), ?_⟩
    unfold repM at k
    refine ⟨_, rfl, ab, CK, db, _, _, rfl, hb, T.clK, T.nK_group, kf_group _ _ _ _ _ _, _, rfl, ax, CK, dx, _, _, rfl, hx, T.clK, T.nK_group, kf_group _ _ _ _ _ _, rfl, _, rfl, ?_⟩
    refine ite2 (fun c => ?_) (fun c => ?_)
    · have c' : grp b ≠ grp x := by
        intro z
        rw [z] at c
        simp at c
      rw [if_pos c'] at k
      exact k
    · have c' : grp b = grp x := by
        have q : V.int (grp b : Int) = V.int (grp x : Int) := by simpa using c
        exact int_len q
      rw [if_neg (by simp [c'])] at k
      refine ⟨_, rfl, ax, CK, dx, _, _, rfl, hx, T.clK, T.nK_group, kf_group _ _ _ _ _ _, rfl, _, rfl, ?_⟩
      refine ite2 (fun d => ?_) (fun d => ?_)
      · have d' : grp x = 0 := by
          have q : V.int (grp x : Int) = V.int (0 : Nat) := by simpa using d
          exact int_len q
        rw [if_pos d'] at k
        have h1 : SqL K H tb ((ttl b).map bV) := SqL.of tob.1
        have h2 : SqL K H tx ((ttl x).map bV) := SqL.of tox.1
        refine ⟨_, rfl, ab, CK, db, _, _, rfl, hb, T.clK, T.nK_title, kf_title _ _ _ _ _ _, _, rfl, ax, CK, dx, _, _, rfl, hx, T.clK, T.nK_title, kf_title _ _ _ _ _ _, tb, tx, _, _, rfl, rfl, by rw [bs_ints] at h1; exact h1, by rw [bs_ints] at h2; exact h2, Q_bl k ?_⟩
        by_cases e : ttl b = ttl x
        · simp [e]
        · rw [decide_eq_false e, decide_eq_false]
          intro q
          refine e (List.map_inj_right ?_ |>.mp q)
          intro y z hyz
          exact UInt8.toNat_inj.mp (by omega)
      · have d' : grp x ≠ 0 := by
          intro z
          rw [z] at d
          simp at d
        rw [if_neg d'] at k
        refine ⟨_, rfl, ax, CK, dx, _, _, rfl, hx, T.clK, T.nK_repeat, kf_repeat _ _ _ _ _ _, _, rfl, ab, CK, db, _, _, rfl, hb, T.clK, T.nK_repeat, kf_repeat _ _ _ _ _ _, _, _, rfl, rfl, Q_bl k ?_⟩
        rw [Bool.eq_iff_iff]
        simp
/-! ### has_sign -/
def spHasSign (CK : Addr) (K : PySem.W.Frag) : Sp := fun vs H Q _ => ∃ (kv : V) (ks : List Flags.Kind), vs = [kv] ∧ KsAt CK K H kv ks ∧ ks.length ≤ 66001 ∧ ∀ H' : Hp, Same H H' → Q (.bl (ks.any fun k => decide (grp k = 0))) H'
theorem ok_has_sign {f : Addr} {fd : FuncData} (F : Fun K "has_sign" "has_sign" st_has_sign f fd) (T : Txt K mg CK CR aS) : FnOk P w K mg base CX0 1 f fd ["kinds"] (spHasSign CK K) := by
  refine F.ok sc_has_sign (fun vs H Q E h => ?_) (fun cdv A outer s H vs Q E hr h => ?_)
  · obtain ⟨kv, ks, rfl, _⟩ := h
    rfl
  · obtain ⟨kv, ks, rfl, ⟨a, us, rfl, hs, hP⟩, hz, k⟩ := h
    have hl := paired_len hP
    have big : (66001 : Nat) ≤ sizeLine := by rw [sizeLine_eq]; decide
    refine ⟨_, (pss_one (ps_ret (pe_callB (cr_anyK K rfl) (by rfl) T.n_any boot_any (pa_cons (pe_lc (own := [("kind", 1)]) rfl sc_has_sign.nd (pi_listK K (pv 0)) (blkOk_by (by with_unfolding_all rfl)) (fun _ _ _ _ _ => (pg_name (i := 1) sc_has_sign.nd rfl (Or.inl rfl))) (fun _ _ _ _ _ => pts_nil) (fun _ _ _ _ _ => (pe_cmpR op_eq (pe_fk K (pv 1)) (pe_gi rfl T.c_SIGN) (nomark _)))) pa_nil)))), ?_⟩
    dsimp only [tNext, tSeq, tIfS, tTest, tAsg, gName, tRet, tIf, tCB, tCons, tNil, tNot, tAnd, tOr, tAndV, tOrV, tDrop, tCall]
    refine lcT_same (ys := ks.map fun x => V.bl (decide (grp x = 0))) (fun _ q => ⟨_, rfl, q⟩) hs (by simp [hl]) (by simp; omega) (fun i u y H2 R hu hy s1 hR => ?_) (fun H2 D s2 hD => ?_)
    · obtain ⟨x, ex, ⟨ax, dx, tx, rfl, hx, _⟩⟩ := paired_at hP hu
      rw [List.getElem?_map, ex] at hy
      have ey : y = V.bl (decide (grp x = 0)) := (Option.some.inj hy).symm
      subst ey
      refine ⟨rfl, _, rfl, ax, CK, dx, _, _, rfl, s1 _ _ hx, T.clK, T.nK_group, kf_group _ _ _ _ _ _, rfl, Q_bl (hR H2 (Same.refl _)) ?_⟩
      rw [Bool.eq_iff_iff]
      simp
    · refine ⟨D, ks.map fun x => decide (grp x = 0), rfl, SqL.of (by rw [hD, List.map_map]; rfl), Q_bl (k H2 s2) ?_⟩
      rw [List.any_map]
      rfl
/-! ### fault_behind -/
def spFault (CK : Addr) (K : PySem.W.Frag) : Sp := fun vs H Q _ => ∃ (kv xv : V) (ks : List Flags.Kind) (o : Option Flags.Kind), vs = [kv, xv] ∧ KsAt CK K H kv ks ∧ ks.length ≤ 66001 ∧ KindO CK K H xv o ∧ ∀ H' : Hp, Same H H' → Q (.int (faultM ks o : Nat)) H'
theorem ok_fault_behind {f : Addr} {fd : FuncData} (F : Fun K "fault_behind" "fault_behind" st_fault_behind f fd) (T : Txt K mg CK CR aS) (D_may_follow : DefOk P w K mg base 1 "may_follow" ["kinds", "kind"] (spMay CK K))
    (D_is_repeated : DefOk P w K mg base 1 "is_repeated" ["before", "kind"] (spRepd CK K)) : FnOk P w K mg base CX0 2 f fd ["kinds", "kind"] (spFault CK K) := by
  refine F.ok sc_fault_behind (fun vs H Q E h => ?_) (fun cdv A outer s H vs Q E hr h => ?_)
  · obtain ⟨kv, xv, ks, o, rfl, _⟩ := h
    rfl
  · obtain ⟨kv, xv, ks, o, rfl, ⟨a, us, rfl, hs, hP⟩, hz, ho, k⟩ := h
    have hl := paired_len hP
    have big : (66001 : Nat) ≤ sizeLine := by rw [sizeLine_eq]; decide
    refine ⟨_, (pss_cons (ps_if (pt_cut (PW.pt (pw_or (pt_cmpR op_isN (pv 1) pe_non (nomark _)) (pw_or1 (pt_not (pt_truthK K (pe_fn D_may_follow (hr.mono (by decide)) rfl (pa_cons (pv 0) (pa_cons (pv 1) pa_nil))) (fun _ => rfl)))))))
        (pss_one (ps_ret (pe_gi rfl T.c_MISPLACED)))
        pss_nil)
      (pss_cons (ps_if (pt_cut (pt_truthK K (pe_callB (cr_anyK K rfl) (by rfl) T.n_any boot_any (pa_cons (pe_lc (own := [("before", 2)]) rfl sc_fault_behind.nd (pi_listK K (pv 0)) (blkOk_by (by with_unfolding_all rfl)) (fun _ _ _ _ _ => (pg_name (i := 2) sc_fault_behind.nd rfl (Or.inl rfl))) (fun _ _ _ _ _ => pts_nil) (fun _ _ _ _ _ => (pe_fn D_is_repeated (hr.mono (by decide)) rfl (pa_cons (pv 2) (pa_cons (pv 1) pa_nil))))) pa_nil)) (fun _ => rfl)))
        (pss_one (ps_ret (pe_gi rfl T.c_REPEATED)))
        pss_nil)
      (pss_cons (ps_if (pt_cut (PW.pt (pw_and (pt_cmpR op_eq (pe_fk K (pv 1)) (pe_gi rfl T.c_SIGN) (nomark _)) (pw_and1 (pt_cmpR op_ge (pe_callB (call_lenK K) (by rfl) T.n_len PySem.boot_len (pa_cons (pv 0) pa_nil)) (pe_gi rfl T.c_MOST_SIGNS) (nomark _))))))
        (pss_one (ps_ret (pe_gi rfl T.c_ONE_SIGN_TOO_MANY)))
        pss_nil)
      (pss_cons (ps_if (pt_cut (pt_truthK K (pe_callB (cr_anyK K rfl) (by rfl) T.n_any boot_any (pa_cons (pe_lc (own := [("before", 2)]) rfl sc_fault_behind.nd (pi_listK K (pv 0)) (blkOk_by (by with_unfolding_all rfl)) (fun _ _ _ _ _ => (pg_name (i := 2) sc_fault_behind.nd rfl (Or.inl rfl))) (fun _ _ _ _ _ => pts_nil) (fun _ _ _ _ _ => (pe_and (pe_cmpR op_eq (pe_fk K (pv 2)) (pe_fk K (pv 1)) (nomark _)) (pe_one (pe_cmpR op_eq (pe_fk K (pv 2)) (pe_fk K (pv 1)) (nomark _)))))) pa_nil)) (fun _ => rfl)))
        (pss_one (ps_ret (pe_gi rfl T.c_LOOKS_LIKE_ANOTHER)))
        pss_nil)
      (pss_one (ps_ret (pe_gi rfl T.c_SOUND))))))), ?_⟩
    cases o with
    | none =>
      have e : xv = .non := ho
      subst e
      refine ⟨fun b H1 => b = true ∧ H1 = H, fun b H1 ⟨eb, eh⟩ => ?_, ⟨_, rfl, rfl, _, rfl, iteT ⟨rfl, rfl⟩⟩⟩
      subst eb eh
      exact iteT (k _ (Same.refl _))
    | some x =>
      obtain ⟨ax, dx, tx, rfl, hx, tox⟩ := id (show KindAt CK K H xv x from ho)
      refine ⟨fun b H1 => b = (!mayM ks x) ∧ H1 = H, fun b H1 ⟨eb, eh⟩ => ?_, ⟨_, rfl, rfl, _, rfl, iteF ⟨_, rfl, _, rfl, .ref a, .ref ax, ks, x, rfl, ⟨a, us, rfl, hs, hP⟩, ho, _, rfl, rfl, rfl⟩⟩⟩
      subst eb eh
      refine ite2 (fun c1 => ?_) (fun c1 => ?_)
      · refine Q_v (k _ (Same.refl _)) ?_
        unfold faultM
        have c1' : mayM ks x = false := by simpa using c1
        simp only [c1']
        rfl
      · have c1' : mayM ks x = true := by simpa using c1
        -- repeated
        refine ⟨fun b H2 => b = (ks.any fun b => repM b x) ∧ Same H1 H2, fun b H2 ⟨eb, s2⟩ => ?_, ?_⟩
        · subst eb
          refine ite2 (fun c2 => ?_) (fun c2 => ?_)
          · refine Q_v (k _ s2) ?_
            unfold faultM
            simp only [c1', c2]
            rfl
          · rw [Bool.not_eq_true] at c2
            refine ⟨fun b H3 => b = decide (grp x = 0 ∧ 48 ≤ ks.length) ∧ H3 = H2, fun b H3 ⟨eb, eh⟩ => ?_, ?_⟩
            · subst eb eh
              refine ite2 (fun c3 => ?_) (fun c3 => ?_)
              · refine Q_v (k _ s2) ?_
                unfold faultM
                simp only [c1', c2, of_decide_eq_true c3]
                rfl
              · have c3' : ¬ (grp x = 0 ∧ 48 ≤ ks.length) := by simpa using c3
                refine ⟨fun b H4 => b = (ks.any fun b => decide (b.shape = x.shape) && decide (b.look = x.look)) ∧ Same H3 H4, fun b H4 ⟨eb, s4⟩ => ?_, ?_⟩
                · subst eb
                  refine ite2 (fun c4 => ?_) (fun c4 => ?_)
                  · refine Q_v (k _ (s2.trans s4)) ?_
                    unfold faultM
                    simp only [c1', c2, c3', c4]
                    rfl
                  · rw [Bool.not_eq_true] at c4
                    refine Q_v (k _ (s2.trans s4)) ?_
                    unfold faultM
                    simp only [c1', c2, c3', c4]
                    rfl
                · dsimp only [tNext, tSeq, tIfS, tTest, tAsg, gName, tRet, tIf, tCB, tCons, tNil, tNot, tAnd, tOr, tAndV, tOrV, tDrop, tCall]
                  refine lcT_same (ys := ks.map fun b => V.bl (decide (b.shape = x.shape) && decide (b.look = x.look))) (fun _ q => ⟨_, rfl, q⟩) (s2.seq hs) (by simp [hl]) (by simp; omega) (fun i u y H5 R hu hy s5 hR => ?_) (fun H5 D s5 hD => ?_)
                  · obtain ⟨b, eb, ⟨ab, db, tb, rfl, hb, _⟩⟩ := paired_at hP hu
                    rw [List.getElem?_map, eb] at hy
                    have ey : y = V.bl (decide (b.shape = x.shape) && decide (b.look = x.look)) := (Option.some.inj hy).symm
                    subst ey
                    have hb5 := s5 _ _ (s2 _ _ hb)
                    have hx5 := s5 _ _ (s2 _ _ hx)
                    refine ⟨rfl, _, rfl, ab, CK, db, _, _, rfl, hb5, T.clK, T.nK_shape, kf_shape _ _ _ _ _ _, _, rfl, ax, CK, dx, _, _, rfl, hx5, T.clK, T.nK_shape, kf_shape _ _ _ _ _ _, rfl, _, rfl, ?_⟩
                    refine ite2 (fun d => ?_) (fun d => ?_)
                    · have d' : b.shape = x.shape := int_len (by simpa using d)
                      refine ⟨_, rfl, ab, CK, db, _, _, rfl, hb5, T.clK, T.nK_look, kf_look _ _ _ _ _ _, _, rfl, ax, CK, dx, _, _, rfl, hx5, T.clK, T.nK_look, kf_look _ _ _ _ _ _, rfl, Q_bl (hR H5 (Same.refl _)) ?_⟩
                      rw [decide_eq_true d', Bool.true_and]
                      by_cases e : b.look = x.look
                      · simp [e]
                      · rw [decide_eq_false e, decide_eq_false fun q => e (int_len q)]
                    · refine Q_bl (hR H5 (Same.refl _)) ?_
                      have d' : ¬ b.shape = x.shape := fun z => d (by rw [z]; simp)
                      rw [decide_eq_false d', Bool.false_and]
                  · refine ⟨D, ks.map fun b => (decide (b.shape = x.shape) && decide (b.look = x.look)), rfl, SqL.of (by rw [hD, List.map_map]; rfl), _, rfl, ?_, s5⟩
                    rw [List.any_map]
                    rfl
            · have hx2 := s2 _ _ hx
              refine ⟨_, rfl, ax, CK, dx, _, _, rfl, hx2, T.clK, T.nK_group, kf_group _ _ _ _ _ _, rfl, _, rfl, ?_⟩
              refine ite2 (fun d => ?_) (fun d => ?_)
              · have d' : grp x = 0 := int_len (m := 0) (by simpa using d)
                refine ⟨_, rfl, _, _, rfl, .inl ⟨_, s2.seq hs, rfl⟩, _, _, rfl, rfl, _, rfl, ?_, rfl⟩
                rw [Bool.eq_iff_iff]
                simp [d', hl]
                omega
              · have d' : grp x ≠ 0 := fun z => d (by rw [z]; simp)
                refine ⟨?_, rfl⟩
                simp [d']
        · dsimp only [tNext, tSeq, tIfS, tTest, tAsg, gName, tRet, tIf, tCB, tCons, tNil, tNot, tAnd, tOr, tAndV, tOrV, tDrop, tCall]
          refine lcT_same (ys := ks.map fun b => V.bl (repM b x)) (fun _ q => ⟨_, rfl, q⟩) hs (by simp [hl]) (by simp; omega) (fun i u y H5 R hu hy s5 hR => ?_) (fun H5 D s5 hD => ?_)
          · obtain ⟨b, eb, hb⟩ := paired_at hP hu
            rw [List.getElem?_map, eb] at hy
            have ey : y = V.bl (repM b x) := (Option.some.inj hy).symm
            subst ey
            exact ⟨rfl, _, rfl, _, rfl, u, .ref ax, b, x, rfl, hb.mono s5, KindAt.mono ho s5, hR H5 (Same.refl _)⟩
          · refine ⟨D, ks.map fun b => repM b x, rfl, SqL.of (by rw [hD, List.map_map]; rfl), _, rfl, ?_, s5⟩
            rw [List.any_map]
            rfl
end
end Lk
namespace Lk
open PySem PySem.Spec PyProof.Rows L2
section
variable {P : Program} {w : World} {K : PySem.W.Frag} {mg : Str → Option Value} {base : Heap} {CK CR aS : Addr}
/-- what became of a text, at v -/
def ReadAt (CK CR : Addr) (K : PySem.W.Frag) (H : Hp) (v : V) (a f l : Int) (ks : List Flags.Kind) : Prop := ∃ (p dx : Addr) (kv : V), v = .ref p ∧ H p = some (.ins CR dx (rfs (.int a) (.int f) (.int l) kv)) ∧ KsAt CK K H kv ks
theorem ReadAt.mono {H H' : Hp} {v : V} {a f l : Int} {ks : List Flags.Kind} (h : ReadAt CK CR K H v a f l ks) (s : Same H H') : ReadAt CK CR K H' v a f l ks := by
  obtain ⟨p, dx, kv, e, h1, h2⟩ := h
  exact ⟨p, dx, kv, e, s _ _ h1, h2.mono s⟩
/-- Reading(a, f, l, kinds) -/
theorem made_reading {H : Hp} {a f l : Int} {kv : V} {ks : List Flags.Kind} {Q : VK} (hk : KsAt CK K H kv ks) (q : ∀ (H' : Hp) (v : V), Same H H' → ReadAt CK CR K H' v a f l ks → Q v H') :
    ∀ x dx, H x = none → H dx = none → dx ≠ x → spReadInit CR (.ref x :: ([.int a, .int f, .int l, kv] ++ [])) (upd (upd H dx (.own x)) x (.ins CR dx [])) (fun v H2 => v = .non ∧ Q (.ref x) H2) E0 := by
  intro x dx nx nd ne
  refine ⟨x, dx, .int a, .int f, .int l, kv, rfl, upd_same, fun H2 h2 kp => ⟨rfl, ?_⟩⟩
  have s2 : Same H H2 := Same.made nx nd kp
  exact q H2 (.ref x) s2 ⟨x, dx, kv, rfl, h2, hk.mono s2⟩
/-! ### no_locker -/
def spNoLocker (CK CR : Addr) (K : PySem.W.Frag) : Sp := fun vs H Q _ => ∃ (f l : Int), vs = [.int f, .int l] ∧ ∀ (H' : Hp) (v : V), Same H H' → ReadAt CK CR K H' v (-6) f l [] → Q v H'
theorem ok_no_locker {f : Addr} {fd : FuncData} (F : Fun K "no_locker" "no_locker" st_no_locker f fd) (T : Txt K mg CK CR aS)
    (D_Reading : ClsOk P w K mg base 1 "Reading" CR ["self", "answer", "fault", "line", "kinds"] (spReadInit CR)) : FnOk P w K mg base CX0 3 f fd ["fault", "line"] (spNoLocker CK CR K) := by
  refine F.ok sc_no_locker (fun vs H Q E h => ?_) (fun cdv A outer s H vs Q E hr h => ?_)
  · obtain ⟨f, l, rfl, _⟩ := h
    rfl
  · obtain ⟨f, l, rfl, k⟩ := h
    refine ⟨_, (pss_one (ps_ret (pe_cls D_Reading (hr.mono (by decide)) rfl (pa_cons (pe_gi rfl T.c_NO_LOCKER) (pa_cons (pv 0) (pa_cons (pv 1) (pa_cons (pe_lst pa_nil) pa_nil))))))), ?_⟩
    refine ⟨_, rfl, _, rfl, Nat.zero_le _, fun q hq => ?_⟩
    exact made_reading (CK := CK) (K := K) (ks := []) ⟨q, [], rfl, SqL.of upd_same, .nil⟩ fun H' v s1 hr => k H' v ((Same.new hq).trans s1) hr
/-! ### read_text -/
def ReadIs (CK CR : Addr) (K : PySem.W.Frag) (H : Hp) (v : V) (bs : List UInt8) : Prop := if 65536 < bs.length then ReadAt CK CR K H v (-2) 0 0 [] else match judgeK bs with
  | .error e => ReadAt CK CR K H v (-6) (e.1 : Nat) (e.2 : Nat) []
  | .ok ks => ReadAt CK CR K H v 0 0 0 ks
theorem ReadIs.long {H : Hp} {v : V} {bs : List UInt8} (h : 65536 < bs.length) (r : ReadAt CK CR K H v (-2) 0 0 []) : ReadIs CK CR K H v bs := by
  unfold ReadIs
  rw [if_pos h]
  exact r
theorem ReadIs.bad {H : Hp} {v : V} {bs : List UInt8} {e : Flags.Fault} (h : ¬ 65536 < bs.length) (j : judgeK bs = .error e) (r : ReadAt CK CR K H v (-6) (e.1 : Nat) (e.2 : Nat) []) : ReadIs CK CR K H v bs := by
  unfold ReadIs
  rw [if_neg h, j]
  exact r
theorem ReadIs.good {H : Hp} {v : V} {bs : List UInt8} {ks : List Flags.Kind} (h : ¬ 65536 < bs.length) (j : judgeK bs = .ok ks) (r : ReadAt CK CR K H v 0 0 0 ks) : ReadIs CK CR K H v bs := by
  unfold ReadIs
  rw [if_neg h, j]
  exact r
def spRead (CK CR : Addr) (K : PySem.W.Frag) : Sp := fun vs H Q _ => ∃ (v : V) (bs : List UInt8), vs = [v] ∧ Bs K H v bs ∧ bs.length ≤ 66000 ∧ ∀ (H' : Hp) (v' : V), Same H H' → ReadIs CK CR K H' v' bs → Q v' H'
theorem cutV_init (us : List V) (u : V) : cutV (us ++ [u]) none (some (-1)) = us := by
  unfold cutV HT.sIx
  have e : ((-1 : Int) + ((us ++ [u]).length : Int)).toNat = us.length := by
    rw [List.length_append]
    show ((-1 : Int) + ((us.length + 1 : Nat) : Int)).toNat = us.length
    omega
  show List.take ((if (-1 : Int) < 0 then _ else _) - 0) (List.drop 0 (us ++ [u])) = us
  rw [if_pos (by decide), e, List.drop_zero, Nat.sub_zero]
  simp
theorem refs_of {H : Hp} {us : List V} {ks : List Flags.Kind} (h : Paired (KindAt CK K H) us ks) : ∀ u ∈ us, ∃ a, u = .ref a := by
  induction h with
  | nil => intro u hu; simp at hu
  | cons q t ih =>
    intro u hu
    rcases List.mem_cons.mp hu with e | hu
    · obtain ⟨a, _, _, e2, _⟩ := q
      exact ⟨a, by rw [e, e2]⟩
    · exact ih u hu
/-- a kind whose title is not the list at l -/
def KindNe (l CK : Addr) (K : PySem.W.Frag) (H : Hp) (v : V) (x : Flags.Kind) : Prop := ∃ (a dx tl : Addr), v = .ref a ∧
  H a = some (.ins CK dx (kfs (.int (grp x : Nat)) (.ref tl) (.int (rep x : Nat)) (.int (x.copies : Nat)) (.int (x.shape : Nat)) (.int (x.look : Nat)))) ∧ TtlOk K H tl x ∧ tl ≠ l
theorem ttl_ne {H : Hp} {l tl : Addr} {us : List V} {x : Flags.Kind} (hl : H l = some (.lst us)) (hr : ∀ u ∈ us, ∃ a, u = .ref a) (ht : H tl = some (.lst ((ttl x).map bV))) (ne : us ≠ [] ∨ ttl x ≠ []) : tl ≠ l := by
  intro z
  rw [z, hl] at ht
  have q : us = (ttl x).map bV := HO.lst.inj (Option.some.inj ht)
  cases hx : ttl x with
  | nil =>
    rw [hx] at q ne
    rcases ne with h | h
    · exact h q
    · exact h rfl
  | cons b r =>
    rw [hx] at q
    obtain ⟨a, ea⟩ := hr (bV b) (by rw [q]; simp)
    cases ea
/-- the list of kinds grows: the kinds stand as they stood -/
theorem KindNe.grow {H : Hp} {l : Addr} {us : List V} {o : HO} {v : V} {x : Flags.Kind} (hl : H l = some (.lst us)) (h : KindNe l CK K H v x) : KindAt CK K (upd H l o) v x := by
  obtain ⟨a, dx, tl, e, h1, h2, n⟩ := h
  have na : a ≠ l := ne_of h1 hl (by intro z; cases z)
  exact ⟨a, dx, tl, e, by rw [upd_ne na]; exact h1, by rw [upd_ne n]; exact h2.1, h2.2⟩
theorem KindAt.ne {H : Hp} {l : Addr} {us : List V} {v : V} {x : Flags.Kind} (hl : H l = some (.lst us)) (hr : ∀ u ∈ us, ∃ a, u = .ref a) (ne : us ≠ []) (h : KindAt CK K H v x) : KindNe l CK K H v x := by
  obtain ⟨a, dx, tl, e, h1, h2⟩ := h
  exact ⟨a, dx, tl, e, h1, h2, ttl_ne hl hr h2.1 (.inl ne)⟩
theorem KindN.ne {H0 H H' : Hp} {l : Addr} {us us0 : List V} {v : V} {x : Flags.Kind} (h : KindN CK K H0 H v (some x)) (h0 : H0 l = some (.lst us0)) (s : Same H H') (hl : H' l = some (.lst us)) (hr : ∀ u ∈ us, ∃ a, u = .ref a) : KindNe l CK K H' v x := by
  obtain ⟨tl, ⟨a, dx, e, h1, h2⟩, hf⟩ := h
  refine ⟨a, dx, tl, e, s _ _ h1, h2.mono s, ?_⟩
  by_cases g : grp x = 0
  · exact ttl_ne hl hr (s _ _ h2.1) (.inr (h2.2 g))
  · intro z
    have q := hf g
    rw [z, h0] at q
    cases q
theorem paired_grow {H : Hp} {l : Addr} {us : List V} {ks : List Flags.Kind} {o : HO} (hl : H l = some (.lst us)) (hr : ∀ u ∈ us, ∃ a, u = .ref a) (h : Paired (KindAt CK K H) us ks) : Paired (KindAt CK K (upd H l o)) us ks := by
  by_cases e : us = []
  · subst e
    cases h
    exact .nil
  · exact paired_mono (fun u y hu => (KindAt.ne hl hr e hu).grow hl) h
theorem lines_at {bs w : List UInt8} {i : Nat} (h : (cutGo 10 bs).1[i]? = some w) : (cutGo 10 bs).1.drop i ++ [(cutGo 10 bs).2] = w :: ((cutGo 10 bs).1.drop (i + 1) ++ [(cutGo 10 bs).2]) := by
  obtain ⟨hi, e⟩ := List.getElem?_eq_some_iff.mp h
  rw [List.drop_eq_getElem_cons hi, e]
  rfl
theorem piece_len {m : UInt8} {bs w : List UInt8} (h : w ∈ (cutGo m bs).1) : w.length ≤ bs.length := cutAt_mem m bs w (by rw [cutAt_go]; simp [h])
theorem ok_read_text {f : Addr} {fd : FuncData} (F : Fun K "read_text" "read_text" st_read_text f fd) (T : Txt K mg CK CR aS)
    (D_Reading : ClsOk P w K mg base 1 "Reading" CR ["self", "answer", "fault", "line", "kinds"] (spReadInit CR)) (D_split_at : DefOk P w K mg base 1 "split_at" ["mark", "row"] (spSplit K))
    (D_is_locker_line : DefOk P w K mg base 3 "is_locker_line" ["words"] (spLockerLine K)) (D_no_locker : DefOk P w K mg base 3 "no_locker" ["fault", "line"] (spNoLocker CK CR K))
    (D_kind_told : DefOk P w K mg base 4 "kind_told" ["words"] (spKindTold CK K)) (D_fault_behind : DefOk P w K mg base 2 "fault_behind" ["kinds", "kind"] (spFault CK K))
    (D_has_sign : DefOk P w K mg base 1 "has_sign" ["kinds"] (spHasSign CK K)) : FnOk P w K mg base CX0 5 f fd ["t"] (spRead CK CR K) := by
  refine F.ok sc_read_text (fun vs H Q E h => ?_) (fun cdv A outer s H vs Q E hr h => ?_)
  · obtain ⟨v, bs, rfl, _⟩ := h
    rfl
  · obtain ⟨v, bs, rfl, hv, hz, k⟩ := h
    obtain ⟨a, rfl, hs⟩ := id hv
    have big : (66002 : Nat) < sizeLine := by rw [sizeLine_eq]; decide
    refine ⟨_, (pss_cons (ps_if (pt_cmpR op_gt (pe_callB (call_lenK K) (by rfl) T.n_len PySem.boot_len (pa_cons (pv 0) pa_nil)) (pe_gi rfl T.c_MOST_BYTES) (nomark _))
        (pss_one (ps_ret (pe_cls D_Reading (hr.mono (by decide)) rfl (pa_cons (pe_gi rfl T.c_TOO_LONG) (pa_cons (pe_gi rfl T.c_SOUND) (pa_cons pe_int (pa_cons (pe_lst pa_nil) pa_nil)))))))
        pss_nil)
      (pss_cons (ps_set (i := 1) sc_read_text.nd rfl (Or.inl rfl) (pe_fn D_split_at (hr.mono (by decide)) rfl (pa_cons (pe_gi rfl T.c_LINE_END) (pa_cons (pv 0) pa_nil))))
      (pss_cons (ps_set (i := 2) sc_read_text.nd rfl (Or.inl rfl) (pe_slice (sl_listK K) (pv 1) po_none (po_some (pe_un un_neg pe_int))))
      (pss_cons (ps_set (i := 3) sc_read_text.nd rfl (Or.inl rfl) (pe_ix (ix_listK K) (pv 1) (pe_un un_neg pe_int) (fun _ _ => rfl)))
      (pss_cons (ps_set (i := 4) sc_read_text.nd rfl (Or.inl rfl) (pe_lst pa_nil))
      (pss_cons (ps_for PassesOwn.never rfl (pi_enum rfl T.n_enumerate (pa_cons (pv 2) pa_nil)) (pg_tupK K 2 rfl (pgs_cons (pg_name (i := 5) sc_read_text.nd rfl (Or.inl rfl)) (pgs_cons (pg_name (i := 6) sc_read_text.nd rfl (Or.inl rfl)) pgs_nil)))
        (pss_cons (ps_set (i := 7) sc_read_text.nd rfl (Or.inl rfl) (pe_fn D_split_at (hr.mono (by decide)) rfl (pa_cons (pe_gi rfl T.c_BLANK) (pa_cons (pv 6) pa_nil))))
        (pss_one (ps_if (pt_cmpR op_eq (pv 5) pe_int (nomark _))
          (pss_one (ps_if (pt_not (pt_truthK K (pe_fn D_is_locker_line (hr.mono (by decide)) rfl (pa_cons (pv 7) pa_nil)) (fun _ => rfl)))
            (pss_one (ps_ret (pe_fn D_no_locker (hr.mono (by decide)) rfl (pa_cons (pe_gi rfl T.c_MISPLACED) (pa_cons (pv 5) pa_nil)))))
            pss_nil))
          (pss_cons (ps_set (i := 8) sc_read_text.nd rfl (Or.inl rfl) (pe_fn D_kind_told (hr.mono (by decide)) rfl (pa_cons (pv 7) pa_nil)))
          (pss_cons (ps_set (i := 9) sc_read_text.nd rfl (Or.inl rfl) (pe_fn D_fault_behind (hr.mono (by decide)) rfl (pa_cons (pv 4) (pa_cons (pv 8) pa_nil))))
          (pss_cons (ps_if (pt_cmpR op_ne (pv 9) (pe_gi rfl T.c_SOUND) (nomark _))
            (pss_one (ps_ret (pe_fn D_no_locker (hr.mono (by decide)) rfl (pa_cons (pv 9) (pa_cons (pv 5) pa_nil)))))
            pss_nil)
          (pss_one (ps_expr (pe_bm PySem.F.plainAttrs_list PySem.F.slot_list_append PySem.F.type_list_append mt_append (pv 4) (pa_cons (pv 8) pa_nil)))))))))))
      (pss_cons (ps_if (PW.pt (pw_or (pt_truthK K (pv 3) (fun _ => rfl)) (pw_or1 (pt_not (pt_truthK K (pe_fn D_has_sign (hr.mono (by decide)) rfl (pa_cons (pv 4) pa_nil)) (fun _ => rfl))))))
        (pss_one (ps_ret (pe_fn D_no_locker (hr.mono (by decide)) rfl (pa_cons (pe_gi rfl T.c_MISPLACED) (pa_cons (pe_callB (call_lenK K) (by rfl) T.n_len PySem.boot_len (pa_cons (pv 2) pa_nil)) pa_nil)))))
        pss_nil)
      (pss_one (ps_ret (pe_cls D_Reading (hr.mono (by decide)) rfl (pa_cons (pe_gi rfl T.c_READ) (pa_cons (pe_gi rfl T.c_SOUND) (pa_cons pe_int (pa_cons (pv 4) pa_nil)))))))))))))), ?_⟩
    refine ⟨_, rfl, _, _, rfl, .inl ⟨_, hs, rfl⟩, _, _, rfl, rfl, _, rfl, ?_⟩
    refine ite2 (fun c0 => ?_) (fun c0 => ?_)
    · have hlong : 65536 < bs.length := by
        have q := of_decide_eq_true c0
        rw [List.length_map] at q
        omega
      refine ⟨Nat.zero_le _, fun q hq => ?_⟩
      exact made_reading (CK := CK) (K := K) (ks := []) ⟨q, [], rfl, SqL.of upd_same, .nil⟩ fun H' v s1 hr => k H' v ((Same.new hq).trans s1) (ReadIs.long hlong hr)
    · have hn : ¬ 65536 < bs.length := by
        intro z
        refine c0 (decide_eq_true ?_)
        rw [List.length_map]
        omega
      -- parts
      refine ⟨_, rfl, 10, _, bs, rfl, hv, hz, fun H1 p us s1 hp hP => ?_⟩
      rw [cutAt_go] at hP
      obtain ⟨ul, un, ls, un', e1, e2, hPl, hun⟩ := paired_last hP (by intro z; rw [z] at hP; have := paired_len hP; simp at this)
      obtain ⟨e2a, e2b⟩ := List.append_inj' e2 rfl
      have e2b : (cutGo 10 bs).2 = un' := by simpa using e2b
      subst e1 e2b
      rw [← e2a] at hPl
      clear e2 e2a
      -- lines
      refine ⟨_, rfl, _, rfl, _, rfl, p, _, rfl, SqL.of hp, fun q hq => ?_⟩
      have s2 : Same H1 (upd H1 q (.lst ul)) := Same.new hq
      have ecut : cutV (ul ++ [un]) none (some (-1)) = ul := cutV_init ul un
      rw [show (upd H1 q (.lst (cutV (ul ++ [un]) none (some (-1))))) = upd H1 q (.lst ul) by rw [ecut]]
      -- unended
      refine ⟨_, rfl, _, rfl, _, _, _, _, rfl, rfl, SqL.of (s2 _ _ hp), atI_last _ _, ?_⟩
      -- kinds
      refine ⟨Nat.zero_le _, fun l hl => ?_⟩
      have sq : Same H1 (upd (upd H1 q (.lst ul)) l (.lst [])) := s2.trans (Same.new hl)
      have hq0 : (upd (upd H1 q (.lst ul)) l (.lst [])) q = some (.lst ul) := (Same.new hl) _ _ upd_same
      have hll : l ≠ q := fun z => by rw [z, upd_same] at hl; cases hl
      have hlen := paired_len hPl
      refine ⟨_, rfl, q, _, rfl, SqL.of hq0, for_enum (K := K) (a := q) (xs := ul) (fun i σ H' => ∃ (ks : List Flags.Kind) (kus : List V) (n5 n6 n7 n8 n9 : Option V),
          σ = [some (.ref a), some (.ref p), some (.ref q), some un, some (.ref l), n5, n6, n7, n8, n9] ∧ Same (upd H1 q (.lst ul)) H' ∧ H' l = some (.lst kus) ∧ Paired (KindAt CK K H') kus ks ∧ ks.length ≤ i ∧ Ordered ks ∧
          (i = 0 → ks = []) ∧ (1 ≤ i → judgeK bs = Flags.judgeLines i ks ((cutGo 10 bs).1.drop i ++ [(cutGo 10 bs).2])))
        ⟨[], [], none, none, none, none, none, rfl, Same.new hl, upd_same, .nil, Nat.le_refl _, List.Pairwise.nil, fun _ => rfl, fun z => absurd z (by decide)⟩ (fun i σ H' _ ⟨_, _, _, _, _, _, _, _, s3, _⟩ => SqL.of (s3 _ _ upd_same)) ?_ ?_⟩
      · rintro i x σ H3 TT hx ⟨ks, kus, n5, n6, n7, n8, n9, rfl, s3, hkl, hPk, hkn, hord, hk0, hk1⟩ hT
        obtain ⟨w', hw, bw⟩ := paired_at hPl hx
        have hwl : w'.length ≤ 66000 := Nat.le_trans (piece_len (List.mem_of_getElem? hw)) hz
        have sT : Same H3 (upd H3 TT (.tup [.int (i : Nat), x])) := Same.new hT
        refine ⟨TT, _, rfl, SqT.of upd_same, rfl, _, _, rfl, _, _, rfl, rfl, ?_⟩
        -- words
        have bw3 : Bs K (upd H3 TT (.tup [.int (i : Nat), x])) x w' := (bw.mono ((s2.trans s3).trans sT)).bs
        refine ⟨_, rfl, 32, _, w', rfl, bw3, hwl, fun H4 p4 us4 s4 hp4 hP4 => ?_⟩
        have hW : Ws K H4 (.ref p4) (Flags.cutAt 32 w') := ⟨p4, us4, rfl, SqL.of hp4, hP4⟩
        have s34 : Same H3 H4 := sT.trans s4
        -- which line
        refine ⟨_, rfl, rfl, _, rfl, ?_⟩
        refine ite2 (fun c1 => ?_) (fun c1 => ?_)
        · have hi : i = 0 := int_len (m := 0) (by simpa using c1)
          subst hi
          have hks := hk0 rfl
          subst hks
          refine ⟨_, rfl, _, _, rfl, hW, fun H5 s5 => ⟨_, rfl, ?_⟩⟩
          have hfirst : ∃ r, (cutGo 10 bs).1 = w' :: r := by
            rcases hc : (cutGo 10 bs).1 with _ | ⟨y, r⟩
            · rw [hc] at hw; simp at hw
            · rw [hc] at hw
              have : y = w' := Option.some.inj hw
              exact ⟨r, by rw [this]⟩
          obtain ⟨r, hr1⟩ := hfirst
          cases hnm : nameW (Flags.cutAt 32 w') with
          | false =>
            refine iteT ?_
            refine ⟨_, rfl, 1, 0, rfl, fun H6 v6 s6 hr6 => ?_⟩
            exact k H6 v6 ((((s1.trans s2).trans s3).trans (s34.trans s5)).trans s6) (ReadIs.bad hn (line0_bad hr1 hnm) hr6)
          | true =>
            refine iteF ?_
            refine ⟨[], kus, _, _, _, _, _, rfl, s3.trans (s34.trans s5), (s34.trans s5) _ _ hkl, paired_mono (fun u y hu => KindAt.mono hu (s34.trans s5)) hPk, Nat.zero_le _, List.Pairwise.nil, fun z => absurd z (by decide), fun _ => ?_⟩
            rw [line0_ok hr1 hnm, hr1]
            rfl
        · have hi : 1 ≤ i := by
            rcases Nat.eq_zero_or_pos i with z | z
            · exact absurd (by rw [z]; simp) c1
            · exact z
          have hJ := hk1 hi
          rw [lines_at hw] at hJ
          refine ⟨_, rfl, _, _, rfl, hW, ?_, fun H5 v5 s5 hk5 => ?_⟩
          · intro u hu
            exact Nat.le_trans (cutAt_mem 32 w' u hu) hwl
          have s35 : Same H3 H5 := s34.trans s5
          have hkl5 := s35 _ _ hkl
          have hPk5 := paired_mono (fun u y hu => KindAt.mono hu s35) hPk
          have hil : i < (cutGo 10 bs).1.length := (List.getElem?_eq_some_iff.mp hw).1
          have hcl := (cutGo_len 10 bs).1
          refine ⟨_, rfl, _, rfl, _, _, ks, kindW (Flags.cutAt 32 w'), rfl, ⟨l, kus, rfl, SqL.of hkl5, hPk5⟩, by omega, hk5.o, fun H6 s6 => ?_⟩
          have s36 : Same H3 H6 := s35.trans s6
          refine ⟨_, rfl, rfl, _, rfl, ?_⟩
          refine ite2 (fun c2 => ?_) (fun c2 => ?_)
          · have hf : faultM ks (kindW (Flags.cutAt 32 w')) ≠ 0 := by
              intro z
              rw [z] at c2
              simp at c2
            refine ⟨_, rfl, _, rfl, _, _, rfl, fun H7 v7 s7 hr7 => ?_⟩
            exact k H7 v7 ((((s1.trans s2).trans s3).trans s36).trans s7) (ReadIs.bad hn (hJ.trans (line_bad hord hf)) hr7)
          · have hf : faultM ks (kindW (Flags.cutAt 32 w')) = 0 := int_len (m := 0) (by simpa using c2)
            obtain ⟨x', ex, hord', hJ'⟩ := line_ok (i := i) (u := (cutGo 10 bs).2) (r := (cutGo 10 bs).1.drop (i + 1)) hord hf
            rw [ex] at hk5
            have hkl6 := s6 _ _ hkl5
            have hPk6 := paired_mono (fun u y hu => KindAt.mono hu s6) hPk5
            have hrefs := refs_of hPk6
            have hk6 : KindNe l CK K H6 v5 x' := hk5.ne (s34 _ _ hkl) s6 hkl6 hrefs
            have hkul := paired_len hPk6
            refine ⟨_, rfl, .inl ⟨rfl, _, SqL.of hkl6⟩, _, rfl, l, kus, _, rfl, rfl, hkl6, by omega, ?_⟩
            refine ⟨ks ++ [x'], kus ++ [v5], _, _, _, _, _, rfl, (s3.trans s36).upd hl, upd_same, paired_snoc (hk6.grow hkl6) (paired_grow hkl6 hrefs hPk6), by rw [List.length_append]; show ks.length + 1 ≤ i + 1; omega, hord', fun z => absurd z (Nat.succ_ne_zero i), fun _ => ?_⟩
            exact hJ.trans hJ'
      · rintro σ H3 ⟨ks, kus, n5, n6, n7, n8, n9, rfl, s3, hkl, hPk, hkn, hord, hk0, hk1⟩
        have hcl := (cutGo_len 10 bs).1
        have hB : Bs K H3 un (cutGo 10 bs).2 := (hun.mono (s2.trans s3)).bs
        obtain ⟨au, rfl, hau⟩ := hB
        have hJ : judgeK bs = (if (cutGo 10 bs).2 ≠ [] ∨ (ks.any fun k => decide (grp k = 0)) = false then .error (1, (cutGo 10 bs).1.length) else .ok ks) := by
          rcases Nat.eq_zero_or_pos ul.length with z | z
          · have e0 : (cutGo 10 bs).1 = [] := List.length_eq_zero_iff.mp (by omega)
            have ek := hk0 z
            subst ek
            rw [lines_nil e0, e0, if_pos (.inr rfl)]
            rfl
          · have q := hk1 z
            rw [hlen, List.drop_length] at q
            rw [q]
            exact lines_end
        have bad : ∀ H4 : Hp, Same H3 H4 → ((cutGo 10 bs).2 ≠ [] ∨ (ks.any fun k => decide (grp k = 0)) = false) → tRet (tCall (spNoLocker CK CR K) [] E0 (tCons (tC (.int 1)) (tCons (tCB (fun xs H Q => ∃ x n, xs = [x] ∧ LenV K x H n ∧ Q (.int n) H) (tCons (tVar 2) tNil)) tNil)))
            { nx := fun _ H' => Q .non H', rt := Q } [some (.ref a), some (.ref p), some (.ref q), some (.ref au), some (.ref l), n5, n6, n7, n8, n9] H4 := by
          intro H4 s4 hb
          refine ⟨_, rfl, _, _, rfl, .inl ⟨_, SqL.of (s4 _ _ (s3 _ _ upd_same)), rfl⟩, _, _, rfl, fun H5 v5 s5 hr5 => ?_⟩
          refine k H5 v5 ((((s1.trans s2).trans s3).trans s4).trans s5) (ReadIs.bad (e := (1, (cutGo 10 bs).1.length)) hn (by rw [hJ, if_pos hb]) ?_)
          rw [hlen] at hr5
          exact hr5
        refine ⟨_, rfl, _, .inl ⟨_, hau, rfl⟩, ?_⟩
        cases hu : (cutGo 10 bs).2 with
        | cons y r =>
          refine iteT (iteT ?_)
          exact bad H3 (Same.refl _) (.inl (by rw [hu]; simp))
        | nil =>
          refine iteF ?_
          refine ⟨_, rfl, _, ks, rfl, ⟨l, kus, rfl, SqL.of hkl, hPk⟩, by omega, fun H4 s4 => ⟨_, rfl, ?_⟩⟩
          cases hg : (ks.any fun k => decide (grp k = 0)) with
          | false =>
            refine iteT ?_
            exact bad H4 s4 (.inr hg)
          | true =>
            refine iteF ?_
            refine ⟨_, rfl, ?_⟩
            refine made_reading (CK := CK) (K := K) (ks := ks) ⟨l, kus, rfl, SqL.of (s4 _ _ hkl), paired_mono (fun u y hu => KindAt.mono hu s4) hPk⟩ fun H' v s5 hr => ?_
            refine k H' v ((((s1.trans s2).trans s3).trans s4).trans s5) (ReadIs.good hn ?_ hr)
            rw [hJ, if_neg (by rw [hu, hg]; simp)]
end
end Lk
namespace Lk
open PySem PySem.Spec PyProof.Rows L2
/-! ### what is due, by bytes -/
def toB (ns : List Int) : List UInt8 := ns.map fun (n : Int) => UInt8.ofNat n.toNat
theorem toB_V {ns : List Int} (h : ∀ x ∈ ns, 0 ≤ x ∧ x ≤ 255) : ns.map V.int = (toB ns).map bV := by
  unfold toB
  rw [List.map_map]
  refine List.map_congr_left fun x hx => ?_
  obtain ⟨h1, h2⟩ := h x hx
  show V.int x = V.int _
  congr 1
  show x = ((UInt8.ofNat x.toNat).toNat : Int)
  have e : (UInt8.ofNat x.toNat).toNat = x.toNat % 256 := by simp
  rw [e]
  omega
theorem toB_len (ns : List Int) : (toB ns).length = ns.length := by
  unfold toB
  rw [List.length_map]
theorem text_some {ns : List Int} (h : ∀ x ∈ ns, 0 ≤ x ∧ x ≤ 255) : FlagANeutral.text? ns = some (toB ns) := by
  unfold FlagANeutral.text?
  have e : NeutralIO.bytes ns = true := by
    unfold NeutralIO.bytes
    rw [List.all_eq_true]
    intro x hx
    obtain ⟨h1, h2⟩ := h x hx
    simp [h1, h2]
  rw [if_pos e]
  rfl
theorem nat_some {n : Int} (h : 0 ≤ n) : FlagANeutral.nat? n = some n.toNat := by
  unfold FlagANeutral.nat?
  rw [if_pos h]
/-- the row that a reply is told as -/
def rowOf (a : Flags.Reply) : List Int := a.ret :: ((a.nums.map fun (n : Nat) => (n : Int)) ++ a.bytes.map fun (b : UInt8) => (b.toNat : Int))
/-- a reply of a locker's text, by the kinds -/
theorem ofLocker_eq (bs : List UInt8) (g : List Flags.Kind → Flags.Reply) : Flags.ofLocker bs (fun L => g L.kinds) = if 65536 < bs.length then Flags.says (-2) else match judgeK bs with
    | .error _ => Flags.says (-6)
    | .ok ks => g ks := by
  unfold Flags.ofLocker
  rw [judgeK_eq]
  show (if 65536 < bs.length then _ else _) = _
  split
  · rfl
  · cases Flags.judge bs <;> rfl
theorem intNat {n : Int} (h : 0 ≤ n) : V.int n = natV n.toNat := by
  show V.int n = V.int _
  congr 1
  omega
end Lk
namespace Lk
open PySem PySem.Spec PyProof.Rows L2
section
variable {P : Program} {w : World} {K : PySem.W.Frag} {mg : Str → Option Value} {base : Heap} {CK CR aS : Addr}
theorem nat_cast (n : Nat) : FlagANeutral.nat? (n : Int) = some n := by
  rw [nat_some (Int.natCast_nonneg n)]
  rfl
theorem ReadIs.cases {H : Hp} {v : V} {bs : List UInt8} (h : ReadIs CK CR K H v bs) : (65536 < bs.length ∧ ReadAt CK CR K H v (-2) 0 0 []) ∨ (¬ 65536 < bs.length ∧ ∃ e f l, judgeK bs = .error e ∧ ReadAt CK CR K H v (-6) f l []) ∨
    (¬ 65536 < bs.length ∧ ∃ ks, judgeK bs = .ok ks ∧ ReadAt CK CR K H v 0 0 0 ks) := by
  unfold ReadIs at h
  by_cases hl : 65536 < bs.length
  · rw [if_pos hl] at h
    exact .inl ⟨hl, h⟩
  · rw [if_neg hl] at h
    cases hj : judgeK bs with
    | error e =>
      rw [hj] at h
      exact .inr (.inl ⟨hl, e, _, _, rfl, h⟩)
    | ok ks =>
      rw [hj] at h
      exact .inr (.inr ⟨hl, ks, rfl, h⟩)
theorem paired_of {α β : Type} {F : α → β → Prop} : ∀ {l : List α} {m : List β} {i : Nat} {b : β}, Paired F l m → m[i]? = some b → ∃ a, l[i]? = some a ∧ F a b
  | _, _, i, b, .nil, h => by simp at h
  | _, _, 0, b, .cons h t, e => by
    have e : _ = b := Option.some.inj e
    subst e
    exact ⟨_, rfl, h⟩
  | _, _, i + 1, b, .cons h t, e => paired_of (i := i) t e
/-! ### refusal_of -/
def refM (a : Int) (b : Bool) : Int := if a ≠ 0 then a else if b = true then 0 else -1
def spRef (CK CR : Addr) (K : PySem.W.Frag) : Sp := fun vs H Q _ => ∃ (v : V) (a f l : Int) (ks : List Flags.Kind) (b : Bool), vs = [v, .bl b] ∧ ReadAt CK CR K H v a f l ks ∧ Q (.int (refM a b)) H
theorem ok_refusal_of {f : Addr} {fd : FuncData} (F : Fun K "refusal_of" "refusal_of" st_refusal_of f fd) (T : Txt K mg CK CR aS) : FnOk P w K mg base CX0 1 f fd ["reading", "within"] (spRef CK CR K) := by
  refine F.ok sc_refusal_of (fun vs H Q E h => ?_) (fun cdv A outer s H vs Q E hr h => ?_)
  · obtain ⟨v, a, f, l, ks, b, rfl, _⟩ := h
    rfl
  · obtain ⟨v, a, f, l, ks, b, rfl, ⟨p, dx, kv, rfl, hp, _⟩, k⟩ := h
    refine ⟨_, (pss_cons (ps_if (pt_cmpR op_ne (pe_fk K (pv 0)) (pe_gi rfl T.c_READ) (nomark _))
        (pss_one (ps_ret (pe_fk K (pv 0))))
        pss_nil)
      (pss_one (ps_ret (pe_ifExp (pt_truthK K (pv 1) (fun _ => rfl)) (pe_gi rfl T.c_READ) (pe_gi rfl T.c_OUT_OF_BOUNDS))))), ?_⟩
    refine ⟨_, rfl, p, CR, dx, _, _, rfl, hp, T.clR, T.nR_answer, rf_answer _ _ _ _, rfl, _, rfl, ?_⟩
    by_cases h0 : a = 0
    · refine ite_en h0 ?_
      unfold refM at k
      rw [if_neg (by simp [h0])] at k
      refine ⟨_, rfl, b, rfl, ?_⟩
      cases b with
      | true => exact iteT k
      | false => exact iteF k
    · refine ite_nn h0 ?_
      unfold refM at k
      rw [if_pos h0] at k
      exact ⟨_, rfl, p, CR, dx, _, _, rfl, hp, T.clR, T.nR_answer, rf_answer _ _ _ _, k⟩
/-! ### refusal_of_kind -/
def refKM (i : Nat) (a : Int) (b : Bool) (n : Nat) : Int := if refM a b = 0 ∧ n ≤ i then -4 else refM a b
def spRefK (CK CR : Addr) (K : PySem.W.Frag) : Sp := fun vs H Q _ => ∃ (i : Nat) (v : V) (a f l : Int) (ks : List Flags.Kind) (b : Bool), vs = [natV i, v, .bl b] ∧ ReadAt CK CR K H v a f l ks ∧ Q (.int (refKM i a b ks.length)) H
theorem ok_refusal_of_kind {f : Addr} {fd : FuncData} (F : Fun K "refusal_of_kind" "refusal_of_kind" st_refusal_of_kind f fd) (T : Txt K mg CK CR aS) (D_refusal_of : DefOk P w K mg base 1 "refusal_of" ["reading", "within"] (spRef CK CR K)) :
    FnOk P w K mg base CX0 2 f fd ["i", "reading", "within"] (spRefK CK CR K) := by
  refine F.ok sc_refusal_of_kind (fun vs H Q E h => ?_) (fun cdv A outer s H vs Q E hr h => ?_)
  · obtain ⟨i, v, a, f, l, ks, b, rfl, _⟩ := h
    rfl
  · obtain ⟨i, v, a, f, l, ks, b, rfl, hra, k⟩ := h
    obtain ⟨p, dx, kv, rfl, hp, ⟨la, us, rfl, hus, hP⟩⟩ := id hra
    have hlen := paired_len hP
    refine ⟨_, (pss_cons (ps_set (i := 3) sc_refusal_of_kind.nd rfl (Or.inl rfl) (pe_fn D_refusal_of (hr.mono (by decide)) rfl (pa_cons (pv 1) (pa_cons (pv 2) pa_nil))))
      (pss_cons (ps_if (PW.pt (pw_and (pt_cmpR op_eq (pv 3) (pe_gi rfl T.c_READ) (nomark _)) (pw_and1 (pt_cmpR op_ge (pv 0) (pe_callB (call_lenK K) (by rfl) T.n_len PySem.boot_len (pa_cons (pe_fk K (pv 1)) pa_nil)) (nomark _)))))
        (pss_one (ps_ret (pe_gi rfl T.c_NO_SUCH_KIND)))
        pss_nil)
      (pss_one (ps_ret (pv 3))))), ?_⟩
    refine ⟨_, rfl, _, rfl, _, a, f, l, ks, b, rfl, hra, ?_⟩
    refine ⟨_, rfl, rfl, _, rfl, ?_⟩
    unfold refKM at k
    by_cases h0 : refM a b = 0
    · refine ite_eq h0 ?_
      refine ⟨_, rfl, _, rfl, p, CR, dx, _, _, rfl, hp, T.clR, T.nR_kinds, rf_kinds _ _ _ _, _, _, rfl, .inl ⟨_, hus, rfl⟩, _, _, rfl, rfl, _, rfl, ?_⟩
      by_cases hi : ks.length ≤ i
      · rw [if_pos ⟨h0, hi⟩] at k
        rw [if_pos (decide_eq_true (by omega))]
        exact k
      · rw [if_neg (fun z => hi z.2)] at k
        rw [if_neg (fun z => hi (by have := of_decide_eq_true z; omega))]
        exact ⟨_, rfl, k⟩
    · refine ite_ne h0 (iteF ?_)
      rw [if_neg (fun z => h0 z.1)] at k
      exact ⟨_, rfl, k⟩
end
end Lk
namespace Lk
open PySem PySem.Spec PyProof.Rows L2
section
variable {P : Program} {w : World} {K : PySem.W.Frag} {mg : Str → Option Value} {base : Heap} {CK CR aS : Addr}
/-! ### view -/
def spView (CK : Addr) (K : PySem.W.Frag) : Sp := fun vs H Q _ => ∃ (v : V) (x : Flags.Kind) (light side : Nat), vs = [v, natV light, natV side] ∧ KindAt CK K H v x ∧ ∀ H' : Hp, Same H H' → Q (natV (viewM light side x.look)) H'
theorem ok_view {f : Addr} {fd : FuncData} (F : Fun K "view" "view" st_view f fd) (T : Txt K mg CK CR aS) (D_in_light : DefOk P w K mg base 2 "in_light" ["look", "light"] spInLight) (D_from_behind : DefOk P w K mg base 2 "from_behind" ["look"] spBehind) :
    FnOk P w K mg base CX0 3 f fd ["kind", "light", "side"] (spView CK K) := by
  refine F.ok sc_view (fun vs H Q E h => ?_) (fun cdv A outer s H vs Q E hr h => ?_)
  · obtain ⟨v, x, light, side, rfl, _⟩ := h
    rfl
  · obtain ⟨v, x, light, side, rfl, ⟨ax, dx, tx, rfl, hx, _⟩, k⟩ := h
    refine ⟨_, (pss_cons (ps_set (i := 3) sc_view.nd rfl (Or.inl rfl) (pe_fn D_in_light (hr.mono (by decide)) rfl (pa_cons (pe_fk K (pv 0)) (pa_cons (pv 1) pa_nil))))
      (pss_one (ps_ret (pe_ifExp (pt_cmpR op_eq (pv 2) (pe_gi rfl T.c_BEHIND) (nomark _)) (pe_fn D_from_behind (hr.mono (by decide)) rfl (pa_cons (pv 3) pa_nil)) (pv 3))))), ?_⟩
    refine ⟨_, rfl, ax, CK, dx, _, _, rfl, hx, T.clK, T.nK_look, kf_look _ _ _ _ _ _, _, rfl, x.look, light, rfl, fun H1 s1 => ?_⟩
    refine ⟨_, rfl, rfl, _, rfl, ?_⟩
    unfold viewM at k
    by_cases hs : side = 1
    · rw [if_pos hs] at k
      refine ite_eq (by omega) ?_
      exact ⟨_, rfl, _, rfl, fun H2 s2 => k H2 (s1.trans s2)⟩
    · rw [if_neg hs] at k
      refine ite_ne (by omega) ?_
      exact ⟨_, rfl, k H1 s1⟩
/-! ### views -/
def spViews (CK : Addr) (K : PySem.W.Frag) : Sp := fun vs H Q _ => ∃ (v : V) (x : Flags.Kind) (light side : Nat), vs = [v, natV light, natV side] ∧ KindAt CK K H v x ∧
  ∀ (H' : Hp) (p : Addr), Same H H' → H p = none → H' p = some (.lst ((viewsM light side x.look).map natV)) → Q (.ref p) H'
theorem ok_views {f : Addr} {fd : FuncData} (F : Fun K "views" "views" st_views f fd) (T : Txt K mg CK CR aS) (D_view : DefOk P w K mg base 3 "view" ["kind", "light", "side"] (spView CK K)) : FnOk P w K mg base CX0 4 f fd ["kind", "light", "side"] (spViews CK K) := by
  refine F.ok sc_views (fun vs H Q E h => ?_) (fun cdv A outer s H vs Q E hr h => ?_)
  · obtain ⟨v, x, light, side, rfl, _⟩ := h
    rfl
  · obtain ⟨v, x, light, side, rfl, hx, k⟩ := h
    refine ⟨_, (pss_cons (ps_if (pt_cmpR op_eq (pv 2) (pe_gi rfl T.c_SIDE_NOT_KNOWN) (nomark _))
        (pss_one (ps_ret (pe_lst (pa_cons (pe_fn D_view (hr.mono (by decide)) rfl (pa_cons (pv 0) (pa_cons (pv 1) (pa_cons (pe_gi rfl T.c_FRONT) pa_nil)))) (pa_cons (pe_fn D_view (hr.mono (by decide)) rfl (pa_cons (pv 0) (pa_cons (pv 1) (pa_cons (pe_gi rfl T.c_BEHIND) pa_nil)))) pa_nil)))))
        pss_nil)
      (pss_one (ps_ret (pe_lst (pa_cons (pe_fn D_view (hr.mono (by decide)) rfl (pa_cons (pv 0) (pa_cons (pv 1) (pa_cons (pv 2) pa_nil)))) pa_nil))))), ?_⟩
    refine ⟨_, rfl, rfl, _, rfl, ?_⟩
    unfold viewsM at k
    by_cases hs : side = 2
    · rw [if_pos hs] at k
      refine ite_eq (by omega) ?_
      refine ⟨_, rfl, _, rfl, v, x, light, 0, rfl, hx, fun H1 s1 => ?_⟩
      refine ⟨_, rfl, _, rfl, v, x, light, 1, rfl, hx.mono s1, fun H2 s2 => ?_⟩
      exact ⟨(by show 2 ≤ sizeLine; decide), fun q hq => k _ q ((s1.trans s2).new' hq) ((s1.trans s2).free hq) upd_same⟩
    · rw [if_neg hs] at k
      refine ite_ne (by omega) ?_
      refine ⟨_, rfl, _, rfl, _, rfl, v, x, light, side, rfl, hx, fun H1 s1 => ?_⟩
      exact ⟨(by show 1 ≤ sizeLine; decide), fun q hq => k _ q (s1.new' hq) (s1.free hq) upd_same⟩
end
end Lk
namespace Lk
open PySem PySem.Spec PyProof.Rows L2
theorem bitAnd_nat (a b : Nat) : Builtin.bitAnd (a : Int) (b : Int) = ((a &&& b : Nat) : Int) := by
  unfold Builtin.bitAnd
  rw [decide_eq_true (Int.natCast_nonneg a), decide_eq_true (Int.natCast_nonneg b)]
  rfl
theorem and_zero (a b : Nat) : decide (V.int (Builtin.bitAnd (a : Int) (b : Int)) = V.int 0) = decide (a &&& b = 0) := by
  rw [bitAnd_nat]
  generalize a &&& b = z
  by_cases h : z = 0
  · subst h; rfl
  · rw [decide_eq_false h, decide_eq_false]
    intro q
    have q := V.int.inj q
    omega
theorem inV_nat (v : Nat) : ∀ ys : List Nat, inV (natV v) (ys.map natV) = ys.any fun u => decide (u = v)
  | [] => rfl
  | y :: r => by
    have ih := inV_nat v r
    unfold inV at ih ⊢
    rw [List.map_cons, List.any_cons, List.any_cons, ih]
    have e : eqV (natV y) (natV v) = decide (y = v) := by
      show ((y : Int) == (v : Int)) = decide (y = v)
      by_cases h : y = v
      · subst h; simp
      · rw [decide_eq_false h]
        simp
        omega
    rw [e]
theorem flat_nat (ys : List Nat) : (ys.map natV).all flatV = true := by
  rw [List.all_eq_true]
  intro x hx
  obtain ⟨b, _, e⟩ := List.mem_map.mp hx
  rw [← e]
  rfl
end Lk
namespace Lk
open PySem PySem.Spec PyProof.Rows L2
section
variable {P : Program} {w : World} {K : PySem.W.Frag} {mg : Str → Option Value} {base : Heap} {CK CR aS : Addr}
theorem any_len2 {l : List Nat} {f : Nat → V} (h : l.length ≤ 2) : (l.map f).length ≤ sizeLine := by
  have := big16
  rw [List.length_map]
  omega
/-! ### ways_apart -/
def spWays (CK : Addr) (K : PySem.W.Frag) : Sp := fun vs H Q _ => ∃ (kv : V) (ks : List Flags.Kind) (i light side : Nat) (made : Bool) (k : Flags.Kind), vs = [kv, natV i, natV light, natV side, .bl made] ∧ KsAt CK K H kv ks ∧ ks.length ≤ 53 ∧ ks[i]? = some k ∧
  ∀ (H' : Hp) (p : Addr) (ms : List Nat), Same H H' → H' p = some (.lst (ms.map natV)) → (∀ x, x ∈ ms ↔ x ∈ needsM ks k i light side made) → Q (.ref p) H'
theorem ints_nat : ∀ (ms : List Int) (ns : List Nat), (∀ x, x ∈ ms ↔ x ∈ ns.map fun (n : Nat) => (n : Int)) → ∃ ls : List Nat, ms = ls.map (fun (n : Nat) => (n : Int)) ∧ ∀ x, x ∈ ls ↔ x ∈ ns := by
  intro ms ns h
  have h0 : ∀ x ∈ ms, 0 ≤ x := fun x hx => by
    obtain ⟨n, _, e⟩ := List.mem_map.mp ((h x).mp hx)
    omega
  have e : ms = (ms.map Int.toNat).map fun (n : Nat) => (n : Int) := by
    rw [List.map_map]
    have q : ms.map id = ms := List.map_id ms
    conv => lhs; rw [← q]
    refine List.map_congr_left fun x hx => ?_
    have := h0 x hx
    show x = ((x.toNat : Nat) : Int)
    omega
  refine ⟨ms.map Int.toNat, e, fun x => ?_⟩
  constructor
  · intro hx
    obtain ⟨y, hy, ey⟩ := List.mem_map.mp hx
    obtain ⟨n, hn, en⟩ := List.mem_map.mp ((h y).mp hy)
    have : x = n := by omega
    rw [this]
    exact hn
  · intro hx
    have := (h (x : Int)).mpr (List.mem_map.mpr ⟨x, hx, rfl⟩)
    exact List.mem_map.mpr ⟨_, this, by omega⟩
theorem ok_ways_apart {f : Addr} {fd : FuncData} (F : Fun K "ways_apart" "ways_apart" st_ways_apart f fd) (T : Txt K mg CK CR aS) (D_views : DefOk P w K mg base 4 "views" ["kind", "light", "side"] (spViews CK K))
    (D_cells_apart : DefOk P w K mg base 2 "cells_apart" ["look", "other"] spApart) : FnOk P w K mg base CX0 5 f fd ["kinds", "i", "light", "side", "shape_made_out"] (spWays CK K) := by
  refine F.ok sc_ways_apart (fun vs H Q E h => ?_) (fun cdv A outer s H vs Q E hr h => ?_)
  · obtain ⟨kv, ks, i, light, side, made, x, rfl, _⟩ := h
    rfl
  · obtain ⟨kv, ks, i, light, side, made, x, rfl, ⟨la, us, rfl, hus, hP⟩, h53, hk, k⟩ := h
    have hlen := paired_len hP
    have big : (66001 : Nat) ≤ sizeLine := by rw [sizeLine_eq]; decide
    obtain ⟨ux, hux, hatx⟩ := paired_of hP hk
    refine ⟨_, (pss_cons (ps_set (i := 5) sc_ways_apart.nd rfl (Or.inl rfl) (pe_fn D_views (hr.mono (by decide)) rfl (pa_cons (pe_ix (ix_listK K) (pv 0) (pv 1) (fun _ _ => rfl)) (pa_cons (pv 2) (pa_cons (pv 3) pa_nil)))))
      (pss_cons (ps_set (i := 6) sc_ways_apart.nd rfl (Or.inl rfl) (pe_lst pa_nil))
      (pss_cons (ps_for PassesOwn.never rfl (pi_enum rfl T.n_enumerate (pa_cons (pv 0) pa_nil)) (pg_tupK K 2 rfl (pgs_cons (pg_name (i := 7) sc_ways_apart.nd rfl (Or.inl rfl)) (pgs_cons (pg_name (i := 8) sc_ways_apart.nd rfl (Or.inl rfl)) pgs_nil)))
        (pss_cons (ps_cut (ps_set (i := 9) sc_ways_apart.nd rfl (Or.inl rfl) (pe_and (pv 4) (pe_one (pe_cmpR op_ne (pe_fk K (pv 8)) (pe_fk K (pe_ix (ix_listK K) (pv 0) (pv 1) (fun _ _ => rfl))) (nomark _))))))
        (pss_one (ps_if (pt_cut (PW.pt (pw_and (pt_cmpR op_ne (pv 7) (pv 1) (nomark _)) (pw_and1 (pt_not (pt_truthK K (pv 9) (fun _ => rfl)))))))
          (pss_one (ps_for PassesOwn.never rfl (pi_listK K (pe_fn D_views (hr.mono (by decide)) rfl (pa_cons (pv 8) (pa_cons (pv 2) (pa_cons (pv 3) pa_nil))))) (pg_name (i := 10) sc_ways_apart.nd rfl (Or.inr rfl))
            (pss_one (ps_expr (pe_bm PySem.F.plainAttrs_list PySem.F.slot_list_extend PySem.F.type_list_extend mt_extend (pv 6) (pa_cons (pe_lc (own := [("look", 11)]) rfl sc_ways_apart.nd (pi_listK K (pv 5)) (blkOk_by (by with_unfolding_all rfl)) (fun _ _ _ _ _ => (pg_name (i := 11) sc_ways_apart.nd rfl (Or.inl rfl))) (fun _ _ _ _ _ => pts_nil) (fun _ _ _ _ _ => (pe_fn D_cells_apart (hr.mono (by decide)) rfl (pa_cons (pv 11) (pa_cons (pv 10) pa_nil))))) pa_nil))))))
          pss_nil))))
      (pss_one (ps_ret (pe_callB (cr_sortedSet rfl) (by rfl) T.n_sorted boot_sorted5 (pa_cons (pe_callTy (cr_setI rfl) (by rfl) T.n_set boot_set5 (pa_cons (pv 6) pa_nil)) pa_nil))))))), ?_⟩
    refine ⟨_, rfl, _, rfl, la, _, _, _, rfl, rfl, hus, atI_nat (j := i) hux, _, rfl, _, rfl, ux, x, light, side, rfl, hatx, fun H1 lp s1 _ hlp => ?_⟩
    refine ⟨Nat.zero_le _, fun ap hap => ?_⟩
    have hus1 := s1.seq hus
    refine ⟨_, rfl, la, _, rfl, (Same.new hap).seq hus1, for_enum (K := K) (a := la) (xs := us) (fun j σ H' => (∃ n o t sh y, σ = [some (.ref la), some (natV i), some (natV light), some (natV side), some (.bl made), some (.ref lp), some (.ref ap), n, o, t, sh, y]) ∧ Same H1 H' ∧ H' ap = some (.lst ((needsTo ks x i light side made j).map natV)))
      ⟨⟨_, _, _, _, _, rfl⟩, Same.new hap, upd_same⟩ (fun j σ H' _ ⟨_, s2, _⟩ => s2.seq hus1) ?_ ?_⟩
    · rintro j u σ H' TT hu ⟨⟨n0, o0, t0, sh0, y0, rfl⟩, s2, hap'⟩ hT
      obtain ⟨o, ho, hato⟩ := paired_at hP hu
      have hj : j < ks.length := (List.getElem?_eq_some_iff.mp ho).1
      have s3 : Same H1 (upd H' TT (.tup [.int (j : Nat), u])) := s2.new' hT
      have hap3 : (upd H' TT (.tup [.int (j : Nat), u])) ap = some (.lst ((needsTo ks x i light side made j).map natV)) := (Same.new hT) _ _ hap'
      generalize hH3 : upd H' TT (.tup [.int (j : Nat), u]) = H3 at s3 hap3
      have hTT : H3 TT = some (.tup [.int (j : Nat), u]) := by rw [← hH3]; exact upd_same
      have hlenT := needsTo_len ks x i light side made j
      obtain ⟨ax, dx, tx, rfl, hx, _⟩ := hatx.mono (s1.trans s3)
      have hato3 := hato.mono (s1.trans s3)
      obtain ⟨ao, dz, tz, rfl, hoo, _⟩ := id hato3
      refine ⟨TT, _, rfl, SqT.of hTT, rfl, _, _, rfl, _, _, rfl, rfl, ?_⟩
      -- told by its shape
      refine ⟨fun σ' H4 => σ' = [some (.ref la), some (natV i), some (natV light), some (natV side), some (.bl made), some (.ref lp), some (.ref ap), some (.int (j : Nat)), some (.ref ao), some (.bl (made && decide (o.shape ≠ x.shape))), sh0, y0] ∧ H3 = H4, fun σ' H4 ⟨e1, e2⟩ => ?_, ?_⟩
      · subst e1 e2
        -- the test
        refine ⟨fun b H4 => b = decide (j ≠ i ∧ (made = true → o.shape = x.shape)) ∧ H3 = H4, fun b H4 ⟨eb, eh⟩ => ?_, ?_⟩
        · subst eb eh
          by_cases hc : j ≠ i ∧ (made = true → o.shape = x.shape)
          · rw [if_pos (decide_eq_true hc)]
            refine ⟨_, rfl, _, rfl, _, rfl, _, o, light, side, rfl, hato3, fun H5 q s5 hq h5 => ⟨q, rfl, ⟨_, SqL.of h5⟩, ?_⟩⟩
            have hap5 := s5 _ _ hap3
            refine for_list (K := K) (a := q) (xs := (viewsM light side o.look).map natV) (fun m σ H' => (∃ sh y, σ = [some (.ref la), some (natV i), some (natV light), some (natV side), some (.bl made), some (.ref lp), some (.ref ap), some (.int (j : Nat)), some (.ref ao), some (.bl (made && decide (o.shape ≠ x.shape))), sh, y]) ∧ Same H1 H' ∧ H' q = some (.lst ((viewsM light side o.look).map natV)) ∧ H' ap = some (.lst ((needsTo ks x i light side made j ++ needsOf x o light side m).map natV)))
              ⟨⟨_, _, rfl⟩, s3.trans s5, h5, by rw [show needsOf x o light side 0 = [] from rfl, List.append_nil]; exact hap5⟩ (fun m σ H' _ ⟨_, _, z, _⟩ => SqL.of z) ?_ ?_
            · rintro m v σ H6 hv ⟨⟨sh1, y1, rfl⟩, s6, hq6, hap6⟩
              rw [List.getElem?_map] at hv
              cases hvs : (viewsM light side o.look)[m]? with
              | none => rw [hvs] at hv; cases hv
              | some sv =>
                rw [hvs] at hv
                have ev : v = natV sv := (Option.some.inj hv).symm
                subst ev
                have hm2 : m < (viewsM light side o.look).length := (List.getElem?_eq_some_iff.mp hvs).1
                have hvl := viewsM_len light side o.look
                refine ⟨_, rfl, .inl ⟨rfl, _, SqL.of hap6⟩, ?_⟩
                dsimp only [tNext, tSeq, tIfS, tTest, tAsg, gName, tRet, tIf, tCB, tCons, tNil, tNot, tAnd, tOr, tAndV, tOrV, tDrop, tCall]
                refine lcT_same (ys := (viewsM light side x.look).map fun l => natV (Flags.differs l sv)) (fun _ z => ⟨_, rfl, z⟩) (SqL.of (s6 _ _ hlp)) (by simp) (any_len2 (viewsM_len _ _ _)) (fun c u2 y2 H7 R hu2 hy2 s7 hR => ?_) (fun H7 D s7 hD => ?_)
                · rw [List.getElem?_map] at hu2 hy2
                  cases hl : (viewsM light side x.look)[c]? with
                  | none => rw [hl] at hu2; cases hu2
                  | some l =>
                    rw [hl] at hu2 hy2
                    have e1 : u2 = natV l := (Option.some.inj hu2).symm
                    have e2 : y2 = natV (Flags.differs l sv) := (Option.some.inj hy2).symm
                    subst e1 e2
                    exact ⟨rfl, _, rfl, _, rfl, l, sv, rfl, fun H8 s8 => hR H8 s8⟩
                · have hap7 := s7 _ _ hap6
                  have nqa : q ≠ ap := by
                    intro z
                    rw [z, hap3] at hq
                    cases hq
                  have h1 := needsOf_len x o light side m
                  refine ⟨ap, D, _, _, rfl, rfl, hap7, hD, ?_, ?_⟩
                  · rw [List.length_map, List.length_map, List.length_append]
                    have := viewsM_len light side x.look
                    omega
                  · refine ⟨⟨_, _, rfl⟩, (s6.trans s7).upd hap, by rw [upd_ne nqa]; exact s7 _ _ hq6, ?_⟩
                    rw [upd_same, needsOf_succ hvs, ← List.append_assoc]
                    have e : ∀ (a : List Nat), a.map natV ++ (viewsM light side x.look).map (fun l => natV (Flags.differs l sv)) = (a ++ (viewsM light side x.look).map fun l => Flags.differs l sv).map natV := by
                      intro a
                      rw [List.map_append, List.map_map]
                      rfl
                    rw [← e]
            · rintro σ H6 ⟨⟨sh1, y1, rfl⟩, s6, hq6, hap6⟩
              refine ⟨⟨_, _, _, _, _, rfl⟩, s6, ?_⟩
              rw [List.length_map] at hap6
              rw [needsTo_succ ho, if_pos hc]
              exact hap6
          · rw [if_neg (fun z => hc (of_decide_eq_true z))]
            refine ⟨⟨_, _, _, _, _, rfl⟩, s3, ?_⟩
            rw [needsTo_succ ho, if_neg hc, List.append_nil]
            exact hap3
        · refine ⟨_, rfl, _, rfl, rfl, _, rfl, ?_⟩
          by_cases hji : j = i
          · refine ite_en (by rw [hji]) ?_
            exact ⟨by rw [decide_eq_false fun z => z.1 hji], rfl⟩
          · refine ite_nn (by omega) ?_
            refine ⟨_, rfl, _, rfl, ?_, rfl⟩
            by_cases hsh : o.shape = x.shape
            · rw [decide_eq_false (p := o.shape ≠ x.shape) (fun z => z hsh), Bool.and_false, decide_eq_true (p := j ≠ i ∧ (made = true → o.shape = x.shape)) ⟨hji, fun _ => hsh⟩]
              rfl
            · rw [decide_eq_true (p := o.shape ≠ x.shape) hsh, Bool.and_true]
              cases made with
              | true => rw [decide_eq_false (p := j ≠ i ∧ (true = true → o.shape = x.shape)) fun z => hsh (z.2 rfl)]; rfl
              | false => rw [decide_eq_true (p := j ≠ i ∧ (false = true → o.shape = x.shape)) ⟨hji, fun z => by cases z⟩]; rfl
      · refine ⟨_, rfl, _, rfl, ?_⟩
        cases made with
        | false => exact iteF ⟨rfl, rfl⟩
        | true =>
          refine iteT ?_
          refine ⟨_, rfl, ao, CK, dz, _, _, rfl, hoo, T.clK, T.nK_shape, kf_shape _ _ _ _ _ _, _, rfl, _, rfl, la, _, _, _, rfl, rfl, s3.seq hus1, atI_nat (j := i) hux, ax, CK, dx, _, _, rfl, hx, T.clK, T.nK_shape, kf_shape _ _ _ _ _ _, rfl, ?_, rfl⟩
          have e : (!decide (V.int ((o.shape : Nat) : Int) = V.int ((x.shape : Nat) : Int))) = (true && decide (o.shape ≠ x.shape)) := by
            rw [Bool.true_and]
            by_cases h : o.shape = x.shape
            · rw [decide_eq_false (p := o.shape ≠ x.shape) (fun z => z h), h]
              simp
            · rw [decide_eq_true (p := o.shape ≠ x.shape) h, decide_eq_false fun z => h (int_len z)]
              rfl
          rw [← e]
          rfl
    · rintro σ H' ⟨⟨n0, o0, t0, sh0, y0, rfl⟩, s2, hap'⟩
      rw [hlen, needsTo_all] at hap'
      have hl := needsTo_len ks x i light side made ks.length
      rw [needsTo_all] at hl
      refine ⟨_, rfl, ap, (needsM ks x i light side made).map (fun (n : Nat) => (n : Int)), rfl, SqL.of (by rw [hap', List.map_map]; rfl), by rw [List.length_map]; omega, fun ps S n hps hn hS => ?_⟩
      rw [List.length_map] at hn
      refine ⟨ps, S, n, rfl, upd_same, by omega, fun p ms hp hm _ => ?_⟩
      obtain ⟨ls, els, hls⟩ := ints_nat ms _ fun x => (hm x).trans (hS x)
      refine k _ p ls ((((s1.trans s2).new' hps)).new' hp) ?_ hls
      rw [upd_same, els, List.map_map]
      rfl
end
end Lk
namespace Lk
open PySem PySem.Spec PyProof.Rows L2
section
variable {P : Program} {w : World} {K : PySem.W.Frag} {mg : Str → Option Value} {base : Heap} {CK CR aS : Addr}
/-! ### meets_all -/
def spMeets (K : PySem.W.Frag) : Sp := fun vs H Q _ => ∃ (c : Nat) (a : Addr) (ms : List Nat), vs = [natV c, .ref a] ∧ SqL K H a (ms.map natV) ∧ Q (.bl (meets ms c)) H
theorem ok_meets_all {f : Addr} {fd : FuncData} (F : Fun K "meets_all" "meets_all" st_meets_all f fd) (T : Txt K mg CK CR aS) : FnOk P w K mg base CX0 1 f fd ["choice", "apart"] (spMeets K) := by
  refine F.ok sc_meets_all (fun vs H Q E h => ?_) (fun cdv A outer s H vs Q E hr h => ?_)
  · obtain ⟨c, a, ms, rfl, _⟩ := h
    rfl
  · obtain ⟨c, a, ms, rfl, ha, k⟩ := h
    refine ⟨_, (pss_cons (ps_for PassesOwn.never rfl (pi_listK K (pv 1)) (pg_name (i := 2) sc_meets_all.nd rfl (Or.inl rfl))
        (pss_one (ps_if (pt_cmpR op_eq (pe_op op_and (pv 0) (pv 2)) pe_int (nomark _))
          (pss_one (ps_ret pe_bl))
          pss_nil)))
      (pss_one (ps_ret pe_bl))), ?_⟩
    refine ⟨_, rfl, a, rfl, ⟨_, ha⟩, for_list (K := K) (a := a) (xs := ms.map natV) (fun i σ H' => H' = H ∧ (∃ y, σ = [some (natV c), some (.ref a), y]) ∧ ∀ j, j < i → ∀ y, ms[j]? = some y → decide (c &&& y ≠ 0) = true)
      ⟨rfl, ⟨_, rfl⟩, fun j hj => absurd hj (Nat.not_lt_zero _)⟩ (fun i σ H' _ p => by rw [p.1]; exact ha) ?_ ?_⟩
    · rintro i u σ H' hu ⟨rfl, ⟨y, rfl⟩, hall⟩
      rw [List.getElem?_map] at hu
      cases hm : ms[i]? with
      | none => rw [hm] at hu; cases hu
      | some m =>
        rw [hm] at hu
        have e : u = natV m := (Option.some.inj hu).symm
        subst e
        refine ⟨_, rfl, _, rfl, _, _, rfl, rfl, rfl, _, rfl, ?_⟩
        have ez := and_zero c m
        cases hz : decide (c &&& m = 0) with
        | true =>
          rw [hz] at ez
          refine (if_pos ez).mpr ?_
          refine Q_bl k ?_
          unfold meets
          rw [List.all_eq_false]
          refine ⟨m, List.mem_of_getElem? hm, ?_⟩
          have := of_decide_eq_true hz
          simp [this]
        | false =>
          rw [hz] at ez
          refine (if_neg (by rw [ez]; decide)).mpr ?_
          refine ⟨rfl, ⟨_, rfl⟩, fun j hj y hy => ?_⟩
          by_cases e : j = i
          · subst e
            rw [hm] at hy
            cases hy
            have := of_decide_eq_false hz
            exact decide_eq_true this
          · exact hall j (by omega) y hy
    · rintro σ H' ⟨rfl, ⟨y, rfl⟩, hall⟩
      refine Q_bl k ?_
      unfold meets
      rw [List.all_eq_true]
      intro m hm
      obtain ⟨j, hj, e⟩ := List.getElem_of_mem hm
      exact hall j (by rw [List.length_map]; exact hj) m (by rw [List.getElem?_eq_getElem hj, e])
/-! ### with_one_cell_more -/
def spMore (K : PySem.W.Frag) : Sp := fun vs H Q _ => ∃ (a : Addr) (cs : List Nat), vs = [.ref a] ∧ SqL K H a (cs.map natV) ∧ cs.length ≤ 65536 ∧ ∀ (H' : Hp) (p : Addr), Same H H' → H' p = some (.lst ((moreTo cs 16).map natV)) → Q (.ref p) H'
theorem ok_with_one_cell_more {f : Addr} {fd : FuncData} (F : Fun K "with_one_cell_more" "with_one_cell_more" st_with_one_cell_more f fd) (T : Txt K mg CK CR aS) : FnOk P w K mg base CX0 1 f fd ["choices"] (spMore K) := by
  refine F.ok sc_with_one_cell_more (fun vs H Q E h => ?_) (fun cdv A outer s H vs Q E hr h => ?_)
  · obtain ⟨a, cs, rfl, _⟩ := h
    rfl
  · obtain ⟨a, cs, rfl, ha, hz, k⟩ := h
    have big : (16000000 : Nat) ≤ sizeLine := by rw [sizeLine_eq]; decide
    refine ⟨_, (pss_cons (ps_set (i := 1) sc_with_one_cell_more.nd rfl (Or.inl rfl) (pe_lst pa_nil))
      (pss_cons (ps_set (i := 2) sc_with_one_cell_more.nd rfl (Or.inr rfl) pe_int)
      (pss_cons (ps_for PassesOwn.never rfl (pi_range1 rfl T.n_range (pa_cons (pe_gi rfl T.c_CELLS) pa_nil)) (pg_name (i := 3) sc_with_one_cell_more.nd rfl (Or.inl rfl))
        (pss_cons (ps_expr (pe_bm PySem.F.plainAttrs_list PySem.F.slot_list_extend PySem.F.type_list_extend mt_extend (pv 1) (pa_cons (pe_lc (own := [("choice", 4)]) rfl sc_with_one_cell_more.nd (pi_listK K (pv 0)) (blkOk_by (by with_unfolding_all rfl)) (fun _ _ _ _ _ => (pg_name (i := 4) sc_with_one_cell_more.nd rfl (Or.inl rfl))) (fun _ _ _ _ _ => (pts_one (pt_cmpR op_lt (pv 4) (pv 2) (nomark _)))) (fun _ _ _ _ _ => (pe_op op_add (pv 4) (pv 2)))) pa_nil)))
        (pss_one (ps_aug (i := 2) sc_with_one_cell_more.nd rfl (Or.inr rfl) pe_int ip_mul))))
      (pss_one (ps_ret (pv 1)))))), ?_⟩
    refine ⟨Nat.zero_le _, fun p hp => ?_⟩
    refine ⟨16, rfl, by decide, by decide, for_range (n := 16) (fun t σ H' => (∃ x y, σ = [some (.ref a), some (.ref p), some (natV (2 ^ t)), x, y]) ∧ Same H H' ∧ H' p = some (.lst ((moreTo cs t).map natV)))
      ⟨⟨_, _, rfl⟩, Same.new hp, upd_same⟩ ?_ ?_⟩
    · rintro t σ H' ht ⟨⟨x, y, rfl⟩, s1, h1⟩
      refine ⟨_, rfl, .inl ⟨rfl, _, SqL.of h1⟩, ?_⟩
      dsimp only [tNext, tSeq, tIfS, tTest, tAsg, gName, tRet, tIf, tCB, tCons, tNil, tNot, tAnd, tOr, tAndV, tOrV, tDrop, tCall]
      have ha1 := s1.seq ha
      refine lcT_filt (fun i => match cs[i]? with | some c => if decide (c < 2 ^ t) = true then some (natV (c + 2 ^ t)) else none | none => none) (fun _ z => ⟨_, rfl, z⟩) ha1 (by rw [List.length_map]; omega) (fun i u H3 F2 N hu s3 hR => ?_) (fun H3 D s3 hD => ?_)
      · rw [List.getElem?_map] at hu
        cases hc : cs[i]? with
        | none => rw [hc] at hu; cases hu
        | some c =>
          rw [hc] at hu
          have e : u = natV c := (Option.some.inj hu).symm
          subst e
          have hR := hR H3 (Same.refl _)
          rw [hc] at hR
          refine ⟨rfl, _, rfl, _, rfl, _, _, rfl, rfl, _, rfl, ?_⟩
          by_cases hlt : c < 2 ^ t
          · have e1 : decide ((c : Int) < ((2 ^ t : Nat) : Int)) = true := decide_eq_true (by omega)
            refine (if_pos e1).mpr ?_
            simp only [decide_eq_true hlt, if_true] at hR
            exact ⟨_, rfl, _, rfl, _, _, rfl, rfl, hR⟩
          · have e1 : ¬ decide ((c : Int) < ((2 ^ t : Nat) : Int)) = true := by
              intro z
              have := of_decide_eq_true z
              omega
            refine (if_neg e1).mpr ?_
            simp only [decide_eq_false hlt] at hR
            exact hR
      · have eD : (List.range (cs.map natV).length).filterMap (fun i => match cs[i]? with | some c => if decide (c < 2 ^ t) = true then some (natV (c + 2 ^ t)) else none | none => none) = ((cs.filter (fun x => decide (x < 2 ^ t))).map fun x => natV (x + 2 ^ t)) := by
          rw [List.length_map]
          refine filt_turns (fun x => decide (x < 2 ^ t)) (fun x => natV (x + 2 ^ t)) cs _ fun i x hx => ?_
          rw [hx]
        rw [eD] at hD
        have h3 := s3 _ _ h1
        have l1 := moreTo_len cs t
        have l2 : t * cs.length ≤ 16 * 65536 := Nat.mul_le_mul (by omega) hz
        have l3 := List.length_filter_le (fun x => decide (x < 2 ^ t)) cs
        refine ⟨p, D, _, _, rfl, rfl, h3, hD, ?_, ?_⟩
        · rw [List.length_map, List.length_map]
          omega
        · refine ⟨_, rfl, _, _, rfl, rfl, .inr ⟨by decide, by decide⟩, ?_⟩
          have e3 : ((2 ^ t : Nat) : Int) * 2 = ((2 ^ (t + 1) : Nat) : Int) := by rw [Nat.pow_succ]; omega
          refine ⟨⟨some (V.int (0 + (t : Int))), y, ?_⟩, (s1.trans s3).upd hp, ?_⟩
          · show [some (V.ref a), some (V.ref p), some (V.int (((2 ^ t : Nat) : Int) * 2)), _, _] = _
            rw [e3]
            rfl
          · rw [upd_same, moreTo_succ, List.map_append, List.map_map (l := cs.filter _)]
            rfl
    · rintro σ H' ⟨⟨x, y, rfl⟩, s1, h1⟩
      exact ⟨_, rfl, k H' p s1 h1⟩
/-! ### least_choice -/
def ToldIs (H : Hp) (v : V) (o : Option Nat) : Prop := match o with
  | none => v = .non
  | some c => ∃ t, v = .ref t ∧ H t = some (.tup [natV (Flags.ones c), natV c])
def spLeastC (CK : Addr) (K : PySem.W.Frag) : Sp := fun vs H Q _ => ∃ (kv : V) (ks : List Flags.Kind) (i light side : Nat) (made : Bool) (k : Flags.Kind), vs = [kv, natV i, natV light, natV side, .bl made] ∧ KsAt CK K H kv ks ∧ ks.length ≤ 53 ∧ ks[i]? = some k ∧
  ∀ (H' : Hp) (v : V) (ms : List Nat), (∀ x, x ∈ ms ↔ x ∈ needsM ks k i light side made) → ToldIs H' v (leastM ms) → Q v H'
theorem ok_least_choice {f : Addr} {fd : FuncData} (F : Fun K "least_choice" "least_choice" st_least_choice f fd) (T : Txt K mg CK CR aS) (D_ways_apart : DefOk P w K mg base 5 "ways_apart" ["kinds", "i", "light", "side", "shape_made_out"] (spWays CK K))
    (D_meets_all : DefOk P w K mg base 1 "meets_all" ["choice", "apart"] (spMeets K)) (D_with_one_cell_more : DefOk P w K mg base 1 "with_one_cell_more" ["choices"] (spMore K)) : FnOk P w K mg base CX0 6 f fd ["kinds", "i", "light", "side", "shape_made_out"] (spLeastC CK K) := by
  refine F.ok sc_least_choice (fun vs H Q E h => ?_) (fun cdv A outer s H vs Q E hr h => ?_)
  · obtain ⟨kv, ks, i, light, side, made, x, rfl, _⟩ := h
    rfl
  · obtain ⟨kv, ks, i, light, side, made, x, rfl, hks, h53, hk, k⟩ := h
    refine ⟨_, (pss_cons (ps_set (i := 5) sc_least_choice.nd rfl (Or.inl rfl) (pe_fn D_ways_apart (hr.mono (by decide)) rfl (pa_cons (pv 0) (pa_cons (pv 1) (pa_cons (pv 2) (pa_cons (pv 3) (pa_cons (pv 4) pa_nil)))))))
      (pss_cons (ps_if (pt_cmpR (op_inK K) pe_int (pv 5) (by with_unfolding_all rfl))
        (pss_one (ps_ret pe_non))
        pss_nil)
      (pss_cons (ps_set (i := 6) sc_least_choice.nd rfl (Or.inl rfl) (pe_lst (pa_cons pe_int pa_nil)))
      (pss_cons (ps_for PassesOwn.never rfl (pi_range1 rfl T.n_range (pa_cons (pe_op op_add (pe_gi rfl T.c_CELLS) pe_int) pa_nil)) (pg_name (i := 7) sc_least_choice.nd rfl (Or.inl rfl))
        (pss_cons (ps_for PassesOwn.never rfl (pi_listK K (pv 6)) (pg_name (i := 8) sc_least_choice.nd rfl (Or.inl rfl))
          (pss_one (ps_if (pt_truthK K (pe_fn D_meets_all (hr.mono (by decide)) rfl (pa_cons (pv 8) (pa_cons (pv 5) pa_nil))) (fun _ => rfl))
            (pss_one (ps_ret (pe_tup (pa_cons (pv 7) (pa_cons (pv 8) pa_nil)))))
            pss_nil)))
        (pss_one (ps_set (i := 6) sc_least_choice.nd rfl (Or.inl rfl) (pe_fn D_with_one_cell_more (hr.mono (by decide)) rfl (pa_cons (pv 6) pa_nil))))))
      (pss_one (ps_ret pe_non)))))), ?_⟩
    refine ⟨_, rfl, _, rfl, _, rfl, _, rfl, _, rfl, kv, ks, i, light, side, made, x, rfl, hks, h53, hk, fun H1 ap ms s1 hap hms => ?_⟩
    have k := fun H' v => k H' v ms hms
    refine ⟨_, rfl, ap, _, rfl, .inl (SqL.of hap), rfl, flat_nat ms, _, rfl, ?_⟩
    have e0 : inV (V.int 0) (ms.map natV) = ms.any fun u => decide (u = 0) := inV_nat 0 ms
    cases hz : (ms.any fun u => decide (u = 0)) with
    | true =>
      rw [hz] at e0
      refine (if_pos e0).mpr ?_
      refine k H1 .non ?_
      have : 0 ∈ ms := by
        obtain ⟨u, hu, e⟩ := List.any_eq_true.mp hz
        have : u = 0 := of_decide_eq_true e
        rw [← this]
        exact hu
      rw [least_zero this]
      rfl
    | false =>
      rw [hz] at e0
      refine (if_neg (by rw [e0]; decide)).mpr ?_
      refine ⟨(by show 1 ≤ sizeLine; decide), fun c0 hc0 => ?_⟩
      refine ⟨_, _, rfl, rfl, 17, rfl, by decide, by decide, for_range (n := 17) (fun n σ H' => (∃ ca y z, σ = [some kv, some (natV i), some (natV light), some (natV side), some (.bl made), some (.ref ap), some (.ref ca), y, z] ∧ H' ca = some (.lst ((Flags.withOnes n 16).map natV))) ∧ Same H1 H' ∧ ∀ m, m < n → (Flags.withOnes m 16).find? (meets ms) = none)
        ⟨⟨c0, _, _, rfl, by rw [upd_same, withOnes_zero]; rfl⟩, Same.new hc0, fun m hm => absurd hm (Nat.not_lt_zero _)⟩ ?_ ?_⟩
      · rintro n σ H' hn ⟨⟨ca, y, z, rfl, hca⟩, s2, hno⟩
        refine ⟨_, rfl, ca, rfl, ⟨_, SqL.of hca⟩, for_list (K := K) (a := ca) (xs := (Flags.withOnes n 16).map natV) (fun j σ H2 => H2 = H' ∧ (∃ z, σ = [some kv, some (natV i), some (natV light), some (natV side), some (.bl made), some (.ref ap), some (.ref ca), some (.int (0 + (n : Int))), z]) ∧ ∀ l, l < j → ∀ c, (Flags.withOnes n 16)[l]? = some c → meets ms c = false)
          ⟨rfl, ⟨_, rfl⟩, fun l hl => absurd hl (Nat.not_lt_zero _)⟩ (fun j σ H2 _ p => by rw [p.1]; exact SqL.of hca) ?_ ?_⟩
        · rintro j u σ H2 hu ⟨rfl, ⟨z1, rfl⟩, hbef⟩
          rw [List.getElem?_map] at hu
          cases hc : (Flags.withOnes n 16)[j]? with
          | none => rw [hc] at hu; cases hu
          | some c =>
            rw [hc] at hu
            have e : u = natV c := (Option.some.inj hu).symm
            subst e
            refine ⟨_, rfl, _, rfl, c, ap, ms, rfl, SqL.of (s2 _ _ hap), _, rfl, ?_⟩
            cases hm : meets ms c with
            | true =>
              refine iteT ?_
              obtain ⟨q1, q2⟩ := least_at hn hno hc hm hbef
              refine ⟨_, rfl, _, rfl, (by show 2 ≤ sizeLine; decide), fun t ht => k _ (.ref t) ?_⟩
              rw [q1]
              refine ⟨t, rfl, ?_⟩
              rw [upd_same, q2, show (0 : Int) + (n : Int) = ((n : Nat) : Int) by omega]
              rfl
            | false =>
              refine iteF ?_
              refine ⟨rfl, ⟨_, rfl⟩, fun l hl y hy => ?_⟩
              by_cases e : l = j
              · subst e
                rw [hc] at hy
                cases hy
                exact hm
              · exact hbef l (by omega) y hy
        · rintro σ H2 ⟨rfl, ⟨z1, rfl⟩, hbef⟩
          refine ⟨_, rfl, ca, Flags.withOnes n 16, rfl, SqL.of hca, Nat.le_trans (withOnes_len 16 n) (by decide), fun H3 p s3 hp => ?_⟩
          refine ⟨⟨p, _, _, rfl, by rw [hp, more_ones n 16 (Nat.le_refl _)]⟩, s2.trans s3, fun m hm => ?_⟩
          by_cases e : m = n
          · subst e
            refine find_no fun l y hy => hbef l ?_ y hy
            rw [List.length_map]
            exact (List.getElem?_eq_some_iff.mp hy).1
          · exact hno m (by omega)
      · rintro σ H' ⟨⟨ca, y, z, rfl, hca⟩, s2, hno⟩
        refine k H' .non ?_
        rw [show leastM ms = none from findS_no hno]
        rfl
end
end Lk
namespace Lk
open PySem PySem.Spec PyProof.Rows L2
section
variable {P : Program} {w : World} {K : PySem.W.Frag} {mg : Str → Option Value} {base : Heap} {CK CR aS : Addr}
def leastR (i light side made : Nat) (ks : List Flags.Kind) : Flags.Reply := if 2 < side ∨ 1 < made then Flags.says (-1) else match ks[i]? with
  | some k => match leastM (needsM ks k i light side (made == 1)) with
    | some c => Flags.tells (Flags.ones c : Nat) [c]
    | none => Flags.says (-5)
  | none => Flags.says (-4)
theorem leastM_congr {a b : List Nat} (h : ∀ x, x ∈ a ↔ x ∈ b) : leastM a = leastM b := by
  have e : meets a = meets b := by
    funext c
    unfold meets
    rw [Bool.eq_iff_iff, List.all_eq_true, List.all_eq_true]
    exact ⟨fun q x hx => q x ((h x).mpr hx), fun q x hx => q x ((h x).mp hx)⟩
  unfold leastM
  rw [e]
theorem least_due {i light side made : Nat} {ns : List Int} (h : ∀ x ∈ ns, 0 ≤ x ∧ x ≤ 255) : PyWqbacs.least (i : Int) (light : Int) (side : Int) (made : Int) ns = if 65536 < (toB ns).length then [(-2 : Int)] else match judgeK (toB ns) with
    | .error _ => [(-6 : Int)]
    | .ok ks => rowOf (leastR i light side made ks) := by
  have e1 : FlagANeutral.callOf [[9, (i : Int), (light : Int), (side : Int), (made : Int)], ns] = some (.least (toB ns) i light side made) := by
    show (do return FlagsA.Call.least (← FlagANeutral.text? ns) (← FlagANeutral.nat? (i : Int)) (← FlagANeutral.nat? (light : Int)) (← FlagANeutral.nat? (side : Int)) (← FlagANeutral.nat? (made : Int))) = _
    rw [text_some h, nat_cast, nat_cast, nat_cast, nat_cast]
    rfl
  unfold PyWqbacs.least FlagANeutral.f
  rw [e1]
  show rowOf (FlagsA.answer (.least (toB ns) i light side made)) = _
  have e2 : FlagsA.answer (.least (toB ns) i light side made) = Flags.ofLocker (toB ns) (fun L => leastR i light side made L.kinds) := by
    show Flags.ofLocker (toB ns) (fun L => if 2 < side ∨ 1 < made then Flags.BAD else FlagsA.ofKind L i fun _ => match L.least i light side (made == 1) with | some c => Flags.tells (Flags.ones c : Nat) [c] | none => Flags.NONE) = _
    refine congrArg (Flags.ofLocker (toB ns)) (funext fun L => ?_)
    unfold FlagsA.ofKind leastR
    by_cases hs : 2 < side ∨ 1 < made
    · rw [if_pos hs, if_pos hs]
      rfl
    · rw [if_neg hs, if_neg hs]
      cases hk : L.kinds[i]? with
      | none => rfl
      | some x =>
        show (match L.least i light side (made == 1) with | some c => Flags.tells (Flags.ones c : Nat) [c] | none => Flags.NONE) = _
        rw [least_eq (apart := needsM L.kinds x i light side (made == 1)) hk (by omega) fun _ => Iff.rfl]
        rfl
  rw [e2, ofLocker_eq (toB ns) (leastR i light side made)]
  by_cases hl : 65536 < (toB ns).length
  · rw [if_pos hl, if_pos hl]
    rfl
  · rw [if_neg hl, if_neg hl]
    cases judgeK (toB ns) <;> rfl
def spLeastL (K : PySem.W.Frag) : Sp := fun vs H Q _ => ∃ (i : Int) (light : Int) (side : Int) (made : Int) (ad_t : Addr) (t : List Int), vs = [.int i, .int light, .int side, .int made, .ref ad_t] ∧ 0 ≤ i ∧ 0 ≤ light ∧ 0 ≤ side ∧ 0 ≤ made ∧ SqL K H ad_t (t.map V.int) ∧ t.length ≤ 66000 ∧ (∀ x ∈ t, 0 ≤ x ∧ x ≤ 255) ∧
  ∀ (H' : Hp) (p : Addr), H' p = some (.lst ((PyWqbacs.least i light side made t).map V.int)) → Q (.ref p) H'
theorem ok_least {f : Addr} {fd : FuncData} (F : Fun K "least" "least" st_least f fd) (T : Txt K mg CK CR aS) (D_read_text : DefOk P w K mg base 5 "read_text" ["t"] (spRead CK CR K))
    (D_refusal_of_kind : DefOk P w K mg base 2 "refusal_of_kind" ["i", "reading", "within"] (spRefK CK CR K)) (D_least_choice : DefOk P w K mg base 6 "least_choice" ["kinds", "i", "light", "side", "shape_made_out"] (spLeastC CK K)) :
    FnOk P w K mg base CX0 7 f fd ["i", "light", "side", "made", "t"] (spLeastL K) := by
  refine F.ok sc_least (fun vs H Q E h => ?_) (fun cdv A outer s H vs Q E hr h => ?_)
  · obtain ⟨i, light, side, made, a, ns, rfl, _⟩ := h
    rfl
  · obtain ⟨i, light, side, made, a, ns, rfl, h0, h1, h2, h3, hs, hz, hb, k⟩ := h
    obtain ⟨n, rfl⟩ := Int.eq_ofNat_of_zero_le h0
    obtain ⟨g, rfl⟩ := Int.eq_ofNat_of_zero_le h1
    obtain ⟨sd, rfl⟩ := Int.eq_ofNat_of_zero_le h2
    obtain ⟨md, rfl⟩ := Int.eq_ofNat_of_zero_le h3
    have hdue := least_due (i := n) (light := g) (side := sd) (made := md) hb
    refine ⟨_, (pss_cons (ps_set (i := 5) sc_least.nd rfl (Or.inl rfl) (pe_fn D_read_text (hr.mono (by decide)) rfl (pa_cons (pv 4) pa_nil)))
      (pss_cons (ps_set (i := 6) sc_least.nd rfl (Or.inl rfl) (pe_fn D_refusal_of_kind (hr.mono (by decide)) rfl (pa_cons (pv 0) (pa_cons (pv 5) (pa_cons (pe_cut (pe_and (pe_cmpR op_le (pv 2) (pe_gi rfl T.c_SIDE_NOT_KNOWN) (nomark _)) (pe_one (pe_cmpR op_le (pv 3) (pe_gi rfl T.c_SHAPE_MADE_OUT) (nomark _))))) pa_nil)))))
      (pss_cons (ps_if (pt_cmpR op_ne (pv 6) (pe_gi rfl T.c_READ) (nomark _))
        (pss_one (ps_ret (pe_lst (pa_cons (pv 6) pa_nil))))
        pss_nil)
      (pss_cons (ps_set (i := 7) sc_least.nd rfl (Or.inl rfl) (pe_fn D_least_choice (hr.mono (by decide)) rfl (pa_cons (pe_fk K (pv 5)) (pa_cons (pv 0) (pa_cons (pv 1) (pa_cons (pv 2) (pa_cons (pe_cmpR op_eq (pv 3) (pe_gi rfl T.c_SHAPE_MADE_OUT) (nomark _)) pa_nil)))))))
      (pss_one (ps_ret (pe_ifExp (pt_cmpR op_isN (pv 7) pe_non (nomark _)) (pe_lst (pa_cons (pe_gi rfl T.c_NONE) pa_nil)) (pe_callTy (call_listK K) (by rfl) T.n_list boot_list5 (pa_cons (pv 7) pa_nil))))))))), ?_⟩
    refine ⟨_, rfl, _, toB ns, rfl, ⟨a, rfl, by rw [← toB_V hb]; exact hs⟩, by rw [toB_len]; exact hz, fun H1 v1 s1 hr1 => ?_⟩
    refine ⟨_, rfl, _, rfl, fun v H' => v = .bl (decide (sd ≤ 2 ∧ md ≤ 1)) ∧ H' = H1, fun v H' ⟨e1, e2⟩ => ?_, ?_⟩
    · subst e1 e2
      rcases hr1.cases with ⟨hl, hra⟩ | ⟨hl, e, f, l, hj, hra⟩ | ⟨hl, ks, hj, hra⟩
      · rw [if_pos hl] at hdue
        refine ⟨n, v1, _, _, _, _, _, rfl, hra, ?_⟩
        refine ⟨_, rfl, rfl, _, rfl, ite_nn (by unfold refKM refM; simp) ?_⟩
        refine ⟨_, rfl, (by show 1 ≤ sizeLine; decide), fun q hq => k _ q ?_⟩
        rw [upd_same, hdue]
        rfl
      · rw [if_neg hl, hj] at hdue
        refine ⟨n, v1, _, _, _, _, _, rfl, hra, ?_⟩
        refine ⟨_, rfl, rfl, _, rfl, ite_nn (by unfold refKM refM; simp) ?_⟩
        refine ⟨_, rfl, (by show 1 ≤ sizeLine; decide), fun q hq => k _ q ?_⟩
        rw [upd_same, hdue]
        rfl
      · rw [if_neg hl, hj] at hdue
        have hdue : PyWqbacs.least (n : Int) (g : Int) (sd : Int) (md : Int) ns = rowOf (leastR n g sd md ks) := hdue
        refine ⟨n, v1, _, _, _, ks, _, rfl, hra, ?_⟩
        unfold refKM
        by_cases hin : sd ≤ 2 ∧ md ≤ 1
        · have e0 : refM 0 (decide (sd ≤ 2 ∧ md ≤ 1)) = 0 := by
            rw [decide_eq_true hin]
            rfl
          have hout : ¬ (2 < sd ∨ 1 < md) := by omega
          rw [e0]
          cases hk : ks[n]? with
          | none =>
            have hn : ks.length ≤ n := List.getElem?_eq_none_iff.mp hk
            rw [if_pos ⟨rfl, hn⟩]
            refine ⟨_, rfl, rfl, _, rfl, ite_nn (by decide) ?_⟩
            refine ⟨_, rfl, (by show 1 ≤ sizeLine; decide), fun q hq => k _ q ?_⟩
            rw [upd_same, hdue]
            unfold leastR
            rw [if_neg hout, hk]
            rfl
          | some x =>
            have hn : ¬ ks.length ≤ n := by have := (List.getElem?_eq_some_iff.mp hk).1; omega
            rw [if_neg (fun z => hn z.2)]
            refine ⟨_, rfl, rfl, _, rfl, ite_en rfl ?_⟩
            obtain ⟨p, dx, kv, rfl, hp, hks⟩ := id hra
            have eM : leastR n g sd md ks = match leastM (needsM ks x n g sd (md == 1)) with
                | some c => Flags.tells (Flags.ones c : Nat) [c]
                | none => Flags.says (-5) := by
              unfold leastR
              rw [if_neg hout, hk]
            have emd : decide (V.int ((md : Nat) : Int) = V.int 1) = (md == 1) := by
              by_cases h : md = 1
              · subst h; rfl
              · rw [decide_eq_false (p := V.int ((md : Nat) : Int) = V.int 1) fun z => h (by have := V.int.inj z; omega)]
                symm
                simpa using h
            refine ⟨_, rfl, p, CR, dx, _, _, rfl, hp, T.clR, T.nR_kinds, rf_kinds _ _ _ _, _, rfl, _, rfl, _, rfl, _, rfl, rfl, kv, ks, n, g, sd, (md == 1), x, ?_, hks, judgeK_few hj, hk, fun H2 v ms hms hv => ?_⟩
            · rw [emd]
              rfl
            · rw [leastM_congr hms] at hv
              cases hlm : leastM (needsM ks x n g sd (md == 1)) with
              | none =>
                rw [hlm] at hv eM
                have hv : v = .non := hv
                subst hv
                refine ⟨_, rfl, rfl, _, rfl, iteT ?_⟩
                refine ⟨(by show 1 ≤ sizeLine; decide), fun q hq => k _ q ?_⟩
                rw [upd_same, hdue, eM]
                rfl
              | some c =>
                rw [hlm] at hv eM
                obtain ⟨t, rfl, ht⟩ := hv
                refine ⟨_, rfl, rfl, _, rfl, iteF ?_⟩
                refine ⟨_, rfl, t, _, rfl, .inr (SqT.of ht), fun q hq => k _ q ?_⟩
                rw [upd_same, hdue, eM]
                rfl
        · have e0 : refM 0 (decide (sd ≤ 2 ∧ md ≤ 1)) = -1 := by
            rw [decide_eq_false hin]
            rfl
          rw [e0, if_neg (fun z => absurd z.1 (by decide))]
          refine ⟨_, rfl, rfl, _, rfl, ite_nn (by decide) ?_⟩
          refine ⟨_, rfl, (by show 1 ≤ sizeLine; decide), fun q hq => k _ q ?_⟩
          rw [upd_same, hdue]
          unfold leastR
          rw [if_pos (by omega)]
          rfl
    · refine ⟨_, rfl, _, _, rfl, rfl, _, rfl, ?_⟩
      by_cases c1 : sd ≤ 2
      · rw [if_pos (decide_eq_true (by omega))]
        refine ⟨_, rfl, _, _, rfl, rfl, ?_, rfl⟩
        have e : decide ((md : Int) ≤ 1) = decide (sd ≤ 2 ∧ md ≤ 1) := decide_eq_decide.mpr ⟨fun z => ⟨c1, by omega⟩, fun z => by omega⟩
        rw [← e]
      · rw [if_neg (fun z => c1 (by have := of_decide_eq_true z; omega)), decide_eq_false (fun z => c1 z.1)]
        exact ⟨rfl, rfl⟩
end
end Lk
namespace Lk
open PySem PySem.Spec PyProof.Rows L2
theorem all_mk {P : Program} {w : World} {K : PySem.W.Frag} {h : Heap} {mg : Str → Option Value} {fa : Addr} (X : K.In h) (G : h.Ns mainGlobals mg) (hfa : mg "least" = some (.ref fa))
    {t_CELLS : Tok}
    {t_COLOURS : Tok}
    {t_ROW : Tok}
    {t_READ : Tok}
    {t_TOO_LONG : Tok}
    {t_NO_LOCKER : Tok}
    {t_SIGN : Tok}
    {t_SAME : Tok}
    {t_ANSWER : Tok}
    {t_SOUND : Tok}
    {t_MISPLACED : Tok}
    {t_REPEATED : Tok}
    {t_ONE_SIGN_TOO_MANY : Tok}
    {t_LOOKS_LIKE_ANOTHER : Tok}
    {t_MOST_BYTES : Tok}
    {t_MOST_SIGNS : Tok}
    {t_MOST_COPIES : Tok}
    {t_MOST_REPEAT : Tok}
    {t_LONGEST_NAME : Tok}
    {t_LINE_END : Tok}
    {t_BLANK : Tok}
    {t_FRONT : Tok}
    {t_BEHIND : Tok}
    {t_SIDE_NOT_KNOWN : Tok}
    {t_SHAPE_MADE_OUT : Tok}
    {t_OUT_OF_BOUNDS : Tok}
    {t_NO_SUCH_KIND : Tok}
    {t_NONE : Tok}
    {aS : Addr} {dS : Option Addr} {ts1 ts2 ts3 : Tok} {nS : Nat} {slS : Array (Option Value)}
    {f_digits_of : Addr} {od_digits_of an_digits_of : Option Addr} {sl_digits_of : Array (Option Value)} {oc_digits_of kV_digits_of dc_digits_of pm_digits_of cd_digits_of ct_digits_of : Value}
    {f_number_of : Addr} {od_number_of an_number_of : Option Addr} {sl_number_of : Array (Option Value)} {oc_number_of kV_number_of dc_number_of pm_number_of cd_number_of ct_number_of : Value}
    {f_in_light : Addr} {od_in_light an_in_light : Option Addr} {sl_in_light : Array (Option Value)} {oc_in_light kV_in_light dc_in_light pm_in_light cd_in_light ct_in_light : Value}
    {f_mirrored : Addr} {od_mirrored an_mirrored : Option Addr} {sl_mirrored : Array (Option Value)} {oc_mirrored kV_mirrored dc_mirrored pm_mirrored cd_mirrored ct_mirrored : Value}
    {f_from_behind : Addr} {od_from_behind an_from_behind : Option Addr} {sl_from_behind : Array (Option Value)} {oc_from_behind kV_from_behind dc_from_behind pm_from_behind cd_from_behind ct_from_behind : Value}
    {f_cells_apart : Addr} {od_cells_apart an_cells_apart : Option Addr} {sl_cells_apart : Array (Option Value)} {oc_cells_apart kV_cells_apart dc_cells_apart pm_cells_apart cd_cells_apart ct_cells_apart : Value}
    {f_is_name_byte : Addr} {od_is_name_byte an_is_name_byte : Option Addr} {sl_is_name_byte : Array (Option Value)} {oc_is_name_byte kV_is_name_byte dc_is_name_byte pm_is_name_byte cd_is_name_byte ct_is_name_byte : Value}
    {f_colour_told : Addr} {od_colour_told an_colour_told : Option Addr} {sl_colour_told : Array (Option Value)} {oc_colour_told kV_colour_told dc_colour_told pm_colour_told cd_colour_told ct_colour_told : Value}
    {f_digit_to : Addr} {od_digit_to an_digit_to : Option Addr} {sl_digit_to : Array (Option Value)} {oc_digit_to kV_digit_to dc_digit_to pm_digit_to cd_digit_to ct_digit_to : Value}
    {f_spelled : Addr} {od_spelled an_spelled : Option Addr} {sl_spelled : Array (Option Value)} {oc_spelled kV_spelled dc_spelled pm_spelled cd_spelled ct_spelled : Value}
    {f_is_name : Addr} {od_is_name an_is_name : Option Addr} {sl_is_name : Array (Option Value)} {oc_is_name kV_is_name dc_is_name pm_is_name cd_is_name ct_is_name : Value}
    {f_shape_told : Addr} {od_shape_told an_shape_told : Option Addr} {sl_shape_told : Array (Option Value)} {oc_shape_told kV_shape_told dc_shape_told pm_shape_told cd_shape_told ct_shape_told : Value}
    {f_look_told : Addr} {od_look_told an_look_told : Option Addr} {sl_look_told : Array (Option Value)} {oc_look_told kV_look_told dc_look_told pm_look_told cd_look_told ct_look_told : Value}
    {CK : Addr}
    {f_Kind : Addr} {od_Kind an_Kind : Option Addr} {sl_Kind : Array (Option Value)} {oc_Kind kV_Kind dc_Kind pm_Kind cd_Kind ct_Kind : Value}
    {CR : Addr}
    {f_Reading : Addr} {od_Reading an_Reading : Option Addr} {sl_Reading : Array (Option Value)} {oc_Reading kV_Reading dc_Reading pm_Reading cd_Reading ct_Reading : Value}
    {f_split_at : Addr} {od_split_at an_split_at : Option Addr} {sl_split_at : Array (Option Value)} {oc_split_at kV_split_at dc_split_at pm_split_at cd_split_at ct_split_at : Value}
    {f_is_locker_line : Addr} {od_is_locker_line an_is_locker_line : Option Addr} {sl_is_locker_line : Array (Option Value)} {oc_is_locker_line kV_is_locker_line dc_is_locker_line pm_is_locker_line cd_is_locker_line ct_is_locker_line : Value}
    {f_kind_with : Addr} {od_kind_with an_kind_with : Option Addr} {sl_kind_with : Array (Option Value)} {oc_kind_with kV_kind_with dc_kind_with pm_kind_with cd_kind_with ct_kind_with : Value}
    {f_kind_told : Addr} {od_kind_told an_kind_told : Option Addr} {sl_kind_told : Array (Option Value)} {oc_kind_told kV_kind_told dc_kind_told pm_kind_told cd_kind_told ct_kind_told : Value}
    {f_may_follow : Addr} {od_may_follow an_may_follow : Option Addr} {sl_may_follow : Array (Option Value)} {oc_may_follow kV_may_follow dc_may_follow pm_may_follow cd_may_follow ct_may_follow : Value}
    {f_is_repeated : Addr} {od_is_repeated an_is_repeated : Option Addr} {sl_is_repeated : Array (Option Value)} {oc_is_repeated kV_is_repeated dc_is_repeated pm_is_repeated cd_is_repeated ct_is_repeated : Value}
    {f_has_sign : Addr} {od_has_sign an_has_sign : Option Addr} {sl_has_sign : Array (Option Value)} {oc_has_sign kV_has_sign dc_has_sign pm_has_sign cd_has_sign ct_has_sign : Value}
    {f_fault_behind : Addr} {od_fault_behind an_fault_behind : Option Addr} {sl_fault_behind : Array (Option Value)} {oc_fault_behind kV_fault_behind dc_fault_behind pm_fault_behind cd_fault_behind ct_fault_behind : Value}
    {f_no_locker : Addr} {od_no_locker an_no_locker : Option Addr} {sl_no_locker : Array (Option Value)} {oc_no_locker kV_no_locker dc_no_locker pm_no_locker cd_no_locker ct_no_locker : Value}
    {f_read_text : Addr} {od_read_text an_read_text : Option Addr} {sl_read_text : Array (Option Value)} {oc_read_text kV_read_text dc_read_text pm_read_text cd_read_text ct_read_text : Value}
    {f_refusal_of : Addr} {od_refusal_of an_refusal_of : Option Addr} {sl_refusal_of : Array (Option Value)} {oc_refusal_of kV_refusal_of dc_refusal_of pm_refusal_of cd_refusal_of ct_refusal_of : Value}
    {f_refusal_of_kind : Addr} {od_refusal_of_kind an_refusal_of_kind : Option Addr} {sl_refusal_of_kind : Array (Option Value)} {oc_refusal_of_kind kV_refusal_of_kind dc_refusal_of_kind pm_refusal_of_kind cd_refusal_of_kind ct_refusal_of_kind : Value}
    {f_view : Addr} {od_view an_view : Option Addr} {sl_view : Array (Option Value)} {oc_view kV_view dc_view pm_view cd_view ct_view : Value}
    {f_views : Addr} {od_views an_views : Option Addr} {sl_views : Array (Option Value)} {oc_views kV_views dc_views pm_views cd_views ct_views : Value}
    {f_ways_apart : Addr} {od_ways_apart an_ways_apart : Option Addr} {sl_ways_apart : Array (Option Value)} {oc_ways_apart kV_ways_apart dc_ways_apart pm_ways_apart cd_ways_apart ct_ways_apart : Value}
    {f_meets_all : Addr} {od_meets_all an_meets_all : Option Addr} {sl_meets_all : Array (Option Value)} {oc_meets_all kV_meets_all dc_meets_all pm_meets_all cd_meets_all ct_meets_all : Value}
    {f_with_one_cell_more : Addr} {od_with_one_cell_more an_with_one_cell_more : Option Addr} {sl_with_one_cell_more : Array (Option Value)} {oc_with_one_cell_more kV_with_one_cell_more dc_with_one_cell_more pm_with_one_cell_more cd_with_one_cell_more ct_with_one_cell_more : Value}
    {f_least_choice : Addr} {od_least_choice an_least_choice : Option Addr} {sl_least_choice : Array (Option Value)} {oc_least_choice kV_least_choice dc_least_choice pm_least_choice cd_least_choice ct_least_choice : Value}
    {f_least : Addr} {od_least an_least : Option Addr} {sl_least : Array (Option Value)} {oc_least kV_least dc_least pm_least cd_least ct_least : Value}
    (g_CELLS : PySem.W.nsIn K mainGlobals "CELLS" = some (some (.int (16) t_CELLS)))
    (g_COLOURS : PySem.W.nsIn K mainGlobals "COLOURS" = some (some (.int (16) t_COLOURS)))
    (g_ROW : PySem.W.nsIn K mainGlobals "ROW" = some (some (.int (4) t_ROW)))
    (g_READ : PySem.W.nsIn K mainGlobals "READ" = some (some (.int (0) t_READ)))
    (g_TOO_LONG : PySem.W.nsIn K mainGlobals "TOO_LONG" = some (some (.int (-2) t_TOO_LONG)))
    (g_NO_LOCKER : PySem.W.nsIn K mainGlobals "NO_LOCKER" = some (some (.int (-6) t_NO_LOCKER)))
    (g_SIGN : PySem.W.nsIn K mainGlobals "SIGN" = some (some (.int (0) t_SIGN)))
    (g_SAME : PySem.W.nsIn K mainGlobals "SAME" = some (some (.int (1) t_SAME)))
    (g_ANSWER : PySem.W.nsIn K mainGlobals "ANSWER" = some (some (.int (2) t_ANSWER)))
    (g_SOUND : PySem.W.nsIn K mainGlobals "SOUND" = some (some (.int (0) t_SOUND)))
    (g_MISPLACED : PySem.W.nsIn K mainGlobals "MISPLACED" = some (some (.int (1) t_MISPLACED)))
    (g_REPEATED : PySem.W.nsIn K mainGlobals "REPEATED" = some (some (.int (2) t_REPEATED)))
    (g_ONE_SIGN_TOO_MANY : PySem.W.nsIn K mainGlobals "ONE_SIGN_TOO_MANY" = some (some (.int (3) t_ONE_SIGN_TOO_MANY)))
    (g_LOOKS_LIKE_ANOTHER : PySem.W.nsIn K mainGlobals "LOOKS_LIKE_ANOTHER" = some (some (.int (4) t_LOOKS_LIKE_ANOTHER)))
    (g_MOST_BYTES : PySem.W.nsIn K mainGlobals "MOST_BYTES" = some (some (.int (65536) t_MOST_BYTES)))
    (g_MOST_SIGNS : PySem.W.nsIn K mainGlobals "MOST_SIGNS" = some (some (.int (48) t_MOST_SIGNS)))
    (g_MOST_COPIES : PySem.W.nsIn K mainGlobals "MOST_COPIES" = some (some (.int (8) t_MOST_COPIES)))
    (g_MOST_REPEAT : PySem.W.nsIn K mainGlobals "MOST_REPEAT" = some (some (.int (4) t_MOST_REPEAT)))
    (g_LONGEST_NAME : PySem.W.nsIn K mainGlobals "LONGEST_NAME" = some (some (.int (8) t_LONGEST_NAME)))
    (g_LINE_END : PySem.W.nsIn K mainGlobals "LINE_END" = some (some (.int (10) t_LINE_END)))
    (g_BLANK : PySem.W.nsIn K mainGlobals "BLANK" = some (some (.int (32) t_BLANK)))
    (g_FRONT : PySem.W.nsIn K mainGlobals "FRONT" = some (some (.int (0) t_FRONT)))
    (g_BEHIND : PySem.W.nsIn K mainGlobals "BEHIND" = some (some (.int (1) t_BEHIND)))
    (g_SIDE_NOT_KNOWN : PySem.W.nsIn K mainGlobals "SIDE_NOT_KNOWN" = some (some (.int (2) t_SIDE_NOT_KNOWN)))
    (g_SHAPE_MADE_OUT : PySem.W.nsIn K mainGlobals "SHAPE_MADE_OUT" = some (some (.int (1) t_SHAPE_MADE_OUT)))
    (g_OUT_OF_BOUNDS : PySem.W.nsIn K mainGlobals "OUT_OF_BOUNDS" = some (some (.int (-1) t_OUT_OF_BOUNDS)))
    (g_NO_SUCH_KIND : PySem.W.nsIn K mainGlobals "NO_SUCH_KIND" = some (some (.int (-4) t_NO_SUCH_KIND)))
    (g_NONE : PySem.W.nsIn K mainGlobals "NONE" = some (some (.int (-5) t_NONE)))
    (g_SHAPES : PySem.W.nsIn K mainGlobals "SHAPES" = some (some (.ref aS)))
    (l_SHAPES : K.lookup aS = some ⟨.type "tuple", dS, .seq #[.str "square" ts1, .str "tails" ts2, .str "long" ts3] nS, slS⟩)
    (z_len : PySem.W.nsIn K mainGlobals "len" = some none)
    (z_ord : PySem.W.nsIn K mainGlobals "ord" = some none)
    (z_any : PySem.W.nsIn K mainGlobals "any" = some none)
    (z_all : PySem.W.nsIn K mainGlobals "all" = some none)
    (z_sum : PySem.W.nsIn K mainGlobals "sum" = some none)
    (z_enumerate : PySem.W.nsIn K mainGlobals "enumerate" = some none)
    (z_reversed : PySem.W.nsIn K mainGlobals "reversed" = some none)
    (z_range : PySem.W.nsIn K mainGlobals "range" = some none)
    (z_zip : PySem.W.nsIn K mainGlobals "zip" = some none)
    (z_sorted : PySem.W.nsIn K mainGlobals "sorted" = some none)
    (z_set : PySem.W.nsIn K mainGlobals "set" = some none)
    (z_list : PySem.W.nsIn K mainGlobals "list" = some none)
    (a_digits_of : PySem.W.nsIn K mainGlobals "digits_of" = some (some (.ref f_digits_of)))
    (l_digits_of : K.lookup f_digits_of = some ⟨oc_digits_of, od_digits_of, .func (PySem.W.fnOf "digits_of" "digits_of" (defArgs st_digits_of) (defBody st_digits_of) (defScope st_digits_of) .none kV_digits_of dc_digits_of pm_digits_of an_digits_of cd_digits_of ct_digits_of), sl_digits_of⟩)
    (c_digits_of : PySem.W.codeIn K cd_digits_of "digits_of" = true)
    (k_digits_of : PySem.W.keepIn K (.ref f_digits_of) = true)
    (a_number_of : PySem.W.nsIn K mainGlobals "number_of" = some (some (.ref f_number_of)))
    (l_number_of : K.lookup f_number_of = some ⟨oc_number_of, od_number_of, .func (PySem.W.fnOf "number_of" "number_of" (defArgs st_number_of) (defBody st_number_of) (defScope st_number_of) .none kV_number_of dc_number_of pm_number_of an_number_of cd_number_of ct_number_of), sl_number_of⟩)
    (c_number_of : PySem.W.codeIn K cd_number_of "number_of" = true)
    (k_number_of : PySem.W.keepIn K (.ref f_number_of) = true)
    (a_in_light : PySem.W.nsIn K mainGlobals "in_light" = some (some (.ref f_in_light)))
    (l_in_light : K.lookup f_in_light = some ⟨oc_in_light, od_in_light, .func (PySem.W.fnOf "in_light" "in_light" (defArgs st_in_light) (defBody st_in_light) (defScope st_in_light) .none kV_in_light dc_in_light pm_in_light an_in_light cd_in_light ct_in_light), sl_in_light⟩)
    (c_in_light : PySem.W.codeIn K cd_in_light "in_light" = true)
    (k_in_light : PySem.W.keepIn K (.ref f_in_light) = true)
    (a_mirrored : PySem.W.nsIn K mainGlobals "mirrored" = some (some (.ref f_mirrored)))
    (l_mirrored : K.lookup f_mirrored = some ⟨oc_mirrored, od_mirrored, .func (PySem.W.fnOf "mirrored" "mirrored" (defArgs st_mirrored) (defBody st_mirrored) (defScope st_mirrored) .none kV_mirrored dc_mirrored pm_mirrored an_mirrored cd_mirrored ct_mirrored), sl_mirrored⟩)
    (c_mirrored : PySem.W.codeIn K cd_mirrored "mirrored" = true)
    (k_mirrored : PySem.W.keepIn K (.ref f_mirrored) = true)
    (a_from_behind : PySem.W.nsIn K mainGlobals "from_behind" = some (some (.ref f_from_behind)))
    (l_from_behind : K.lookup f_from_behind = some ⟨oc_from_behind, od_from_behind, .func (PySem.W.fnOf "from_behind" "from_behind" (defArgs st_from_behind) (defBody st_from_behind) (defScope st_from_behind) .none kV_from_behind dc_from_behind pm_from_behind an_from_behind cd_from_behind ct_from_behind), sl_from_behind⟩)
    (c_from_behind : PySem.W.codeIn K cd_from_behind "from_behind" = true)
    (k_from_behind : PySem.W.keepIn K (.ref f_from_behind) = true)
    (a_cells_apart : PySem.W.nsIn K mainGlobals "cells_apart" = some (some (.ref f_cells_apart)))
    (l_cells_apart : K.lookup f_cells_apart = some ⟨oc_cells_apart, od_cells_apart, .func (PySem.W.fnOf "cells_apart" "cells_apart" (defArgs st_cells_apart) (defBody st_cells_apart) (defScope st_cells_apart) .none kV_cells_apart dc_cells_apart pm_cells_apart an_cells_apart cd_cells_apart ct_cells_apart), sl_cells_apart⟩)
    (c_cells_apart : PySem.W.codeIn K cd_cells_apart "cells_apart" = true)
    (k_cells_apart : PySem.W.keepIn K (.ref f_cells_apart) = true)
    (a_is_name_byte : PySem.W.nsIn K mainGlobals "is_name_byte" = some (some (.ref f_is_name_byte)))
    (l_is_name_byte : K.lookup f_is_name_byte = some ⟨oc_is_name_byte, od_is_name_byte, .func (PySem.W.fnOf "is_name_byte" "is_name_byte" (defArgs st_is_name_byte) (defBody st_is_name_byte) (defScope st_is_name_byte) .none kV_is_name_byte dc_is_name_byte pm_is_name_byte an_is_name_byte cd_is_name_byte ct_is_name_byte), sl_is_name_byte⟩)
    (c_is_name_byte : PySem.W.codeIn K cd_is_name_byte "is_name_byte" = true)
    (k_is_name_byte : PySem.W.keepIn K (.ref f_is_name_byte) = true)
    (a_colour_told : PySem.W.nsIn K mainGlobals "colour_told" = some (some (.ref f_colour_told)))
    (l_colour_told : K.lookup f_colour_told = some ⟨oc_colour_told, od_colour_told, .func (PySem.W.fnOf "colour_told" "colour_told" (defArgs st_colour_told) (defBody st_colour_told) (defScope st_colour_told) .none kV_colour_told dc_colour_told pm_colour_told an_colour_told cd_colour_told ct_colour_told), sl_colour_told⟩)
    (c_colour_told : PySem.W.codeIn K cd_colour_told "colour_told" = true)
    (k_colour_told : PySem.W.keepIn K (.ref f_colour_told) = true)
    (a_digit_to : PySem.W.nsIn K mainGlobals "digit_to" = some (some (.ref f_digit_to)))
    (l_digit_to : K.lookup f_digit_to = some ⟨oc_digit_to, od_digit_to, .func (PySem.W.fnOf "digit_to" "digit_to" (defArgs st_digit_to) (defBody st_digit_to) (defScope st_digit_to) .none kV_digit_to dc_digit_to pm_digit_to an_digit_to cd_digit_to ct_digit_to), sl_digit_to⟩)
    (c_digit_to : PySem.W.codeIn K cd_digit_to "digit_to" = true)
    (k_digit_to : PySem.W.keepIn K (.ref f_digit_to) = true)
    (a_spelled : PySem.W.nsIn K mainGlobals "spelled" = some (some (.ref f_spelled)))
    (l_spelled : K.lookup f_spelled = some ⟨oc_spelled, od_spelled, .func (PySem.W.fnOf "spelled" "spelled" (defArgs st_spelled) (defBody st_spelled) (defScope st_spelled) .none kV_spelled dc_spelled pm_spelled an_spelled cd_spelled ct_spelled), sl_spelled⟩)
    (c_spelled : PySem.W.codeIn K cd_spelled "spelled" = true)
    (k_spelled : PySem.W.keepIn K (.ref f_spelled) = true)
    (a_is_name : PySem.W.nsIn K mainGlobals "is_name" = some (some (.ref f_is_name)))
    (l_is_name : K.lookup f_is_name = some ⟨oc_is_name, od_is_name, .func (PySem.W.fnOf "is_name" "is_name" (defArgs st_is_name) (defBody st_is_name) (defScope st_is_name) .none kV_is_name dc_is_name pm_is_name an_is_name cd_is_name ct_is_name), sl_is_name⟩)
    (c_is_name : PySem.W.codeIn K cd_is_name "is_name" = true)
    (k_is_name : PySem.W.keepIn K (.ref f_is_name) = true)
    (a_shape_told : PySem.W.nsIn K mainGlobals "shape_told" = some (some (.ref f_shape_told)))
    (l_shape_told : K.lookup f_shape_told = some ⟨oc_shape_told, od_shape_told, .func (PySem.W.fnOf "shape_told" "shape_told" (defArgs st_shape_told) (defBody st_shape_told) (defScope st_shape_told) .none kV_shape_told dc_shape_told pm_shape_told an_shape_told cd_shape_told ct_shape_told), sl_shape_told⟩)
    (c_shape_told : PySem.W.codeIn K cd_shape_told "shape_told" = true)
    (k_shape_told : PySem.W.keepIn K (.ref f_shape_told) = true)
    (a_look_told : PySem.W.nsIn K mainGlobals "look_told" = some (some (.ref f_look_told)))
    (l_look_told : K.lookup f_look_told = some ⟨oc_look_told, od_look_told, .func (PySem.W.fnOf "look_told" "look_told" (defArgs st_look_told) (defBody st_look_told) (defScope st_look_told) .none kV_look_told dc_look_told pm_look_told an_look_told cd_look_told ct_look_told), sl_look_told⟩)
    (c_look_told : PySem.W.codeIn K cd_look_told "look_told" = true)
    (k_look_told : PySem.W.keepIn K (.ref f_look_told) = true)
    (a_Kind : PySem.W.nsIn K mainGlobals "Kind" = some (some (.ref CK)))
    (i_Kind : PySem.W.findIn K (.ref CK) "__init__" = some (some (.ref f_Kind)))
    (l_Kind : K.lookup f_Kind = some ⟨oc_Kind, od_Kind, .func (PySem.W.fnOf "__init__" "Kind.__init__" (defArgs st_Kind___init__) (defBody st_Kind___init__) (defScope st_Kind___init__) .none kV_Kind dc_Kind pm_Kind an_Kind cd_Kind ct_Kind), sl_Kind⟩)
    (c_Kind : PySem.W.codeIn K cd_Kind "Kind.__init__" = true)
    (k_Kind : PySem.W.keepIn K (.ref f_Kind) = true)
    (n_Kind : PySem.W.isFn K (.ref f_Kind) = true)
    (pg_Kind : PySem.W.plainGet K CK Str.empty = true)
    (hd_Kind : PySem.W.hasDictIn K CK = true)
    (po_Kind : PySem.W.plainOver K CK = true)
    (sa_Kind : PySem.W.findIn K (.ref CK) "__setattr__" = some (some (.builtin "object.__setattr__")))
    (mk_Kind : PySem.W.makesIn K CK = true)
    (kc_Kind : PySem.W.keepIn K (.ref CK) = true)
    (na_Kind_group : PySem.W.findIn K (.ref CK) "group" = some none)
    (na_Kind_title : PySem.W.findIn K (.ref CK) "title" = some none)
    (na_Kind_repeat : PySem.W.findIn K (.ref CK) "repeat" = some none)
    (na_Kind_copies : PySem.W.findIn K (.ref CK) "copies" = some none)
    (na_Kind_shape : PySem.W.findIn K (.ref CK) "shape" = some none)
    (na_Kind_look : PySem.W.findIn K (.ref CK) "look" = some none)
    (a_Reading : PySem.W.nsIn K mainGlobals "Reading" = some (some (.ref CR)))
    (i_Reading : PySem.W.findIn K (.ref CR) "__init__" = some (some (.ref f_Reading)))
    (l_Reading : K.lookup f_Reading = some ⟨oc_Reading, od_Reading, .func (PySem.W.fnOf "__init__" "Reading.__init__" (defArgs st_Reading___init__) (defBody st_Reading___init__) (defScope st_Reading___init__) .none kV_Reading dc_Reading pm_Reading an_Reading cd_Reading ct_Reading), sl_Reading⟩)
    (c_Reading : PySem.W.codeIn K cd_Reading "Reading.__init__" = true)
    (k_Reading : PySem.W.keepIn K (.ref f_Reading) = true)
    (n_Reading : PySem.W.isFn K (.ref f_Reading) = true)
    (pg_Reading : PySem.W.plainGet K CR Str.empty = true)
    (hd_Reading : PySem.W.hasDictIn K CR = true)
    (po_Reading : PySem.W.plainOver K CR = true)
    (sa_Reading : PySem.W.findIn K (.ref CR) "__setattr__" = some (some (.builtin "object.__setattr__")))
    (mk_Reading : PySem.W.makesIn K CR = true)
    (kc_Reading : PySem.W.keepIn K (.ref CR) = true)
    (na_Reading_answer : PySem.W.findIn K (.ref CR) "answer" = some none)
    (na_Reading_fault : PySem.W.findIn K (.ref CR) "fault" = some none)
    (na_Reading_line : PySem.W.findIn K (.ref CR) "line" = some none)
    (na_Reading_kinds : PySem.W.findIn K (.ref CR) "kinds" = some none)
    (a_split_at : PySem.W.nsIn K mainGlobals "split_at" = some (some (.ref f_split_at)))
    (l_split_at : K.lookup f_split_at = some ⟨oc_split_at, od_split_at, .func (PySem.W.fnOf "split_at" "split_at" (defArgs st_split_at) (defBody st_split_at) (defScope st_split_at) .none kV_split_at dc_split_at pm_split_at an_split_at cd_split_at ct_split_at), sl_split_at⟩)
    (c_split_at : PySem.W.codeIn K cd_split_at "split_at" = true)
    (k_split_at : PySem.W.keepIn K (.ref f_split_at) = true)
    (a_is_locker_line : PySem.W.nsIn K mainGlobals "is_locker_line" = some (some (.ref f_is_locker_line)))
    (l_is_locker_line : K.lookup f_is_locker_line = some ⟨oc_is_locker_line, od_is_locker_line, .func (PySem.W.fnOf "is_locker_line" "is_locker_line" (defArgs st_is_locker_line) (defBody st_is_locker_line) (defScope st_is_locker_line) .none kV_is_locker_line dc_is_locker_line pm_is_locker_line an_is_locker_line cd_is_locker_line ct_is_locker_line), sl_is_locker_line⟩)
    (c_is_locker_line : PySem.W.codeIn K cd_is_locker_line "is_locker_line" = true)
    (k_is_locker_line : PySem.W.keepIn K (.ref f_is_locker_line) = true)
    (a_kind_with : PySem.W.nsIn K mainGlobals "kind_with" = some (some (.ref f_kind_with)))
    (l_kind_with : K.lookup f_kind_with = some ⟨oc_kind_with, od_kind_with, .func (PySem.W.fnOf "kind_with" "kind_with" (defArgs st_kind_with) (defBody st_kind_with) (defScope st_kind_with) .none kV_kind_with dc_kind_with pm_kind_with an_kind_with cd_kind_with ct_kind_with), sl_kind_with⟩)
    (c_kind_with : PySem.W.codeIn K cd_kind_with "kind_with" = true)
    (k_kind_with : PySem.W.keepIn K (.ref f_kind_with) = true)
    (a_kind_told : PySem.W.nsIn K mainGlobals "kind_told" = some (some (.ref f_kind_told)))
    (l_kind_told : K.lookup f_kind_told = some ⟨oc_kind_told, od_kind_told, .func (PySem.W.fnOf "kind_told" "kind_told" (defArgs st_kind_told) (defBody st_kind_told) (defScope st_kind_told) .none kV_kind_told dc_kind_told pm_kind_told an_kind_told cd_kind_told ct_kind_told), sl_kind_told⟩)
    (c_kind_told : PySem.W.codeIn K cd_kind_told "kind_told" = true)
    (k_kind_told : PySem.W.keepIn K (.ref f_kind_told) = true)
    (a_may_follow : PySem.W.nsIn K mainGlobals "may_follow" = some (some (.ref f_may_follow)))
    (l_may_follow : K.lookup f_may_follow = some ⟨oc_may_follow, od_may_follow, .func (PySem.W.fnOf "may_follow" "may_follow" (defArgs st_may_follow) (defBody st_may_follow) (defScope st_may_follow) .none kV_may_follow dc_may_follow pm_may_follow an_may_follow cd_may_follow ct_may_follow), sl_may_follow⟩)
    (c_may_follow : PySem.W.codeIn K cd_may_follow "may_follow" = true)
    (k_may_follow : PySem.W.keepIn K (.ref f_may_follow) = true)
    (a_is_repeated : PySem.W.nsIn K mainGlobals "is_repeated" = some (some (.ref f_is_repeated)))
    (l_is_repeated : K.lookup f_is_repeated = some ⟨oc_is_repeated, od_is_repeated, .func (PySem.W.fnOf "is_repeated" "is_repeated" (defArgs st_is_repeated) (defBody st_is_repeated) (defScope st_is_repeated) .none kV_is_repeated dc_is_repeated pm_is_repeated an_is_repeated cd_is_repeated ct_is_repeated), sl_is_repeated⟩)
    (c_is_repeated : PySem.W.codeIn K cd_is_repeated "is_repeated" = true)
    (k_is_repeated : PySem.W.keepIn K (.ref f_is_repeated) = true)
    (a_has_sign : PySem.W.nsIn K mainGlobals "has_sign" = some (some (.ref f_has_sign)))
    (l_has_sign : K.lookup f_has_sign = some ⟨oc_has_sign, od_has_sign, .func (PySem.W.fnOf "has_sign" "has_sign" (defArgs st_has_sign) (defBody st_has_sign) (defScope st_has_sign) .none kV_has_sign dc_has_sign pm_has_sign an_has_sign cd_has_sign ct_has_sign), sl_has_sign⟩)
    (c_has_sign : PySem.W.codeIn K cd_has_sign "has_sign" = true)
    (k_has_sign : PySem.W.keepIn K (.ref f_has_sign) = true)
    (a_fault_behind : PySem.W.nsIn K mainGlobals "fault_behind" = some (some (.ref f_fault_behind)))
    (l_fault_behind : K.lookup f_fault_behind = some ⟨oc_fault_behind, od_fault_behind, .func (PySem.W.fnOf "fault_behind" "fault_behind" (defArgs st_fault_behind) (defBody st_fault_behind) (defScope st_fault_behind) .none kV_fault_behind dc_fault_behind pm_fault_behind an_fault_behind cd_fault_behind ct_fault_behind), sl_fault_behind⟩)
    (c_fault_behind : PySem.W.codeIn K cd_fault_behind "fault_behind" = true)
    (k_fault_behind : PySem.W.keepIn K (.ref f_fault_behind) = true)
    (a_no_locker : PySem.W.nsIn K mainGlobals "no_locker" = some (some (.ref f_no_locker)))
    (l_no_locker : K.lookup f_no_locker = some ⟨oc_no_locker, od_no_locker, .func (PySem.W.fnOf "no_locker" "no_locker" (defArgs st_no_locker) (defBody st_no_locker) (defScope st_no_locker) .none kV_no_locker dc_no_locker pm_no_locker an_no_locker cd_no_locker ct_no_locker), sl_no_locker⟩)
    (c_no_locker : PySem.W.codeIn K cd_no_locker "no_locker" = true)
    (k_no_locker : PySem.W.keepIn K (.ref f_no_locker) = true)
    (a_read_text : PySem.W.nsIn K mainGlobals "read_text" = some (some (.ref f_read_text)))
    (l_read_text : K.lookup f_read_text = some ⟨oc_read_text, od_read_text, .func (PySem.W.fnOf "read_text" "read_text" (defArgs st_read_text) (defBody st_read_text) (defScope st_read_text) .none kV_read_text dc_read_text pm_read_text an_read_text cd_read_text ct_read_text), sl_read_text⟩)
    (c_read_text : PySem.W.codeIn K cd_read_text "read_text" = true)
    (k_read_text : PySem.W.keepIn K (.ref f_read_text) = true)
    (a_refusal_of : PySem.W.nsIn K mainGlobals "refusal_of" = some (some (.ref f_refusal_of)))
    (l_refusal_of : K.lookup f_refusal_of = some ⟨oc_refusal_of, od_refusal_of, .func (PySem.W.fnOf "refusal_of" "refusal_of" (defArgs st_refusal_of) (defBody st_refusal_of) (defScope st_refusal_of) .none kV_refusal_of dc_refusal_of pm_refusal_of an_refusal_of cd_refusal_of ct_refusal_of), sl_refusal_of⟩)
    (c_refusal_of : PySem.W.codeIn K cd_refusal_of "refusal_of" = true)
    (k_refusal_of : PySem.W.keepIn K (.ref f_refusal_of) = true)
    (a_refusal_of_kind : PySem.W.nsIn K mainGlobals "refusal_of_kind" = some (some (.ref f_refusal_of_kind)))
    (l_refusal_of_kind : K.lookup f_refusal_of_kind = some ⟨oc_refusal_of_kind, od_refusal_of_kind, .func (PySem.W.fnOf "refusal_of_kind" "refusal_of_kind" (defArgs st_refusal_of_kind) (defBody st_refusal_of_kind) (defScope st_refusal_of_kind) .none kV_refusal_of_kind dc_refusal_of_kind pm_refusal_of_kind an_refusal_of_kind cd_refusal_of_kind ct_refusal_of_kind), sl_refusal_of_kind⟩)
    (c_refusal_of_kind : PySem.W.codeIn K cd_refusal_of_kind "refusal_of_kind" = true)
    (k_refusal_of_kind : PySem.W.keepIn K (.ref f_refusal_of_kind) = true)
    (a_view : PySem.W.nsIn K mainGlobals "view" = some (some (.ref f_view)))
    (l_view : K.lookup f_view = some ⟨oc_view, od_view, .func (PySem.W.fnOf "view" "view" (defArgs st_view) (defBody st_view) (defScope st_view) .none kV_view dc_view pm_view an_view cd_view ct_view), sl_view⟩)
    (c_view : PySem.W.codeIn K cd_view "view" = true)
    (k_view : PySem.W.keepIn K (.ref f_view) = true)
    (a_views : PySem.W.nsIn K mainGlobals "views" = some (some (.ref f_views)))
    (l_views : K.lookup f_views = some ⟨oc_views, od_views, .func (PySem.W.fnOf "views" "views" (defArgs st_views) (defBody st_views) (defScope st_views) .none kV_views dc_views pm_views an_views cd_views ct_views), sl_views⟩)
    (c_views : PySem.W.codeIn K cd_views "views" = true)
    (k_views : PySem.W.keepIn K (.ref f_views) = true)
    (a_ways_apart : PySem.W.nsIn K mainGlobals "ways_apart" = some (some (.ref f_ways_apart)))
    (l_ways_apart : K.lookup f_ways_apart = some ⟨oc_ways_apart, od_ways_apart, .func (PySem.W.fnOf "ways_apart" "ways_apart" (defArgs st_ways_apart) (defBody st_ways_apart) (defScope st_ways_apart) .none kV_ways_apart dc_ways_apart pm_ways_apart an_ways_apart cd_ways_apart ct_ways_apart), sl_ways_apart⟩)
    (c_ways_apart : PySem.W.codeIn K cd_ways_apart "ways_apart" = true)
    (k_ways_apart : PySem.W.keepIn K (.ref f_ways_apart) = true)
    (a_meets_all : PySem.W.nsIn K mainGlobals "meets_all" = some (some (.ref f_meets_all)))
    (l_meets_all : K.lookup f_meets_all = some ⟨oc_meets_all, od_meets_all, .func (PySem.W.fnOf "meets_all" "meets_all" (defArgs st_meets_all) (defBody st_meets_all) (defScope st_meets_all) .none kV_meets_all dc_meets_all pm_meets_all an_meets_all cd_meets_all ct_meets_all), sl_meets_all⟩)
    (c_meets_all : PySem.W.codeIn K cd_meets_all "meets_all" = true)
    (k_meets_all : PySem.W.keepIn K (.ref f_meets_all) = true)
    (a_with_one_cell_more : PySem.W.nsIn K mainGlobals "with_one_cell_more" = some (some (.ref f_with_one_cell_more)))
    (l_with_one_cell_more : K.lookup f_with_one_cell_more = some ⟨oc_with_one_cell_more, od_with_one_cell_more, .func (PySem.W.fnOf "with_one_cell_more" "with_one_cell_more" (defArgs st_with_one_cell_more) (defBody st_with_one_cell_more) (defScope st_with_one_cell_more) .none kV_with_one_cell_more dc_with_one_cell_more pm_with_one_cell_more an_with_one_cell_more cd_with_one_cell_more ct_with_one_cell_more), sl_with_one_cell_more⟩)
    (c_with_one_cell_more : PySem.W.codeIn K cd_with_one_cell_more "with_one_cell_more" = true)
    (k_with_one_cell_more : PySem.W.keepIn K (.ref f_with_one_cell_more) = true)
    (a_least_choice : PySem.W.nsIn K mainGlobals "least_choice" = some (some (.ref f_least_choice)))
    (l_least_choice : K.lookup f_least_choice = some ⟨oc_least_choice, od_least_choice, .func (PySem.W.fnOf "least_choice" "least_choice" (defArgs st_least_choice) (defBody st_least_choice) (defScope st_least_choice) .none kV_least_choice dc_least_choice pm_least_choice an_least_choice cd_least_choice ct_least_choice), sl_least_choice⟩)
    (c_least_choice : PySem.W.codeIn K cd_least_choice "least_choice" = true)
    (k_least_choice : PySem.W.keepIn K (.ref f_least_choice) = true)
    (a_least : PySem.W.nsIn K mainGlobals "least" = some (some (.ref f_least)))
    (l_least : K.lookup f_least = some ⟨oc_least, od_least, .func (PySem.W.fnOf "least" "least" (defArgs st_least) (defBody st_least) (defScope st_least) .none kV_least dc_least pm_least an_least cd_least ct_least), sl_least⟩)
    (c_least : PySem.W.codeIn K cd_least "least" = true)
    (k_least : PySem.W.keepIn K (.ref f_least) = true) :
    ∃ fd : FuncData, (∀ (s : Shared) (us : List Value), us.length = (["i", "light", "side", "made", "t"] : List Str).length → BindsTo s fd ⟨us, []⟩ ((["i", "light", "side", "made", "t"] : List Str).zip us)) ∧ ∀ base : Heap, K.In base → base.Ns mainGlobals mg → FnOk P w K mg base CX0 7 fa fd ["i", "light", "side", "made", "t"] (spLeastL K) := by
  have e := hfa.symm.trans (PySem.W.mg_of X G a_least)
  cases e
  have TC : TxtC K mg := ⟨⟨t_CELLS, PySem.W.mg_of X G g_CELLS⟩, ⟨t_COLOURS, PySem.W.mg_of X G g_COLOURS⟩, ⟨t_ROW, PySem.W.mg_of X G g_ROW⟩, ⟨t_READ, PySem.W.mg_of X G g_READ⟩, ⟨t_TOO_LONG, PySem.W.mg_of X G g_TOO_LONG⟩, ⟨t_NO_LOCKER, PySem.W.mg_of X G g_NO_LOCKER⟩, ⟨t_SIGN, PySem.W.mg_of X G g_SIGN⟩, ⟨t_SAME, PySem.W.mg_of X G g_SAME⟩, ⟨t_ANSWER, PySem.W.mg_of X G g_ANSWER⟩, ⟨t_SOUND, PySem.W.mg_of X G g_SOUND⟩, ⟨t_MISPLACED, PySem.W.mg_of X G g_MISPLACED⟩, ⟨t_REPEATED, PySem.W.mg_of X G g_REPEATED⟩, ⟨t_ONE_SIGN_TOO_MANY, PySem.W.mg_of X G g_ONE_SIGN_TOO_MANY⟩, ⟨t_LOOKS_LIKE_ANOTHER, PySem.W.mg_of X G g_LOOKS_LIKE_ANOTHER⟩, ⟨t_MOST_BYTES, PySem.W.mg_of X G g_MOST_BYTES⟩, ⟨t_MOST_SIGNS, PySem.W.mg_of X G g_MOST_SIGNS⟩, ⟨t_MOST_COPIES, PySem.W.mg_of X G g_MOST_COPIES⟩, ⟨t_MOST_REPEAT, PySem.W.mg_of X G g_MOST_REPEAT⟩, ⟨t_LONGEST_NAME, PySem.W.mg_of X G g_LONGEST_NAME⟩, ⟨t_LINE_END, PySem.W.mg_of X G g_LINE_END⟩, ⟨t_BLANK, PySem.W.mg_of X G g_BLANK⟩, ⟨t_FRONT, PySem.W.mg_of X G g_FRONT⟩, ⟨t_BEHIND, PySem.W.mg_of X G g_BEHIND⟩, ⟨t_SIDE_NOT_KNOWN, PySem.W.mg_of X G g_SIDE_NOT_KNOWN⟩, ⟨t_SHAPE_MADE_OUT, PySem.W.mg_of X G g_SHAPE_MADE_OUT⟩, ⟨t_OUT_OF_BOUNDS, PySem.W.mg_of X G g_OUT_OF_BOUNDS⟩, ⟨t_NO_SUCH_KIND, PySem.W.mg_of X G g_NO_SUCH_KIND⟩, ⟨t_NONE, PySem.W.mg_of X G g_NONE⟩, PySem.W.mg_none_of X G z_len, PySem.W.mg_none_of X G z_ord, PySem.W.mg_none_of X G z_any, PySem.W.mg_none_of X G z_all, PySem.W.mg_none_of X G z_sum, PySem.W.mg_none_of X G z_enumerate, PySem.W.mg_none_of X G z_reversed, PySem.W.mg_none_of X G z_range, PySem.W.mg_none_of X G z_zip, PySem.W.mg_none_of X G z_sorted, PySem.W.mg_none_of X G z_set, PySem.W.mg_none_of X G z_list⟩
  have T : Txt K mg CK CR aS := ⟨TC, PySem.W.mg_of X G g_SHAPES, fun H => .inr ⟨_, _, _, l_SHAPES, rfl, rfl, (by show 3 ≤ sizeLine; decide), .cons ⟨_, rfl⟩ (.cons ⟨_, rfl⟩ (.cons ⟨_, rfl⟩ .nil))⟩, ⟨pg_Kind, hd_Kind, po_Kind, sa_Kind⟩, ⟨pg_Reading, hd_Reading, po_Reading, sa_Reading⟩, na_Kind_group, na_Kind_title, na_Kind_repeat, na_Kind_copies, na_Kind_shape, na_Kind_look, na_Reading_answer, na_Reading_fault, na_Reading_line, na_Reading_kinds⟩
  have F_digits_of := fun_mk (st := st_digits_of) l_digits_of c_digits_of k_digits_of
  have b_digits_of := F_digits_of.binds (ps := ["number"]) fun _ _ _ _ _ _ us hl => match us, hl with | [_], _ => rfl
  have F_number_of := fun_mk (st := st_number_of) l_number_of c_number_of k_number_of
  have b_number_of := F_number_of.binds (ps := ["digits"]) fun _ _ _ _ _ _ us hl => match us, hl with | [_], _ => rfl
  have F_in_light := fun_mk (st := st_in_light) l_in_light c_in_light k_in_light
  have b_in_light := F_in_light.binds (ps := ["look", "light"]) fun _ _ _ _ _ _ us hl => match us, hl with | [_, _], _ => rfl
  have F_mirrored := fun_mk (st := st_mirrored) l_mirrored c_mirrored k_mirrored
  have b_mirrored := F_mirrored.binds (ps := ["cell"]) fun _ _ _ _ _ _ us hl => match us, hl with | [_], _ => rfl
  have F_from_behind := fun_mk (st := st_from_behind) l_from_behind c_from_behind k_from_behind
  have b_from_behind := F_from_behind.binds (ps := ["look"]) fun _ _ _ _ _ _ us hl => match us, hl with | [_], _ => rfl
  have F_cells_apart := fun_mk (st := st_cells_apart) l_cells_apart c_cells_apart k_cells_apart
  have b_cells_apart := F_cells_apart.binds (ps := ["look", "other"]) fun _ _ _ _ _ _ us hl => match us, hl with | [_, _], _ => rfl
  have F_is_name_byte := fun_mk (st := st_is_name_byte) l_is_name_byte c_is_name_byte k_is_name_byte
  have b_is_name_byte := F_is_name_byte.binds (ps := ["byte"]) fun _ _ _ _ _ _ us hl => match us, hl with | [_], _ => rfl
  have F_colour_told := fun_mk (st := st_colour_told) l_colour_told c_colour_told k_colour_told
  have b_colour_told := F_colour_told.binds (ps := ["byte"]) fun _ _ _ _ _ _ us hl => match us, hl with | [_], _ => rfl
  have F_digit_to := fun_mk (st := st_digit_to) l_digit_to c_digit_to k_digit_to
  have b_digit_to := F_digit_to.binds (ps := ["most", "word"]) fun _ _ _ _ _ _ us hl => match us, hl with | [_, _], _ => rfl
  have F_spelled := fun_mk (st := st_spelled) l_spelled c_spelled k_spelled
  have b_spelled := F_spelled.binds (ps := ["word"]) fun _ _ _ _ _ _ us hl => match us, hl with | [_], _ => rfl
  have F_is_name := fun_mk (st := st_is_name) l_is_name c_is_name k_is_name
  have b_is_name := F_is_name.binds (ps := ["word"]) fun _ _ _ _ _ _ us hl => match us, hl with | [_], _ => rfl
  have F_shape_told := fun_mk (st := st_shape_told) l_shape_told c_shape_told k_shape_told
  have b_shape_told := F_shape_told.binds (ps := ["word"]) fun _ _ _ _ _ _ us hl => match us, hl with | [_], _ => rfl
  have F_look_told := fun_mk (st := st_look_told) l_look_told c_look_told k_look_told
  have b_look_told := F_look_told.binds (ps := ["word"]) fun _ _ _ _ _ _ us hl => match us, hl with | [_], _ => rfl
  have F_Kind := fun_mk (st := st_Kind___init__) l_Kind c_Kind k_Kind
  have b_Kind := F_Kind.binds (ps := ["self", "group", "title", "repeat", "copies", "shape", "look"]) fun _ _ _ _ _ _ us hl => match us, hl with | [_, _, _, _, _, _, _], _ => rfl
  have F_Reading := fun_mk (st := st_Reading___init__) l_Reading c_Reading k_Reading
  have b_Reading := F_Reading.binds (ps := ["self", "answer", "fault", "line", "kinds"]) fun _ _ _ _ _ _ us hl => match us, hl with | [_, _, _, _, _], _ => rfl
  have F_split_at := fun_mk (st := st_split_at) l_split_at c_split_at k_split_at
  have b_split_at := F_split_at.binds (ps := ["mark", "row"]) fun _ _ _ _ _ _ us hl => match us, hl with | [_, _], _ => rfl
  have F_is_locker_line := fun_mk (st := st_is_locker_line) l_is_locker_line c_is_locker_line k_is_locker_line
  have b_is_locker_line := F_is_locker_line.binds (ps := ["words"]) fun _ _ _ _ _ _ us hl => match us, hl with | [_], _ => rfl
  have F_kind_with := fun_mk (st := st_kind_with) l_kind_with c_kind_with k_kind_with
  have b_kind_with := F_kind_with.binds (ps := ["group", "title", "repeat", "words"]) fun _ _ _ _ _ _ us hl => match us, hl with | [_, _, _, _], _ => rfl
  have F_kind_told := fun_mk (st := st_kind_told) l_kind_told c_kind_told k_kind_told
  have b_kind_told := F_kind_told.binds (ps := ["words"]) fun _ _ _ _ _ _ us hl => match us, hl with | [_], _ => rfl
  have F_may_follow := fun_mk (st := st_may_follow) l_may_follow c_may_follow k_may_follow
  have b_may_follow := F_may_follow.binds (ps := ["kinds", "kind"]) fun _ _ _ _ _ _ us hl => match us, hl with | [_, _], _ => rfl
  have F_is_repeated := fun_mk (st := st_is_repeated) l_is_repeated c_is_repeated k_is_repeated
  have b_is_repeated := F_is_repeated.binds (ps := ["before", "kind"]) fun _ _ _ _ _ _ us hl => match us, hl with | [_, _], _ => rfl
  have F_has_sign := fun_mk (st := st_has_sign) l_has_sign c_has_sign k_has_sign
  have b_has_sign := F_has_sign.binds (ps := ["kinds"]) fun _ _ _ _ _ _ us hl => match us, hl with | [_], _ => rfl
  have F_fault_behind := fun_mk (st := st_fault_behind) l_fault_behind c_fault_behind k_fault_behind
  have b_fault_behind := F_fault_behind.binds (ps := ["kinds", "kind"]) fun _ _ _ _ _ _ us hl => match us, hl with | [_, _], _ => rfl
  have F_no_locker := fun_mk (st := st_no_locker) l_no_locker c_no_locker k_no_locker
  have b_no_locker := F_no_locker.binds (ps := ["fault", "line"]) fun _ _ _ _ _ _ us hl => match us, hl with | [_, _], _ => rfl
  have F_read_text := fun_mk (st := st_read_text) l_read_text c_read_text k_read_text
  have b_read_text := F_read_text.binds (ps := ["t"]) fun _ _ _ _ _ _ us hl => match us, hl with | [_], _ => rfl
  have F_refusal_of := fun_mk (st := st_refusal_of) l_refusal_of c_refusal_of k_refusal_of
  have b_refusal_of := F_refusal_of.binds (ps := ["reading", "within"]) fun _ _ _ _ _ _ us hl => match us, hl with | [_, _], _ => rfl
  have F_refusal_of_kind := fun_mk (st := st_refusal_of_kind) l_refusal_of_kind c_refusal_of_kind k_refusal_of_kind
  have b_refusal_of_kind := F_refusal_of_kind.binds (ps := ["i", "reading", "within"]) fun _ _ _ _ _ _ us hl => match us, hl with | [_, _, _], _ => rfl
  have F_view := fun_mk (st := st_view) l_view c_view k_view
  have b_view := F_view.binds (ps := ["kind", "light", "side"]) fun _ _ _ _ _ _ us hl => match us, hl with | [_, _, _], _ => rfl
  have F_views := fun_mk (st := st_views) l_views c_views k_views
  have b_views := F_views.binds (ps := ["kind", "light", "side"]) fun _ _ _ _ _ _ us hl => match us, hl with | [_, _, _], _ => rfl
  have F_ways_apart := fun_mk (st := st_ways_apart) l_ways_apart c_ways_apart k_ways_apart
  have b_ways_apart := F_ways_apart.binds (ps := ["kinds", "i", "light", "side", "shape_made_out"]) fun _ _ _ _ _ _ us hl => match us, hl with | [_, _, _, _, _], _ => rfl
  have F_meets_all := fun_mk (st := st_meets_all) l_meets_all c_meets_all k_meets_all
  have b_meets_all := F_meets_all.binds (ps := ["choice", "apart"]) fun _ _ _ _ _ _ us hl => match us, hl with | [_, _], _ => rfl
  have F_with_one_cell_more := fun_mk (st := st_with_one_cell_more) l_with_one_cell_more c_with_one_cell_more k_with_one_cell_more
  have b_with_one_cell_more := F_with_one_cell_more.binds (ps := ["choices"]) fun _ _ _ _ _ _ us hl => match us, hl with | [_], _ => rfl
  have F_least_choice := fun_mk (st := st_least_choice) l_least_choice c_least_choice k_least_choice
  have b_least_choice := F_least_choice.binds (ps := ["kinds", "i", "light", "side", "shape_made_out"]) fun _ _ _ _ _ _ us hl => match us, hl with | [_, _, _, _, _], _ => rfl
  have F_least := fun_mk (st := st_least) l_least c_least k_least
  have b_least := F_least.binds (ps := ["i", "light", "side", "made", "t"]) fun _ _ _ _ _ _ us hl => match us, hl with | [_, _, _, _, _], _ => rfl
  refine ⟨PySem.W.fnOf "least" "least" (defArgs st_least) (defBody st_least) (defScope st_least) .none kV_least dc_least pm_least an_least cd_least ct_least, fun s us hu => match us, hu with | [_, _, _, _, _], _ => .of_eq rfl, fun base _ _ => ?_⟩
  have D_digits_of : DefOk P w K mg base 1 "digits_of" ["number"] spDigits := ⟨⟨f_digits_of, _, ok_digits_of F_digits_of TC, PySem.W.mg_of X G a_digits_of, k_digits_of, b_digits_of⟩⟩
  have D_number_of : DefOk P w K mg base 1 "number_of" ["digits"] (spNumber K) := ⟨⟨f_number_of, _, ok_number_of F_number_of TC, PySem.W.mg_of X G a_number_of, k_number_of, b_number_of⟩⟩
  have D_in_light : DefOk P w K mg base 2 "in_light" ["look", "light"] spInLight := ⟨⟨f_in_light, _, ok_in_light F_in_light TC D_digits_of D_number_of, PySem.W.mg_of X G a_in_light, k_in_light, b_in_light⟩⟩
  have D_mirrored : DefOk P w K mg base 1 "mirrored" ["cell"] spMirror := ⟨⟨f_mirrored, _, ok_mirrored F_mirrored TC, PySem.W.mg_of X G a_mirrored, k_mirrored, b_mirrored⟩⟩
  have D_from_behind : DefOk P w K mg base 2 "from_behind" ["look"] spBehind := ⟨⟨f_from_behind, _, ok_from_behind F_from_behind TC D_digits_of D_number_of D_mirrored, PySem.W.mg_of X G a_from_behind, k_from_behind, b_from_behind⟩⟩
  have D_cells_apart : DefOk P w K mg base 2 "cells_apart" ["look", "other"] spApart := ⟨⟨f_cells_apart, _, ok_cells_apart F_cells_apart TC D_digits_of, PySem.W.mg_of X G a_cells_apart, k_cells_apart, b_cells_apart⟩⟩
  have D_is_name_byte : DefOk P w K mg base 1 "is_name_byte" ["byte"] spNameByte := ⟨⟨f_is_name_byte, _, ok_is_name_byte F_is_name_byte T, PySem.W.mg_of X G a_is_name_byte, k_is_name_byte, b_is_name_byte⟩⟩
  have D_colour_told : DefOk P w K mg base 1 "colour_told" ["byte"] spColour := ⟨⟨f_colour_told, _, ok_colour_told F_colour_told T, PySem.W.mg_of X G a_colour_told, k_colour_told, b_colour_told⟩⟩
  have D_digit_to : DefOk P w K mg base 1 "digit_to" ["most", "word"] (spDigit K) := ⟨⟨f_digit_to, _, ok_digit_to F_digit_to T, PySem.W.mg_of X G a_digit_to, k_digit_to, b_digit_to⟩⟩
  have D_spelled : DefOk P w K mg base 1 "spelled" ["word"] spSpelled := ⟨⟨f_spelled, _, ok_spelled F_spelled T, PySem.W.mg_of X G a_spelled, k_spelled, b_spelled⟩⟩
  have D_is_name : DefOk P w K mg base 2 "is_name" ["word"] (spIsName K) := ⟨⟨f_is_name, _, ok_is_name F_is_name T D_is_name_byte, PySem.W.mg_of X G a_is_name, k_is_name, b_is_name⟩⟩
  have D_shape_told : DefOk P w K mg base 2 "shape_told" ["word"] (spShape K) := ⟨⟨f_shape_told, _, ok_shape_told F_shape_told T D_spelled, PySem.W.mg_of X G a_shape_told, k_shape_told, b_shape_told⟩⟩
  have D_look_told : DefOk P w K mg base 2 "look_told" ["word"] (spLook K) := ⟨⟨f_look_told, _, ok_look_told F_look_told T D_colour_told D_number_of, PySem.W.mg_of X G a_look_told, k_look_told, b_look_told⟩⟩
  have D_Kind : ClsOk P w K mg base 1 "Kind" CK ["self", "group", "title", "repeat", "copies", "shape", "look"] (spKindInit CK) := ⟨⟨f_Kind, _, ok_Kind_init F_Kind T, ⟨mk_Kind, i_Kind, n_Kind, kc_Kind⟩, PySem.W.mg_of X G a_Kind, b_Kind⟩⟩
  have D_Reading : ClsOk P w K mg base 1 "Reading" CR ["self", "answer", "fault", "line", "kinds"] (spReadInit CR) := ⟨⟨f_Reading, _, ok_Reading_init F_Reading T, ⟨mk_Reading, i_Reading, n_Reading, kc_Reading⟩, PySem.W.mg_of X G a_Reading, b_Reading⟩⟩
  have D_split_at : DefOk P w K mg base 1 "split_at" ["mark", "row"] (spSplit K) := ⟨⟨f_split_at, _, ok_split_at F_split_at T, PySem.W.mg_of X G a_split_at, k_split_at, b_split_at⟩⟩
  have D_is_locker_line : DefOk P w K mg base 3 "is_locker_line" ["words"] (spLockerLine K) := ⟨⟨f_is_locker_line, _, ok_is_locker_line F_is_locker_line T D_spelled D_is_name, PySem.W.mg_of X G a_is_locker_line, k_is_locker_line, b_is_locker_line⟩⟩
  have D_kind_with : DefOk P w K mg base 3 "kind_with" ["group", "title", "repeat", "words"] (spKindWith CK K) := ⟨⟨f_kind_with, _, ok_kind_with F_kind_with T D_digit_to D_shape_told D_look_told D_Kind, PySem.W.mg_of X G a_kind_with, k_kind_with, b_kind_with⟩⟩
  have D_kind_told : DefOk P w K mg base 4 "kind_told" ["words"] (spKindTold CK K) := ⟨⟨f_kind_told, _, ok_kind_told F_kind_told T D_spelled D_is_name D_digit_to D_kind_with, PySem.W.mg_of X G a_kind_told, k_kind_told, b_kind_told⟩⟩
  have D_may_follow : DefOk P w K mg base 1 "may_follow" ["kinds", "kind"] (spMay CK K) := ⟨⟨f_may_follow, _, ok_may_follow F_may_follow T, PySem.W.mg_of X G a_may_follow, k_may_follow, b_may_follow⟩⟩
  have D_is_repeated : DefOk P w K mg base 1 "is_repeated" ["before", "kind"] (spRepd CK K) := ⟨⟨f_is_repeated, _, ok_is_repeated F_is_repeated T, PySem.W.mg_of X G a_is_repeated, k_is_repeated, b_is_repeated⟩⟩
  have D_has_sign : DefOk P w K mg base 1 "has_sign" ["kinds"] (spHasSign CK K) := ⟨⟨f_has_sign, _, ok_has_sign F_has_sign T, PySem.W.mg_of X G a_has_sign, k_has_sign, b_has_sign⟩⟩
  have D_fault_behind : DefOk P w K mg base 2 "fault_behind" ["kinds", "kind"] (spFault CK K) := ⟨⟨f_fault_behind, _, ok_fault_behind F_fault_behind T D_may_follow D_is_repeated, PySem.W.mg_of X G a_fault_behind, k_fault_behind, b_fault_behind⟩⟩
  have D_no_locker : DefOk P w K mg base 3 "no_locker" ["fault", "line"] (spNoLocker CK CR K) := ⟨⟨f_no_locker, _, ok_no_locker F_no_locker T D_Reading, PySem.W.mg_of X G a_no_locker, k_no_locker, b_no_locker⟩⟩
  have D_read_text : DefOk P w K mg base 5 "read_text" ["t"] (spRead CK CR K) := ⟨⟨f_read_text, _, ok_read_text F_read_text T D_Reading D_split_at D_is_locker_line D_no_locker D_kind_told D_fault_behind D_has_sign, PySem.W.mg_of X G a_read_text, k_read_text, b_read_text⟩⟩
  have D_refusal_of : DefOk P w K mg base 1 "refusal_of" ["reading", "within"] (spRef CK CR K) := ⟨⟨f_refusal_of, _, ok_refusal_of F_refusal_of T, PySem.W.mg_of X G a_refusal_of, k_refusal_of, b_refusal_of⟩⟩
  have D_refusal_of_kind : DefOk P w K mg base 2 "refusal_of_kind" ["i", "reading", "within"] (spRefK CK CR K) := ⟨⟨f_refusal_of_kind, _, ok_refusal_of_kind F_refusal_of_kind T D_refusal_of, PySem.W.mg_of X G a_refusal_of_kind, k_refusal_of_kind, b_refusal_of_kind⟩⟩
  have D_view : DefOk P w K mg base 3 "view" ["kind", "light", "side"] (spView CK K) := ⟨⟨f_view, _, ok_view F_view T D_in_light D_from_behind, PySem.W.mg_of X G a_view, k_view, b_view⟩⟩
  have D_views : DefOk P w K mg base 4 "views" ["kind", "light", "side"] (spViews CK K) := ⟨⟨f_views, _, ok_views F_views T D_view, PySem.W.mg_of X G a_views, k_views, b_views⟩⟩
  have D_ways_apart : DefOk P w K mg base 5 "ways_apart" ["kinds", "i", "light", "side", "shape_made_out"] (spWays CK K) := ⟨⟨f_ways_apart, _, ok_ways_apart F_ways_apart T D_views D_cells_apart, PySem.W.mg_of X G a_ways_apart, k_ways_apart, b_ways_apart⟩⟩
  have D_meets_all : DefOk P w K mg base 1 "meets_all" ["choice", "apart"] (spMeets K) := ⟨⟨f_meets_all, _, ok_meets_all F_meets_all T, PySem.W.mg_of X G a_meets_all, k_meets_all, b_meets_all⟩⟩
  have D_with_one_cell_more : DefOk P w K mg base 1 "with_one_cell_more" ["choices"] (spMore K) := ⟨⟨f_with_one_cell_more, _, ok_with_one_cell_more F_with_one_cell_more T, PySem.W.mg_of X G a_with_one_cell_more, k_with_one_cell_more, b_with_one_cell_more⟩⟩
  have D_least_choice : DefOk P w K mg base 6 "least_choice" ["kinds", "i", "light", "side", "shape_made_out"] (spLeastC CK K) := ⟨⟨f_least_choice, _, ok_least_choice F_least_choice T D_ways_apart D_meets_all D_with_one_cell_more, PySem.W.mg_of X G a_least_choice, k_least_choice, b_least_choice⟩⟩
  exact ok_least F_least T D_read_text D_refusal_of_kind D_least_choice
end Lk
open PySem PySem.W PyProof.Rows
set_option maxRecDepth 100000 in
set_option maxHeartbeats 0 in
theorem PySem.Challenge.cw_flaglockerdesk_s09_least_holds : PySem.Challenge.rw_flaglockerdesk_s09_least.Holds := by
  w_on; k_headS; (case hw => exact ⟨[.int 0, .int 0, .int 0, .int 0, .list []], by decide +kernel, by decide +kernel⟩)
  k_fillS
  refine L2.walk_specK (r := PySem.Challenge.rw_flaglockerdesk_s09_least) (k := 7) (CX := L2.CX0) (ps := ["i", "light", "side", "made", "t"]) (sp := Lk.spLeastL) (by decide +kernel) rfl rfl ⟨rfl, by decide, by decide⟩ (fun w h Y => PySem.W.kIn_of Y) ?F ?S (fun _ _ _ _ z => z)
  case F =>
    intro w mg fa h Y KX G hmg
    refine' Lk.all_mk KX G hmg ?g_CELLS ?g_COLOURS ?g_ROW ?g_READ ?g_TOO_LONG ?g_NO_LOCKER ?g_SIGN ?g_SAME ?g_ANSWER ?g_SOUND ?g_MISPLACED ?g_REPEATED ?g_ONE_SIGN_TOO_MANY ?g_LOOKS_LIKE_ANOTHER ?g_MOST_BYTES ?g_MOST_SIGNS ?g_MOST_COPIES ?g_MOST_REPEAT ?g_LONGEST_NAME ?g_LINE_END ?g_BLANK ?g_FRONT ?g_BEHIND ?g_SIDE_NOT_KNOWN ?g_SHAPE_MADE_OUT ?g_OUT_OF_BOUNDS ?g_NO_SUCH_KIND ?g_NONE ?g_SHAPES ?l_SHAPES ?z_len ?z_ord ?z_any ?z_all ?z_sum ?z_enumerate ?z_reversed ?z_range ?z_zip ?z_sorted ?z_set ?z_list ?a_digits_of ?l_digits_of ?c_digits_of ?k_digits_of ?a_number_of ?l_number_of ?c_number_of ?k_number_of ?a_in_light ?l_in_light ?c_in_light ?k_in_light ?a_mirrored ?l_mirrored ?c_mirrored ?k_mirrored ?a_from_behind ?l_from_behind ?c_from_behind ?k_from_behind ?a_cells_apart ?l_cells_apart ?c_cells_apart ?k_cells_apart ?a_is_name_byte ?l_is_name_byte ?c_is_name_byte ?k_is_name_byte ?a_colour_told ?l_colour_told ?c_colour_told ?k_colour_told ?a_digit_to ?l_digit_to ?c_digit_to ?k_digit_to ?a_spelled ?l_spelled ?c_spelled ?k_spelled ?a_is_name ?l_is_name ?c_is_name ?k_is_name ?a_shape_told ?l_shape_told ?c_shape_told ?k_shape_told ?a_look_told ?l_look_told ?c_look_told ?k_look_told ?a_Kind ?i_Kind ?l_Kind ?c_Kind ?k_Kind ?n_Kind ?pg_Kind ?hd_Kind ?po_Kind ?sa_Kind ?mk_Kind ?kc_Kind ?na_Kind_group ?na_Kind_title ?na_Kind_repeat ?na_Kind_copies ?na_Kind_shape ?na_Kind_look ?a_Reading ?i_Reading ?l_Reading ?c_Reading ?k_Reading ?n_Reading ?pg_Reading ?hd_Reading ?po_Reading ?sa_Reading ?mk_Reading ?kc_Reading ?na_Reading_answer ?na_Reading_fault ?na_Reading_line ?na_Reading_kinds ?a_split_at ?l_split_at ?c_split_at ?k_split_at ?a_is_locker_line ?l_is_locker_line ?c_is_locker_line ?k_is_locker_line ?a_kind_with ?l_kind_with ?c_kind_with ?k_kind_with ?a_kind_told ?l_kind_told ?c_kind_told ?k_kind_told ?a_may_follow ?l_may_follow ?c_may_follow ?k_may_follow ?a_is_repeated ?l_is_repeated ?c_is_repeated ?k_is_repeated ?a_has_sign ?l_has_sign ?c_has_sign ?k_has_sign ?a_fault_behind ?l_fault_behind ?c_fault_behind ?k_fault_behind ?a_no_locker ?l_no_locker ?c_no_locker ?k_no_locker ?a_read_text ?l_read_text ?c_read_text ?k_read_text ?a_refusal_of ?l_refusal_of ?c_refusal_of ?k_refusal_of ?a_refusal_of_kind ?l_refusal_of_kind ?c_refusal_of_kind ?k_refusal_of_kind ?a_view ?l_view ?c_view ?k_view ?a_views ?l_views ?c_views ?k_views ?a_ways_apart ?l_ways_apart ?c_ways_apart ?k_ways_apart ?a_meets_all ?l_meets_all ?c_meets_all ?k_meets_all ?a_with_one_cell_more ?l_with_one_cell_more ?c_with_one_cell_more ?k_with_one_cell_more ?a_least_choice ?l_least_choice ?c_least_choice ?k_least_choice ?a_least ?l_least ?c_least ?k_least
    (case g_CELLS => k_is)
    (case g_COLOURS => k_is)
    (case g_ROW => k_is)
    (case g_READ => k_is)
    (case g_TOO_LONG => k_is)
    (case g_NO_LOCKER => k_is)
    (case g_SIGN => k_is)
    (case g_SAME => k_is)
    (case g_ANSWER => k_is)
    (case g_SOUND => k_is)
    (case g_MISPLACED => k_is)
    (case g_REPEATED => k_is)
    (case g_ONE_SIGN_TOO_MANY => k_is)
    (case g_LOOKS_LIKE_ANOTHER => k_is)
    (case g_MOST_BYTES => k_is)
    (case g_MOST_SIGNS => k_is)
    (case g_MOST_COPIES => k_is)
    (case g_MOST_REPEAT => k_is)
    (case g_LONGEST_NAME => k_is)
    (case g_LINE_END => k_is)
    (case g_BLANK => k_is)
    (case g_FRONT => k_is)
    (case g_BEHIND => k_is)
    (case g_SIDE_NOT_KNOWN => k_is)
    (case g_SHAPE_MADE_OUT => k_is)
    (case g_OUT_OF_BOUNDS => k_is)
    (case g_NO_SUCH_KIND => k_is)
    (case g_NONE => k_is)
    (case g_SHAPES => k_is)
    (case l_SHAPES => k_is)
    (case z_len => k_is)
    (case z_ord => k_is)
    (case z_any => k_is)
    (case z_all => k_is)
    (case z_sum => k_is)
    (case z_enumerate => k_is)
    (case z_reversed => k_is)
    (case z_range => k_is)
    (case z_zip => k_is)
    (case z_sorted => k_is)
    (case z_set => k_is)
    (case z_list => k_is)
    (case a_digits_of => k_is)
    (case l_digits_of => k_is)
    (case c_digits_of => k_is)
    (case k_digits_of => k_is)
    (case a_number_of => k_is)
    (case l_number_of => k_is)
    (case c_number_of => k_is)
    (case k_number_of => k_is)
    (case a_in_light => k_is)
    (case l_in_light => k_is)
    (case c_in_light => k_is)
    (case k_in_light => k_is)
    (case a_mirrored => k_is)
    (case l_mirrored => k_is)
    (case c_mirrored => k_is)
    (case k_mirrored => k_is)
    (case a_from_behind => k_is)
    (case l_from_behind => k_is)
    (case c_from_behind => k_is)
    (case k_from_behind => k_is)
    (case a_cells_apart => k_is)
    (case l_cells_apart => k_is)
    (case c_cells_apart => k_is)
    (case k_cells_apart => k_is)
    (case a_is_name_byte => k_is)
    (case l_is_name_byte => k_is)
    (case c_is_name_byte => k_is)
    (case k_is_name_byte => k_is)
    (case a_colour_told => k_is)
    (case l_colour_told => k_is)
    (case c_colour_told => k_is)
    (case k_colour_told => k_is)
    (case a_digit_to => k_is)
    (case l_digit_to => k_is)
    (case c_digit_to => k_is)
    (case k_digit_to => k_is)
    (case a_spelled => k_is)
    (case l_spelled => k_is)
    (case c_spelled => k_is)
    (case k_spelled => k_is)
    (case a_is_name => k_is)
    (case l_is_name => k_is)
    (case c_is_name => k_is)
    (case k_is_name => k_is)
    (case a_shape_told => k_is)
    (case l_shape_told => k_is)
    (case c_shape_told => k_is)
    (case k_shape_told => k_is)
    (case a_look_told => k_is)
    (case l_look_told => k_is)
    (case c_look_told => k_is)
    (case k_look_told => k_is)
    (case a_Kind => k_is)
    (case i_Kind => k_is)
    (case l_Kind => k_is)
    (case c_Kind => k_is)
    (case k_Kind => k_is)
    (case n_Kind => k_is)
    (case pg_Kind => k_is)
    (case hd_Kind => k_is)
    (case po_Kind => k_is)
    (case sa_Kind => k_is)
    (case mk_Kind => k_is)
    (case kc_Kind => k_is)
    (case na_Kind_group => k_is)
    (case na_Kind_title => k_is)
    (case na_Kind_repeat => k_is)
    (case na_Kind_copies => k_is)
    (case na_Kind_shape => k_is)
    (case na_Kind_look => k_is)
    (case a_Reading => k_is)
    (case i_Reading => k_is)
    (case l_Reading => k_is)
    (case c_Reading => k_is)
    (case k_Reading => k_is)
    (case n_Reading => k_is)
    (case pg_Reading => k_is)
    (case hd_Reading => k_is)
    (case po_Reading => k_is)
    (case sa_Reading => k_is)
    (case mk_Reading => k_is)
    (case kc_Reading => k_is)
    (case na_Reading_answer => k_is)
    (case na_Reading_fault => k_is)
    (case na_Reading_line => k_is)
    (case na_Reading_kinds => k_is)
    (case a_split_at => k_is)
    (case l_split_at => k_is)
    (case c_split_at => k_is)
    (case k_split_at => k_is)
    (case a_is_locker_line => k_is)
    (case l_is_locker_line => k_is)
    (case c_is_locker_line => k_is)
    (case k_is_locker_line => k_is)
    (case a_kind_with => k_is)
    (case l_kind_with => k_is)
    (case c_kind_with => k_is)
    (case k_kind_with => k_is)
    (case a_kind_told => k_is)
    (case l_kind_told => k_is)
    (case c_kind_told => k_is)
    (case k_kind_told => k_is)
    (case a_may_follow => k_is)
    (case l_may_follow => k_is)
    (case c_may_follow => k_is)
    (case k_may_follow => k_is)
    (case a_is_repeated => k_is)
    (case l_is_repeated => k_is)
    (case c_is_repeated => k_is)
    (case k_is_repeated => k_is)
    (case a_has_sign => k_is)
    (case l_has_sign => k_is)
    (case c_has_sign => k_is)
    (case k_has_sign => k_is)
    (case a_fault_behind => k_is)
    (case l_fault_behind => k_is)
    (case c_fault_behind => k_is)
    (case k_fault_behind => k_is)
    (case a_no_locker => k_is)
    (case l_no_locker => k_is)
    (case c_no_locker => k_is)
    (case k_no_locker => k_is)
    (case a_read_text => k_is)
    (case l_read_text => k_is)
    (case c_read_text => k_is)
    (case k_read_text => k_is)
    (case a_refusal_of => k_is)
    (case l_refusal_of => k_is)
    (case c_refusal_of => k_is)
    (case k_refusal_of => k_is)
    (case a_refusal_of_kind => k_is)
    (case l_refusal_of_kind => k_is)
    (case c_refusal_of_kind => k_is)
    (case k_refusal_of_kind => k_is)
    (case a_view => k_is)
    (case l_view => k_is)
    (case c_view => k_is)
    (case k_view => k_is)
    (case a_views => k_is)
    (case l_views => k_is)
    (case c_views => k_is)
    (case k_views => k_is)
    (case a_ways_apart => k_is)
    (case l_ways_apart => k_is)
    (case c_ways_apart => k_is)
    (case k_ways_apart => k_is)
    (case a_meets_all => k_is)
    (case l_meets_all => k_is)
    (case c_meets_all => k_is)
    (case k_meets_all => k_is)
    (case a_with_one_cell_more => k_is)
    (case l_with_one_cell_more => k_is)
    (case c_with_one_cell_more => k_is)
    (case k_with_one_cell_more => k_is)
    (case a_least_choice => k_is)
    (case l_least_choice => k_is)
    (case c_least_choice => k_is)
    (case k_least_choice => k_is)
    (case a_least => k_is)
    (case l_least => k_is)
    (case c_least => k_is)
    (case k_least => k_is)
  case S =>
    intro K H xs a hO hwi hask hx
    cases hx with
    | cons h0 r0 =>
    cases h0
    cases r0 with
    | cons h1 r1 =>
    cases h1
    cases r1 with
    | cons h2 r2 =>
    cases h2
    cases r2 with
    | cons h3 r3 =>
    cases h3
    cases r3 with
    | cons h4 r4 =>
    cases h4 with
    | lst hs4 ha4 =>
    have e4 := L2.ints_dw a.2.2.2.2.1 _ ha4
    subst e4
    cases r4
    have q : (Codec.inInt 0 18446744073709551615 a.1 && (Codec.inInt 0 18446744073709551615 a.2.1 && (Codec.inInt 0 18446744073709551615 a.2.2.1 && (Codec.inInt 0 18446744073709551615 a.2.2.2.1 && ((Codec.inLen 0 66000 a.2.2.2.2.1 && a.2.2.2.2.1.all (Codec.inInt 0 255)) && true))))) = true := hwi
    simp only [Bool.and_eq_true, Bool.and_true] at q
    exact ⟨a.1, a.2.1, a.2.2.1, a.2.2.2.1, _, a.2.2.2.2.1, rfl, (Codec.inInt_iff.mp q.1).1, (Codec.inInt_iff.mp q.2.1).1, (Codec.inInt_iff.mp q.2.2.1).1, (Codec.inInt_iff.mp q.2.2.2.1).1, hs4, (Codec.inNat_iff.mp q.2.2.2.2.1).2, fun x hx => Codec.inInt_iff.mp (List.all_eq_true.mp q.2.2.2.2.2 x hx), fun H' p hp => .lst (L2.SqL.of hp) (L2.dw_ints _)⟩
#print axioms PySem.Challenge.cw_flaglockerdesk_s09_least_holds
